import PyProof.Rows.All
import Wide.All
import OpenK.AllK
import Wide.FinOn
import KE.KNest
import KE.KNestM
import HandS.ForMost
import HandS.HeadHook2
import HandS.HeadHook4
import HandS.Head2
import HandS.HeadEnd
import HandS.Walk
import HandS.ExcValue
import HandS.ExcInit
import HandS.Nested
import HandS.IsInst
import KE.KExcSuper
import HandS.ExcField
import KE.KExcIs
import HandS.Text
import HandS.Iter
import KE.GoesMore
import PyProof.EnumMake
import HandS.Lambda
import HandS.WordsExc
import HandS.WordsDict
import KE.KDictSum
import KE.SortData
import HandS.List
import HandS.SortInts
import HandS.Conv
import HandS.Zip
import HandS.TupAny
import HandS.TupLe
import HandS.DictComp
import HandS.DeepEq
import HandS.DictEq
import HandS.More
import PyProof.TupleOfGen
import HandS.Property
import PyProof.DictDisplay
import HandS.Dict
import HandS.ListItems
import HandS.RaiseMore
import PyProof.ReprBulk
import HandS.MakeKwOnly
import HandS.FStr
import PyProof.InstEq
import HandS.OwnEq
import HandS.SlotsOwn
import HandS.Call
import HandS.Finally
import HandS.EndTab
import HandS.NestedK
import PySem.Challenge.RW_stillknown_k07_loops_of_any_parts
set_option Elab.async false
set_option linter.all false
set_option maxRecDepth 100000
-- part SHr
set_option maxHeartbeats 0
/-! What the law's top leaves on the heap, looked at by names, and the run of that top. -/
namespace Hk
open PySem PySem.Spec PyProof.Rows L2
def tS (i : Nat) : Stmt := PySem.Challenge.pw_stillknown_k07_loops_of_any_parts.main.body.getD i (.Pass ⟨0, 0, 0, 0⟩)
/-- the text of an error class with an __init__: its name, its attribute, the __init__ -/
structure ErrD where
  nm : Str
  att : Str
  qual : Str
  params : Arguments
  body : List Stmt
  scope : Scope
def vTail : List Value := [.type "ValueError", .type "Exception", .type "BaseException", .type "object"]
def eqM (a b : Option (List Value)) : Bool := decide (a = b)
/-- a class of errors, as isinstance and the making ask -/
def basB (K : PySem.W.Frag) (C : Addr) : Bool :=
  decide (PySem.W.typeIn K (.ref C) = some (.type "type")) && (PySem.W.keepIn K (.ref C) && ((PySem.W.clsIn K C).isSome && (He.eqO (PySem.W.findIn K (.ref C) "__getattribute__") (some (some (.builtin "BaseException.__getattribute__"))) &&
  (He.eqO (PySem.W.findIn K (.ref C) "__getattr__") (some none) && (He.eqO (PySem.W.findIn K (.ref C) "__class__") (some (some (.builtin "object.__class__"))) && PySem.W.hasDictIn K C)))))
def mroB (K : PySem.W.Frag) (C : Addr) (l : List Value) : Bool := eqM ((PySem.W.clsIn K C).map (·.mro)) (some l)
/-- facts that no class has of its own -/
def genB (K : PySem.W.Frag) : Bool :=
  He.eqO (PySem.W.specialIn K (.builtin "object.__class__") "__get__") (some (some (.builtin "getset_descriptor.__get__"))) && (decide (PySem.W.takesIn K (.builtin "object.__class__") = some true) &&
  (He.eqO (PySem.W.nsIn K cStatics "thirdparty.any") (some none) && (K.lookup sysModules).isSome))
/-- an __init__ with one cell -/
abbrev FnI : Type := Option (Str × Str × Arguments × FuncBody × Scope × Addr × Addr)
def ini (K : PySem.W.Frag) (x : Str) : Addr := He.ma K (He.ga K x) "__init__"
def iObs (K : PySem.W.Frag) (x : Str) : FnI := match K.lookup (ini K x) with
  | some ⟨_, _, .func fd, _⟩ => some (fd.name, fd.qualname, fd.params, fd.body, fd.scope, fd.globals, fd.builtins)
  | _ => none
def ErrD.val (d : ErrD) : FnI := some ("__init__", d.qual, d.params, .stmts d.body, d.scope, mainGlobals, builtinsNs)
def cellB (K : PySem.W.Frag) (cc C : Addr) : Bool := match K.lookup cc with
  | some ⟨_, _, .cell (some (.ref D)), _⟩ => decide (D = C)
  | _ => false
def fileB (K : PySem.W.Frag) (cd : Addr) (file : Str) : Bool := match K.lookup cd with
  | some ⟨_, _, .fields vs, _⟩ => (match (vs[2]? : Option Value) with
    | some (Value.str f _) => file == f
    | _ => false)
  | _ => false
def iniB (K : PySem.W.Frag) (file : Str) (d : ErrD) : Bool := match K.lookup (ini K d.nm) with
  | some ⟨_, _, .func fd, _⟩ => (match fd.closure, fd.defaults, fd.code with
    | [(x, cc)], .none, .ref cd => decide (x = "__class__") && (cellB K cc (He.ga K d.nm) && (PySem.W.codeIn K (.ref cd) d.qual && fileB K cd file))
    | _, _, _ => false)
  | _ => false
def oexB (K : PySem.W.Frag) (C : Addr) : Bool := match K.lookup C with
  | some ⟨.type "type", _, .cls cd, sl⟩ => (match cd.mro, sl.toList with
    | .ref D :: bm, [_, _, _, _, some (.builtin n), _] => decide (D = C) && (decide (n = "ValueError.__new__") && (!cd.hasDel && (cd.hasDict && PySem.HandSPX.refsVE bm)))
    | _, _ => false)
  | _ => false
def oneB (K : PySem.W.Frag) (file : Str) (d : ErrD) : Bool :=
  iniB K file d && (oexB K (He.ga K d.nm) && (He.eqO (PySem.W.findIn K (.ref (He.ga K d.nm)) "__setattr__") (some (some (.builtin "object.__setattr__"))) &&
  (He.eqO (PySem.W.findIn K (.ref (He.ga K d.nm)) "__init__") (some (some (.ref (ini K d.nm)))) && (decide (PySem.W.typeIn K (.ref (ini K d.nm)) = some (.type "function")) &&
  (He.eqO (PySem.W.ks_superIn K (He.ga K d.nm) (He.ga K d.nm) "__init__") (some (some (.builtin "ValueError.__init__"))) && He.eqO (PySem.W.findIn K (.ref (He.ga K d.nm)) d.att) (some none))))))
def bS : Str := "StillError"
def eD (n a q : Str) (c : Nat) : ErrD := ⟨n, a, q, defArgs (inClass (tS c) 0), defBody (inClass (tS c) 0), defScope (inClass (tS c) 0)⟩
def d0 : ErrD := eD "BadLoop" "part" "BadLoop.__init__" 2
def d1 : ErrD := eD "BadRows" "at" "BadRows.__init__" 3
def ED : List ErrD := [d0, d1]
def errB (K : PySem.W.Frag) (file : Str) (d : ErrD) : Bool :=
  (He.Fa.glo d.nm).ok K && (basB K (He.ga K d.nm) && (mroB K (He.ga K d.nm) ([.ref (He.ga K d.nm), .ref (He.ga K bS)] ++ vTail) && (oneB K file d && decide (PySem.W.exmOne K (.ref (He.ga K d.nm)) (.ref (He.ga K bS)) = some true))))
/-! ### defs by their addresses -/
structure DQ where
  adr : PySem.W.Frag → Addr
  name : Str
  qual : Str
  st : Stmt
def fObs (K : PySem.W.Frag) (a : Addr) : He.FnV := match K.lookup a with
  | some ⟨_, _, .func fd, _⟩ => some (fd.name, fd.qualname, fd.params, fd.body, fd.scope, fd.globals, fd.closure, fd.defaults, fd.builtins)
  | _ => none
def DQ.val (d : DQ) : He.FnV := some (d.name, d.qual, defArgs d.st, .stmts (defBody d.st), defScope d.st, mainGlobals, [], .none, builtinsNs)
def cdq (K : PySem.W.Frag) (a : Addr) : Addr := match K.lookup a with
  | some ⟨_, _, .func fd, _⟩ => (match fd.code with
    | .ref c => c
    | _ => 0)
  | _ => 0
def isF (K : PySem.W.Frag) (a : Addr) : Bool := match K.lookup a with
  | some ⟨_, _, .func fd, _⟩ => (match fd.code with
    | .ref _ => true
    | _ => false)
  | _ => false
def DQ.ok (K : PySem.W.Frag) (d : DQ) : Bool := PySem.W.codeIn K (.ref (cdq K (d.adr K))) d.qual && (PySem.W.keepIn K (.ref (d.adr K)) && isF K (d.adr K))
/-! ### the class -/
abbrev pC : Str := "Loop"
def gtr (K : PySem.W.Frag) (x : Str) : Addr := match PySem.W.recIn K (He.ma K (He.ga K pC) x) "property" with
  | some (.ref g :: _) => g
  | _ => 0
def recB (K : PySem.W.Frag) (x : Str) : Bool := match PySem.W.recIn K (He.ma K (He.ga K pC) x) "property" with
  | some (.ref _ :: _) => true
  | _ => false
def propB (K : PySem.W.Frag) (x : Str) : Bool :=
  He.eqO (PySem.W.findIn K (.ref (He.ga K pC)) x) (some (some (.ref (He.ma K (He.ga K pC) x)))) && (He.eqO (PySem.W.specialIn K (.ref (He.ma K (He.ga K pC) x)) "__get__") (some (some (.builtin "property.__get__"))) &&
  (decide (PySem.W.takesIn K (.ref (He.ma K (He.ga K pC) x)) = some true) && recB K x))
def patB (K : PySem.W.Frag) (C : Addr) : Bool :=
  He.eqO (PySem.W.findIn K (.ref C) "__class__") (some (some (.builtin "object.__class__"))) && (decide (PySem.W.mroIn K C (.type "object") = some true) && (decide (PySem.W.kitOne K (.ref C) (.ref C) = some true) &&
  (decide (PySem.W.kitOne K (.type "dict") (.ref C) = some false) &&
  (He.eqO (PySem.W.findIn K (.ref C) "__eq__") (some (some (.ref (He.ma K C "__eq__")))) && (PySem.W.isFn K (.ref (He.ma K C "__eq__")) && (He.eqO (PySem.W.findIn K (.ref C) "__ne__") (some (some (.builtin "object.__ne__"))) &&
  (PySem.W.notFirst K C (.ref C) && PySem.W.notFirst K C (.type "dict"))))))))
/-! ### tables -/
def tbq (K : PySem.W.Frag) (x : Str) : Addr := He.tabOf K (cdq K (He.ga K x))
def TN : List Str := ["_law_rows_right", "_law_first_right", "law"]
def tabK (K : PySem.W.Frag) : Bool := (TN.all fun x => PySem.W.codeHdIn K (cdq K (He.ga K x)) (tbq K x) && (K.lookup (tbq K x)).isNone) && (!decide (tbq K "_law_rows_right" = tbq K "law") && (!decide (tbq K "_law_rows_right" = tbq K "_law_first_right") && !decide (tbq K "_law_first_right" = tbq K "law")))
def tabG (g : Addr → Option Obj) (K : PySem.W.Frag) : Bool := TN.all fun x => match g (tbq K x) with
  | some o => He.emptyTab o
  | none => false
/-! ### all of it -/
def MD : List (Str × Nat) :=
  ([("is_number", 6), ("is_within", 7), ("is_name", 8), ("is_list", 9), ("is_tuple_of", 10), ("is_dict_of_names", 11), ("is_key_of", 12), ("is_row", 13), ("checked_rows", 14), ("is_term", 16), ("is_sum", 17), ("is_start", 18), ("are_sums", 19), ("are_steps", 20), ("is_last", 21), ("worth_of", 22), ("_law_begun", 25)] : List (Str × Nat)) ++
  ([("_law_mixed", 26), ("_law_take", 27), ("_law_pick", 28), ("_law_shuffled", 29), ("_law_caught", 30), ("_law_titles", 31), ("_law_sum", 32), ("_law_loop", 33), ("_law_made_loop", 34), ("_law_rows", 35), ("_law_worth", 36), ("_law_loop_reply", 37), ("_law_otherwise", 38), ("_law_rows_right", 39), ("_law_first_right", 40), ("law", 41)] : List (Str × Nat))
def mdD (p : Str × Nat) : DQ := ⟨fun K => He.ga K p.1, p.1, p.1, tS p.2⟩
def meD (x q : Str) (j : Nat) : DQ := ⟨fun K => He.ma K (He.ga K pC) x, x, q, inClass (tS 23) j⟩
def prD (x q : Str) (j : Nat) : DQ := ⟨fun K => gtr K x, x, q, inClass (tS 23) j⟩
def CD : List DQ := [meD "__init__" "Loop.__init__" 0, meD "__eq__" "Loop.__eq__" 1, prD "start" "Loop.start" 2, prD "steps" "Loop.steps" 3, prD "last" "Loop.last" 4, prD "kinds" "Loop.kinds" 5, prD "variables" "Loop.variables" 6, meD "answer" "Loop.answer" 7, meD "held" "Loop.held" 8, meD "answers_along" "Loop.answers_along" 9, meD "_begun" "Loop._begun" 10, meD "_behind" "Loop._behind" 11, meD "_told" "Loop._told" 12]
def fq : List DQ := MD.map mdD ++ CD
def fa : List He.Fa := ([.free "super", .free "isinstance", .free "int", .free "bool", .free "str", .free "list", .free "tuple", .free "dict", .free "len", .free "all", .free "max", .free "min", .free "sorted", .free "range", .free "enumerate", .free "repr", .free "abs", .free "sum", .free "zip"] : List He.Fa) ++
  ([.str "LETTERS" "abcdefghijklmnopqrstuvwxyz", .glo pC, .glo bS, .cls pC, .noat pC "_start", .noat pC "_steps", .noat pC "_last", .mkr pC, .meth pC "answer", .meth pC "held", .meth pC "answers_along", .meth pC "_begun", .meth pC "_behind", .meth pC "_told"] : List He.Fa)
def chk (file : Str) (K : PySem.W.Frag) : Bool :=
  genB K && ((basB K (He.ga K bS) && mroB K (He.ga K bS) ([.ref (He.ga K bS)] ++ vTail)) && (ED.all (errB K file) && (patB K (He.ga K pC) && ((["start", "steps", "last", "kinds", "variables"] : List Str).all (propB K) && (tabK K &&
  (fa.all (fun f => f.ok K) && (MD.all (fun p => (He.Fa.glo p.1).ok K) && fq.all (fun d => d.ok K))))))))
abbrev AlK : Type := Bool × (List He.FnV × List FnI)
def obsK (file : Str) (g : Addr → Option Obj) (K : PySem.W.Frag) : AlK := (chk file K && tabG g K, fq.map (fun d => fObs K (d.adr K)), ED.map fun d => iObs K d.nm)
def valK : AlK := (true, fq.map DQ.val, ED.map ErrD.val)
/-- what an object of the top holds on to, as far as the looks go -/
def own (o : Obj) : List Addr := match o.data with
  | .cls cd => [cd.ns]
  | .func fd => He.refV fd.code ++ fd.closure.map (·.2)
  | .dict es _ => es.toList.flatMap fun e => He.refV e.val
  | .fields vs => (match o.cls with
    | .type n => if n == "property" then vs.toList.flatMap He.refV else []
    | _ => [])
  | _ => []
def lay (g : Addr → Option Obj) (as : List Addr) : List Addr := as.flatMap fun a => match g a with
  | some o => own o
  | none => []
def tops (g : Addr → Option Obj) : Nat → List Addr → List Addr
  | 0, as => as
  | n + 1, as => as ++ tops g n (lay g as)
def frK (g : Addr → Option Obj) : PySem.W.Frag := He.frG g ([mainGlobals, cStatics, sysModules] ++ tops g 4 (lay g [mainGlobals]))
/-- what the end leans on -/
structure SaysK (file : Str) (h : Heap) (K : PySem.W.Frag) : Prop where
  ck : chk file K = true
  fs : fq.map (fun d => fObs K (d.adr K)) = fq.map DQ.val
  is : ED.map (fun d => iObs K d.nm) = ED.map ErrD.val
  tb : ∀ x ∈ TN, h.get? (tbq K x) = some { cls := .none, data := .fields #[] }
theorem says_of {file : Str} {h : Heap} {K : PySem.W.Frag} (e : obsK file h.get? K = valK) : SaysK file h K := by
  have e1 : (chk file K && tabG h.get? K) = true := congrArg (fun z : AlK => z.1) e
  obtain ⟨c1, c2⟩ := He.ba e1
  refine ⟨c1, congrArg (fun z : AlK => z.2.1) e, congrArg (fun z : AlK => z.2.2) e, fun x hx => ?_⟩
  have z := List.all_eq_true.mp c2 x hx
  cases q : h.get? (tbq K x) with
  | none =>
    rw [q] at z
    cases z
  | some o =>
    rw [q] at z
    rw [He.emptyTab_eq z]
def hookK (file : Str) : PySem.W.Hook where
  α := AlK
  obs := fun s => obsK file s.heap.get? (frK s.heap.get?)
  val := fun _ => valK
  says := fun _ h => ∃ K : PySem.W.Frag, K.In h ∧ SaysK file h K
  of := fun _ _ e => ⟨_, He.frG_in, says_of e⟩
  keeps := fun _ _ _ ⟨K, hK, c⟩ k => ⟨K, PySem.W.Frag.In.keeps hK k, ⟨c.ck, c.fs, c.is, fun x hx => k _ _ (c.tb x hx)⟩⟩
theorem obsK_eq {file : Str} {g : Addr → Option Obj} {s : Shared} (h : ∀ a, g a = s.heap.get? a) : obsK file g (frK g) = (hookK file).obs s := by
  have e : g = s.heap.get? := funext h
  rw [e] <;> rfl
def loose : List Str :=
  (["StillError", "BadLoop", "BadRows", "LETTERS", "is_number", "is_within", "is_name", "is_list", "is_tuple_of", "is_dict_of_names"] : List Str) ++
  (["is_key_of", "is_row", "checked_rows", "is_term", "is_sum", "is_start", "are_sums", "are_steps", "is_last", "worth_of"] : List Str) ++
  (["Loop", "_law_begun", "_law_mixed", "_law_take", "_law_pick", "_law_shuffled", "_law_caught", "_law_titles", "_law_sum", "_law_loop"] : List Str) ++
  (["_law_made_loop", "_law_rows", "_law_worth", "_law_loop_reply", "_law_otherwise", "_law_rows_right", "_law_first_right"] : List Str)
abbrev RW : PySem.W.OpenLaw := PySem.Challenge.rw_stillknown_k07_loops_of_any_parts
abbrev R : PySem.W.OpenRow := PySem.W.OpenLaw.row RW
abbrev hk : PySem.W.Hook := hookK R.prog.main.file
def ob (s : PySem.W.SharedT) : AlK := obsK R.prog.main.file (HandSHeadRun.getT s) (frK (HandSHeadRun.getT s))
theorem ob_eq (s : PySem.W.SharedT) : ob s = hk.obs s.abs := obsK_eq (HandSHeadRun.getT_eq s)
theorem run (w : World) : HandSHeadRun.RunEq R (PySem.W.view R.prog [41]) hk ob 6000 loose w := by
  intro os
  kernel_rfl
end Hk
-- part Ex
set_option maxHeartbeats 4000000
/-! Errors of the package as values: made with their own __init__, which says super().__init__(text) and keeps one attribute. -/
namespace Err
open PySem PySem.Spec PyProof.Rows L2 NdefX
/-- what the top has written of an error class with an __init__ -/
structure Made (P : Program) (K : PySem.W.Frag) (C fI cc cd : Addr) (st : Stmt) (qual p : Str) : Prop where
  T : OexC K C
  iC : PySem.W.findIn K (.ref C) "__init__" = some (some (.ref fI))
  tI : PySem.W.typeIn K (.ref fI) = some (.type "function")
  fn : ∃ oc od kV doc pm an ct osl, K.lookup fI = some ⟨oc, od, .func (PySem.W.fnX "__init__" qual (defArgs st) (defBody st) (defScope st) [("__class__", cc)] .none kV doc pm an (.ref cd) ct), osl⟩
  code : PySem.W.codeIn K (.ref cd) qual = true
  file : ∃ c1 c2 vs c3 file tf, K.lookup cd = some ⟨c1, c2, .fields vs, c3⟩ ∧ vs[2]? = some (.str file tf) ∧ ((P.main.file : Str) == file) = true
  cell : ∃ c1 c2 c3, K.lookup cc = some ⟨c1, c2, .cell (some (.ref C)), c3⟩
  sup : PySem.W.ks_superIn K C C "__init__" = some (some (.builtin "ValueError.__init__"))
  any : PySem.W.nsIn K cStatics "thirdparty.any" = some none
  own : PySem.W.mroIn K C (.ref C) = some true
  subV : PySem.W.subIn K (.ref C) (.type "ValueError") = some true
  noA : PySem.W.findIn K (.ref C) p = some none
  top : (P.main.scope.names.lookup ("super" : Str)).isSome = false
section
variable {X : Cx} {C fI cc cd e : Addr} {st : Stmt} {qual p msg : Str} {pins : List (Addr × Obj)} {σ : L2.St} {H : Hp} {s : Shared} {q1 q2 q3 q4 q5 q6 : Pos} {body : List Stmt}
/-- the evaluation of super().__init__(text), as the positions let it be -/
def SupEv (q1 q2 q3 q4 q5 : Pos) (msg : Str) (pl : Sem Bool) (env : Env) : Prop :=
  eval (.Call (.Attribute (.Call (.Name "super" q1) [] [] q2) "__init__" q3) [.Constant (.str msg) 0 q4] [] q5) env = (do
    let ov ← attributeBase (.Call (.Name "super" q1) [] [] q2) "__init__" env (eval (.Call (.Name "super" q1) [] [] q2) env)
    standAt q3.atName
    let (f, first) ← holding [ov] (getMethod ov "__init__" pl)
    callWith q5 f first (backTo q5 (starEach [.Constant (.str msg) 0 q4] env)) [])
theorem super_at {pl : Sem Bool} (hev : SupEv q1 q2 q3 q4 q5 msg pl X.env) (M : Made X.prog X.K C fI cc cd st qual p) (I : Inv X pins σ H s) (hfu : X.env.func = some fI) (hco : X.env.code = .ref cd) (hks : Gl X "super") (hkc : X.env.kindOf "__class__" = some .free) (hcl : X.env.cells.lookup ("__class__" : Str) = some cc)
    (hN : X.N[0]? = some ("self" : Str)) (hka : X.env.kindOf "self" = some .local) (hp : ((defArgs st).posonlyargs ++ (defArgs st).args).head?.map (·.arg) = some ("self" : Str)) (ms : X.mg "super" = none)
    (hs0 : σ[0]? = some (some (.ref e))) (he : H e = some (exo e C none)) :
    PySem.wpAt (model X.prog X.w) X.A (.func body X.env) (exec (.Expr (.Call (.Attribute (.Call (.Name "super" q1) [] [] q2) "__init__" q3) [.Constant (.str msg) 0 q4] [] q5) q6) X.env)
      (fun fl s' => fl = .next ∧ Inv X pins σ H s') X.xe s := by
  obtain ⟨oc, od, kV, doc, pm, an, ct, osl, lk⟩ := M.fn
  obtain ⟨c1, c2, vs, c3, file, tf, lkc, hvs, hfile⟩ := M.file
  obtain ⟨d1, d2, d3, lcc⟩ := M.cell
  obtain ⟨ar, har, hara⟩ : ∃ ar, ((defArgs st).posonlyargs ++ (defArgs st).args).head? = some ar ∧ ar.arg = ("self" : Str) := by
    cases hq : ((defArgs st).posonlyargs ++ (defArgs st).args).head? with
    | none => rw [hq] at hp; cases hp
    | some ar => rw [hq] at hp; exact ⟨ar, rfl, Option.some.inj hp⟩
  obtain ⟨m, hns, hl⟩ := I.loc
  obtain ⟨u, ru, lu⟩ := hl 0 "self" _ hN hs0 (.inl hka)
  obtain rfl : u = Value.ref e := ru
  have hv : m ("self" : Str) = some (.ref e) := by
    rcases lu with ⟨_, z⟩ | ⟨z, _⟩
    · exact z
    · rcases z with z | z
      · rw [hka] at z; cases z
      · rw [hka] at z; cases z
  obtain ⟨t1, ho⟩ := exo_at I.hok he
  have KX := I.kIn
  obtain ⟨nm, q, N, bs, bm, sn, sub, ab, col, dd, k0, k1, k2, k3, k5, hC, hbm⟩ := M.T.cls
  refine ks_wpAt_Expr_any (ks_wpAt_MethodCall ?_ hev) I.quiet rfl
  refine ks_wpAt_super_base hks hkc rfl hfu (KX _ _ lk) rfl har hco (KX _ _ lkc) rfl hvs hfile M.top ?_
  obtain ⟨mb, hb1, hb2⟩ := I.mod.blt
  refine PySem.W.ks_loadName_global I.ok.kind hks (Calls.loadGlobal_builtin (by rw [I.ok.glob]; exact I.mod.glob.keeps I.bk) ms (by rw [I.ok.blt]; exact hb1.keeps I.bk) ((hb2 _ (by decide)).trans PyProof.Rows.Boot.«super») ⟨rfl, ?_⟩)
  refine wpAny_loadName_free I.ok.kind hkc hcl ⟨_, KX _ _ lcc, rfl⟩ ?_
  refine wpAny_loadName_local I.ok.kind (by rw [hara]; exact hka) hns (by rw [hara]; exact hv) ?_
  obtain ⟨hp1, g, dr, tk, os⟩ := s
  refine ks_wpAny_isType_cls (KX _ _ hC) rfl ⟨rfl, ?_⟩
  refine ks_wpAny_call_super (KX _ _ hC) rfl ho rfl (fun _ z => nomatch z) (PySem.W.looks_mroIn KX M.own) (fun h' es k => ?_)
  have I1 : Inv X pins σ H ⟨h', g, dr, tk, os⟩ := I.kept k
  have ho1 := k _ _ ho
  have In1 : PySem.W.InstAt h' e _ C none := ⟨ho1, rfl, rfl, trivial⟩
  have hm := M.sup
  unfold PySem.W.ks_superIn at hm
  cases hc : PySem.W.clsIn X.K C with
  | none => rw [hc] at hm; cases hm
  | some cd' =>
    rw [hc] at hm
    have hI : PySem.W.Looks (model X.prog X.w) h' (isInstance (.ref e) (.type "ValueError")) true := In1.type.andThen (PySem.W.looks_subIn I1.kIn M.subV)
    refine PySem.W.kxs_getMethod PySem.W.kxs_ValueError es (PySem.W.looks_opaque I1.kIn M.any) (l₀ := cd'.mro) (fun A Q E s k q => wpAny_bind ((PySem.W.looks_clsIn I1.kIn hc) A _ E s k (wpAny_pure q))) rfl I1.kIn hm hI (PySem.W.ks_ne I1.kIn In1 hc) rfl ?_
    have k2 : ∀ b o, h'.get? b = some o → (h'.push (PySem.W.kxs_mw "ValueError.__init__" e)).get? b = some o := fun b o z => Heap.get?_push_of_some _ z
    have I2 : Inv X pins σ H ⟨h'.push (PySem.W.kxs_mw "ValueError.__init__" e), g, dr, tk + 1, os⟩ := I1.kept (t' := tk + 1) k2
    have hu2 : (h'.push (PySem.W.kxs_mw "ValueError.__init__" e)).get? h'.objs.size = some (PySem.W.kxs_mw "ValueError.__init__" e) := Heap.get?_push_at rfl rfl
    have ho2 := k2 _ _ ho1
    generalize h'.push (PySem.W.kxs_mw "ValueError.__init__" e) = h2 at I2 hu2 ho2 ⊢
    refine PySem.W.kxs_callWith (i := "ValueError.__init__") (x := e) rfl (Calls.evalArgs_plain (Calls.spliced_cons (@wpAny_Constant_str _ _ _ _ X.env msg 0 q4 _ ?_)))
    refine Calls.spliced_nil ⟨hu2, ?_⟩
    have I3 : Inv X pins σ H ⟨h2, g, dr, tk + 1 + 1, os⟩ := I2.tok (tk + 1 + 1)
    have FB := F.excBase_ValueError
    refine wpAny_call (codeAny_of_tree ?_)
    show wpAny _ X.A.in1 (callAny (.ref h'.objs.size) ⟨[.str msg (tk + 1)], []⟩) _ _ _
    simp only [callAny]
    refine wpAny_bind (wpAny_load hu2 ?_)
    simp only [PySem.W.kxs_mw, show (Value.type "method-wrapper" == Value.type "method" || Value.type "method-wrapper" == Value.type "builtin_function_or_method" || Value.type "method-wrapper" == Value.type "method-wrapper") = true by decide, if_true]
    refine PySem.W.KFB.if_so (by decide) ?_
    refine wpAny_bind (PySem.W.check_bound_init FB.toExcCallFacts (I3.kIn _ _ hC) ho2 rfl ?_)
    refine wpAny_bind (wpAny_pure (wpAny_pure ?_))
    refine ⟨plainId_quiet FB.init.plain _, codeAny_builtin FB.initEntry ?_⟩
    refine PySem.W.exc_init_tree (cls := .ref C) (t0 := t1) (dv := none) (c2 := .none) (c3 := .none) (b4 := .bool false) ho2 (by show 1 ≤ sizeLine; decide) (fun h3 k3 e3 _ => ?_)
    have J := I3.write (t' := tk + 1 + 1) (x := e) (e := e) (o := exo e C none) (by rw [he]; exact True.intro) (.inl rfl) k3 ⟨_, e3⟩ (exo_ok e3)
    have eu : upd H e (exo e C none) = H := by
      funext b
      by_cases hb : b = e
      · rw [hb, upd_same, he]
      · rw [upd_ne hb]
    rw [eu] at J
    exact ⟨trivial, J⟩
/-- the function's data, as a nested def's -/
abbrev nf (st : Stmt) (qual : Str) (cc cd : Addr) : NF := ⟨"__init__", qual, defArgs st, defBody st, defScope st, [("__class__", cc)], cd⟩
theorem init_code {P : Program} {w : World} {K : PySem.W.Frag} {mg : Str → Option Value} {base : Heap} {A : Around} {outer : List Env} {s : Shared} {H : Hp} {Q : VK} {E : XK} {k : Nat} {args : Args} {u : Value} {x : V} {q7 q8 q9 q10 : Pos} {pl : Sem Bool}
    (M : Made P K C fI cc cd st qual p) (S : NScope ["self", p, "__class__"] ["self", p] ["__class__"] (defScope st))
    (hb : defBody st = [.Expr (.Call (.Attribute (.Call (.Name "super" q1) [] [] q2) "__init__" q3) [.Constant (.str msg) 0 q4] [] q5) q6, .Assign [.Attribute (.Name "self" q7) p q8] (.Name p q9) q10])
    (hev : ∀ env, SupEv q1 q2 q3 q4 q5 msg pl env) (hks : (defScope st).names.lookup ("super" : Str) = some .globalImplicit) (hpa : ((defArgs st).posonlyargs ++ (defArgs st).args).head?.map (·.arg) = some ("self" : Str))
    (hpd : (p == ("__debug__" : Str)) = false) (hpc : (p == ("__classdict__" : Str)) = false) (hsw : ∀ env, swapsWith (.Name p q9) (some (.Attribute (.Name "self" q7) p q8)) q10.line env = pure false)
    (ms : mg "super" = none) (hr : Room k A) (e0 : Env0 P w K mg base A outer s H) (he : H e = some (exo e C none)) (ru : L2.RelV x u)
    (hbind : ∀ kV doc pm an ct, BindsTo s (PySem.W.fnX "__init__" qual (defArgs st) (defBody st) (defScope st) [("__class__", cc)] .none kV doc pm an (.ref cd) ct) args [("self", .ref e), (p, u)])
    (hq : ∀ d, H d = none → d ≠ e → Q .non (upd (upd H d (exd d [(p, x)])) e (exo e C (some d)))) :
    codeAny (model P w) A (.call (.ref fI) args) (CR CX0 outer P w H s Q E) s := by
  obtain ⟨oc, od, kV, doc, pm, an, ct, osl, lk⟩ := M.fn
  obtain ⟨d1, d2, d3, lcc⟩ := M.cell
  have KX : K.In s.heap := e0.mod.kin.keeps fun b o z => (e0.bs b o z).1
  have lim : s.heap.NoLimit := e0.mod.nolimit.keeps fun b o z => (e0.bs b o z).1
  refine ks_codeAny_call_defAt (body := defBody st) (binds := [("self", .ref e), (p, u)]) hr.depth (KX _ _ lk) rfl lim (PySem.W.codeRec_of KX M.code) rfl (hbind _ _ _ _ _) S.nocell ?_ (fun h1 hns kp => ?_) S.co S.gen S.kind
  · intro y hy
    rcases List.mem_cons.mp hy with rfl | hy
    · exact S.par _ (by simp)
    · rcases List.mem_cons.mp hy with rfl | hy
      · exact S.par _ (by simp)
      · cases hy
  have I : Inv (ncx CX0 P w K mg base ["self", p, "__class__"] (nf st qual cc cd) fI A outer s H E) [] (startF ["self", p, "__class__"] [.ref e, x] [some (.ref C)]) H { s with heap := h1, toks := s.toks + 2 } := by
    refine inv_startN (us := [.ref e, u]) S hr.hd e0 rfl (.cons rfl (.cons ru .nil)) ?_ hns kp
    have hcc := e0.mod.kin _ _ lcc
    have one : ∀ (y : Str) (c : Addr), ([("__class__", cc)] : List (Str × Addr)).lookup y = some c → y = "__class__" ∧ c = cc := fun y c z => by
      rw [List.lookup_cons] at z
      by_cases hy : (y == ("__class__" : Str)) = true
      · rw [hy] at z
        exact ⟨eq_of_beq hy, (Option.some.inj z).symm⟩
      · rw [Bool.not_eq_true] at hy
        rw [hy] at z
        cases z
    refine ⟨rfl, fun y c z => ?_, fun a b c z1 z2 => (one _ _ z1).1.trans (one _ _ z2).1.symm, fun i y z => ?_⟩
    · obtain ⟨_, rfl⟩ := one _ _ z
      exact ⟨(e0.bs _ _ hcc).2, _, _, KX _ _ lcc, rfl⟩
    · rcases i with _ | i
      · obtain rfl : ("__class__" : Str) = y := Option.some.inj z
        refine ⟨cc, by rw [List.lookup_cons]; simp, fun v hv => ?_⟩
        obtain rfl : V.ref C = v := Option.some.inj (Option.some.inj hv)
        exact ⟨.ref C, rfl, _, KX _ _ lcc, rfl⟩
      · simp at z
  have kself : (defScope st).names.lookup ("self" : Str) = some .local := S.par _ (by simp)
  have kp' : (defScope st).names.lookup p = some .local := S.par _ (by simp)
  have kcl : (defScope st).names.lookup ("__class__" : Str) = some .free := S.frk _ (by simp)
  show PySem.wpAt (model P w) (ncx CX0 P w K mg base ["self", p, "__class__"] (nf st qual cc cd) fI A outer s H E).A (.func (defBody st) (ncx CX0 P w K mg base ["self", p, "__class__"] (nf st qual cc cd) fI A outer s H E).env) (execs (defBody st) (ncx CX0 P w K mg base ["self", p, "__class__"] (nf st qual cc cd) fI A outer s H E).env) _ _ { s with heap := h1, toks := s.toks + 2 }
  rw [hb]
  refine ks_wpAt_execs_cons (ks_wpAt_mono (super_at (X := ncx CX0 P w K mg base ["self", p, "__class__"] (nf st qual cc cd) fI A outer s H E) (hev _) M I rfl rfl hks kcl (by show List.lookup ("__class__" : Str) [(("__class__" : Str), cc)] = some cc; rw [List.lookup_cons]; simp) rfl kself hpa ms rfl he) (fun fl s' hJ => ?_) fun _ _ z => z)
  obtain ⟨rfl, J⟩ := hJ
  have ht : PSs (ncx CX0 P w K mg base ["self", p, "__class__"] (nf st qual cc cd) fI A outer s H E) [.Assign [.Attribute (.Name "self" q7) p q8] (.Name p q9) q10] _ :=
    pss_one (ps_ost (pe_var (i := 0) rfl (.inl kself)) (pe_var (i := 1) rfl (.inl kp') hpd hpc) (hsw _))
  refine wpAt_of_wpAny (wpAny_mono (ht.run [] s' _ H { nx := fun _ H' => Q .non H', rt := Q } J ?_) (fun fl s'' hs => ?_) fun _ _ z => z)
  · refine ⟨x, rfl, .ref e, rfl, e, C, rfl, M.T, M.noA, .inl ⟨he, fun dx nd ne => hq dx nd ne⟩⟩
  · cases fl with
    | next =>
      obtain ⟨σ', H', J', q⟩ := hs
      exact ⟨.non, H', J'.os, J'.bare, J'.base, J'.hok, rfl, q⟩
    | ret v =>
      obtain ⟨v', σ', H', J', rv, q⟩ := hs
      exact ⟨v', H', J'.os, J'.bare, J'.base, J'.hok, rv, q⟩
    | brk =>
      obtain ⟨_, _, _, q⟩ := hs
      exact False.elim q
    | cont =>
      obtain ⟨_, _, _, q⟩ := hs
      exact False.elim q
end
end Err
-- part ExK
set_option maxHeartbeats 4000000
namespace Err
open PySem PySem.Spec PyProof.Rows L2 NdefX PySem.HandSPX
section
variable {M : Model} {A : Around} {E : Value → Shared → Prop} {h : Heap} {g : Array GenState} {d : Drawn} {t : Nat} {os : OsState} {nm q : Str} {C N : Addr}
  {bs bm bmB : List Value} {hdct : Bool} {sn : List Str} {sub : List Value} {ab : Bool} {col : Option Bool} {dd : Option Addr} {k0 k1 k2 k3 k5 : Option Value} {B newId initId : String}
  {kw : List (Str × Value)}
theorem newK_check (FB : ExcBaseFacts B newId initId bmB) (hT : ∀ X : String, bm.contains (.type X) = bmB.contains (.type X)) {Q : Unit → Shared → Prop}
    (hC : h.get? C = some (excClassObj nm q C N bs bm hdct sn sub ab col dd k0 k1 k2 k3 k5 newId))
    (hq : Q () ⟨h, g, d, t, os⟩) : wpAny M A (checkBuiltinCall newId ⟨[.ref C], kw⟩) Q E ⟨h, g, d, t, os⟩ := by
  have inB : (Value.ref C :: bm).contains (.type B) = true := by
    rw [List.contains_cons, hT, FB.hasB, Bool.or_true]
  have star := FB.noStar
  simp only [checkBuiltinCall, FB.newKind, FB.newSplit, FB.newRow]
  repeat (first
    | refine wpAny_loadPart_at hC ?_
    | (refine wpAny_isSubtype_exc hC ?_
       rw [inB])
    | refine wpAny_staticBase_exc hC ?_
    | refine wpAny_madeBy_exc hC ?_
    | simp only [bne_self_eq_false, Bool.false_eq_true, if_false]
    | wp_step)
  exact hq
end
section
variable {prog : Program} {w : World} {A : Around} {E : Value → Shared → Prop} {R : Result → Shared → Prop} {h : Heap} {g : Array GenState} {d : Drawn} {t : Nat} {os : OsState}
  {nm q : Str} {C N : Addr} {bs bm bmB : List Value} {hdct : Bool} {sn : List Str} {sub : List Value} {ab : Bool} {col : Option Bool} {dd : Option Addr} {k0 k1 k2 k3 k5 : Option Value}
  {B newId initId : String} {kw : List (Str × Value)}
theorem newK_code (FB : ExcBaseFacts B newId initId bmB) (hT : ∀ X : String, bm.contains (.type X) = bmB.contains (.type X))
    (hC : h.get? C = some (excClassObj nm q C N bs bm hdct sn sub ab col dd k0 k1 k2 k3 k5 newId))
    (hq : R (.ok (.ret (.ref (h.objs.size + 1)))) ⟨(h.push (PySem.W.kdv_tup [])).push (excO C h.objs.size), g, d, t, os⟩) :
    codeAny (model prog w) A (.builtin newId ⟨[.ref C], kw⟩) R ⟨h, g, d, t, os⟩ := by
  have ends := FB.ends
  have inB : (Value.ref C :: bm).contains (.type B) = true := by
    rw [List.contains_cons, hT, FB.hasB, Bool.or_true]
  have inA : (Value.ref C :: bm).contains (.type "AttributeError") = false := by
    rw [List.contains_cons, hT, FB.noAttr]
    rfl
  have inN : (Value.ref C :: bm).contains (.type "NameError") = false := by
    rw [List.contains_cons, hT, FB.noName]
    rfl
  refine codeAny_builtinAt FB.entry ?_
  unfold Builtin.«BaseException.__new__»
  refine PySem.wpAt_bind ?_
  show PySem.wpAt _ _ _ (stack >>= _) _ _ _
  refine PySem.wpAt_bind (PySem.wpAt_stack fun _ _ => PySem.wpAt_of_wpAny ?_)
  wp_walk
  refine PySem.wpAt_of_wpAny ?_
  rw [FB.owner]
  repeat (first
    | with_reducible refine wpAny_madeHere_exc FB.canon hC ?_
    | with_reducible refine wpAny_loadPart_at hC ?_
    | (with_reducible refine wpAny_isSubtype_exc hC ?_
       first | rw [inB] | rw [inA] | rw [inN])
    | wp_step)
  show R _ _
  rw [Heap.size_push]
  exact hq
theorem tyK_call (FB : ExcBaseFacts B newId initId bmB) (hT : ∀ X : String, bm.contains (.type X) = bmB.contains (.type X)) {fI : Addr} {Q : Fin → Shared → Prop}
    (hC : h.get? C = some (excClassObj nm q C N bs bm hdct sn sub ab col dd k0 k1 k2 k3 k5 newId))
    (hi : W.Looks (model prog w) h (typeLookup (.ref C) "__init__") (some (.ref fI))) (hb : ∀ self, W.Looks (model prog w) h (bindSpecial (.ref fI) self) (.ref fI, [self]))
    (hq : codeAny (model prog w) A (.call (.ref fI) ⟨[.ref (h.objs.size + 1)], kw⟩)
      (fun r s' => match r with | .ok (.ret v) => v = .none ∧ Q (.done (.ret (.ref (h.objs.size + 1)))) s' | .ok _ => False | .error e => E e s')
      ⟨(h.push (PySem.W.kdv_tup [])).push (excO C h.objs.size), g, d, t, os⟩) :
    wpAny (model prog w) A (Builtin.«type.__call__» ⟨[.ref C], kw⟩) Q E ⟨h, g, d, t, os⟩ := by
  repeat (first
    | with_reducible refine wpAny_loadPart_at hC ?_
    | with_reducible refine wpAny_madeBy_exc hC ?_
    | wp_step)
  refine codeAny_call_builtin_code (Code.quiet_builtin _ FB.quiet) (newK_check FB hT hC ?_)
  refine newK_code FB hT hC ?_
  show wpAny _ _ _ _ _ _
  have kk : ∀ b o, h.get? b = some o → ((h.push (PySem.W.kdv_tup [])).push (excO C h.objs.size)).get? b = some o := fun b o z => Heap.get?_push_of_some _ (Heap.get?_push_of_some _ z)
  have hC2 := kk _ _ hC
  have he2 : ((h.push (PySem.W.kdv_tup [])).push (excO C h.objs.size)).get? (h.objs.size + 1) = some (excO C h.objs.size) := by heap_get
  have inC : (Value.ref C :: bm).contains (.ref C) = true := by simp
  have i2 := hi.keeps kk
  have b2 := (hb (.ref (h.objs.size + 1))).keeps kk
  unfold isInstance
  repeat (first
    | with_reducible refine wpAny_loadPart_at he2 ?_
    | (with_reducible refine wpAny_isSubtype_exc hC2 ?_
       rw [inC])
    | wp_step)
  show wpAny _ _ (typeLookup (.ref C) _) _ _ _
  refine i2.at ?_
  refine wpAny_holding (wpAny_bind (b2.at ?_))
  refine wpAny_bind (wpAny_call (codeAny_mono hq fun r s' z => ?_))
  rcases r with e | (v | _ | _ | _)
  · exact z
  · exact z.elim
  · exact z.elim
  · exact z.elim
  · obtain ⟨rfl, z⟩ := z
    first
      | exact wpAny_pure (wpAny_pure z)
      | (wp_walk; exact z)
theorem callK_own (FB : ExcBaseFacts B newId initId bmB) (hT : ∀ X : String, bm.contains (.type X) = bmB.contains (.type X)) {fI : Addr}
    (hC : h.get? C = some (excClassObj nm q C N bs bm hdct sn sub ab col dd k0 k1 k2 k3 k5 newId))
    (hi : W.Looks (model prog w) h (typeLookup (.ref C) "__init__") (some (.ref fI))) (hb : ∀ self, W.Looks (model prog w) h (bindSpecial (.ref fI) self) (.ref fI, [self]))
    (hq : codeAny (model prog w) (A.under (.builtin "type.__call__" ⟨[.ref C], kw⟩)) (.call (.ref fI) ⟨[.ref (h.objs.size + 1)], kw⟩) (W.InitBack (h.objs.size + 1) R)
      ⟨(h.push (PySem.W.kdv_tup [])).push (excO C h.objs.size), g, d, t, os⟩) :
    codeAny (model prog w) A (.call (.ref C) ⟨[], kw⟩) R ⟨h, g, d, t, os⟩ := by
  have f1 := tc_lookup
  have f2 := tc_bind (.ref C)
  have hTy : (⟨h, g, d, t, os⟩ : Shared).TypeIs (.ref C) "type" := ⟨_, hC, rfl⟩
  refine codeAny_of_tree ?_
  show wpAny _ _ (callAny (.ref C) _) _ _ _
  repeat (any_goals (first
    | assumption
    | with_reducible refine wpAny_loadPart_at hC ?_
    | wp_step))
  refine ⟨rfl, ?_⟩
  refine codeAny_call_builtin_at (Code.quiet_builtin _ (by decide +kernel)) entry_typeCall (wpAny_check_type_call_sub hC (tyK_call FB hT hC hi hb ?_))
  refine codeAny_mono hq fun r s' z => ?_
  rcases r with e | (v | _ | _ | _) <;> exact z
end
end Err
-- part ErrR
set_option maxHeartbeats 4000000
namespace Err
open PySem PySem.Spec PyProof.Rows L2 NdefX
/-- a class of errors that keeps one attribute: all that is asked of the text and of what the top has written -/
structure One (P : Program) (K : PySem.W.Frag) (C : Addr) (p : Str) : Prop where
  ex : ∃ (fI cc cd : Addr) (st : Stmt) (qual msg : Str) (q1 q2 q3 q4 q5 q6 q7 q8 q9 q10 : Pos) (pl : Sem Bool), Made P K C fI cc cd st qual p ∧
    NScope ["self", p, "__class__"] ["self", p] ["__class__"] (defScope st) ∧
    defBody st = [.Expr (.Call (.Attribute (.Call (.Name "super" q1) [] [] q2) "__init__" q3) [.Constant (.str msg) 0 q4] [] q5) q6, .Assign [.Attribute (.Name "self" q7) p q8] (.Name p q9) q10] ∧
    (∀ env, SupEv q1 q2 q3 q4 q5 msg pl env) ∧ (defScope st).names.lookup ("super" : Str) = some .globalImplicit ∧ ((defArgs st).posonlyargs ++ (defArgs st).args).head?.map (·.arg) = some ("self" : Str) ∧
    (p == ("__debug__" : Str)) = false ∧ (p == ("__classdict__" : Str)) = false ∧ (∀ env, swapsWith (.Name p q9) (some (.Attribute (.Name "self" q7) p q8)) q10.line env = pure false) ∧
    (∀ kV doc pm an ct e u, bindArgs (PySem.W.fnX "__init__" qual (defArgs st) (defBody st) (defScope st) [("__class__", cc)] .none kV doc pm an (.ref cd) ct) ⟨[e, u], []⟩ = pure [(("self" : Str), e), (p, u)]) ∧
    (∀ kV doc pm an ct e u, bindArgs (PySem.W.fnX "__init__" qual (defArgs st) (defBody st) (defScope st) [("__class__", cc)] .none kV doc pm an (.ref cd) ct) ⟨[e], [(p, u)]⟩ = pure [(("self" : Str), e), (p, u)])
/-- the reading: a new error a, with a dict d of its own -/
def tErr (C : Addr) (p : Str) (te : TE) : TE := fun σ H Q => te σ H fun v H1 => ∀ a d, H1 a = none → H1 d = none → d ≠ a → Q (.ref a) (upd (upd H1 d (exd d [(p, v)])) a (exo a C (some d)))
section
variable {X : Cx} {C : Addr} {p x : Str} {e : Expr} {te : TE} {cp pos : Pos}
theorem upd_swap (H : Hp) {a d : Addr} (o1 o2 o3 : HO) (h : d ≠ a) : upd (upd (upd H a o1) d o2) a o3 = upd (upd H d o2) a o3 := by
  funext b
  by_cases hb : b = a
  · rw [hb, upd_same, upd_same]
  · rw [upd_ne hb, upd_ne hb]
    by_cases hd : b = d
    · rw [hd, upd_same, upd_same]
    · rw [upd_ne hd, upd_ne hd, upd_ne hb]
theorem err_new {pins : List (Addr × Obj)} {σ : L2.St} {H : Hp} {s : Shared} {Q : VK} {u : Value} {v : V} (T : One X.prog X.K C p) (ms : X.mg "super" = none) (hr : Room 1 X.A) (I : Inv X pins σ H s) (ru : L2.RelV v u)
    (hq : ∀ a d, H a = none → H d = none → d ≠ a → Q (.ref a) (upd (upd H d (exd d [(p, v)])) a (exo a C (some d)))) (us : List Value) (kw : List (Str × Value)) (hus : (us = [u] ∧ kw = []) ∨ (us = [] ∧ kw = [(p, u)])) :
    wpAny (model X.prog X.w) X.A (call (.ref C) us kw) (EP X pins σ Q) X.xe s := by
  obtain ⟨fI, cc, cd, st, qual, msg, q1, q2, q3, q4, q5, q6, q7, q8, q9, q10, pl, M, S, hb, hev, hks, hpa, hpd, hpc, hsw, b1, b2⟩ := T.ex
  obtain ⟨nm, q, N, bs, bm, sn, sub, ab, col, dd, k0, k1, k2, k3, k5, hC, hbm⟩ := M.T.cls
  obtain ⟨hp, g, dr, tk, os⟩ := s
  have hsz : hp.objs.size ≤ hp.objs.size + 1 := Nat.le_succ _
  have hn : H (hp.objs.size + 1) = none := I.hok.fresh hsz
  have kk : ∀ vs b o, hp.get? b = some o → ((hp.push (PySem.W.kdv_tup vs)).push (PySem.HandSPX.excO C hp.objs.size)).get? b = some o := fun vs b o z => Heap.get?_push_of_some _ (Heap.get?_push_of_some _ z)
  have hget : ∀ vs, ((hp.push (PySem.W.kdv_tup vs)).push (PySem.HandSPX.excO C hp.objs.size)).get? (hp.objs.size + 1) = some (PySem.HandSPX.excO C hp.objs.size) := fun vs => by heap_get
  have I2 : ∀ vs, Inv X pins σ (upd H (hp.objs.size + 1) (exo (hp.objs.size + 1) C none)) ⟨(hp.push (PySem.W.kdv_tup vs)).push (PySem.HandSPX.excO C hp.objs.size), g, dr, tk, os⟩ := fun vs =>
    I.laid (t' := tk) (a := hp.objs.size + 1) (o := exo (hp.objs.size + 1) C none) (h' := (hp.push (PySem.W.kdv_tup vs)).push (PySem.HandSPX.excO C hp.objs.size)) (kk vs) hsz (exo_ok (hget vs))
  have hT := fun Y => PySem.HandSPX.refsVE_contains Y bm hbm
  have fin : ∀ (vs : List Value) (r : Result) (s' : Shared),
      CR CX0 X.stack X.prog X.w (upd H (hp.objs.size + 1) (exo (hp.objs.size + 1) C none)) ⟨(hp.push (PySem.W.kdv_tup vs)).push (PySem.HandSPX.excO C hp.objs.size), g, dr, tk, os⟩ (fun v H' => v = .non ∧ Q (.ref (hp.objs.size + 1)) H') (fun _ _ _ => False) r s' →
      PySem.W.InitBack (hp.objs.size + 1) (fun r s' => match r with | .ok (.ret v) => EP X pins σ Q v s' | .ok _ => False | .error e => X.xe e s') r s' := fun vs r s' hr => by
    cases r with
    | error er => exact False.elim hr
    | ok fl =>
      cases fl with
      | ret w' =>
        obtain ⟨v', H', J, rv, ev, q'⟩ := (I2 vs).after hr
        subst ev
        exact ⟨rv, .ref (hp.objs.size + 1), H', J, rfl, q'⟩
      | next => exact False.elim hr
      | brk => exact False.elim hr
      | cont => exact False.elim hr
  have last : ∀ d, upd H (hp.objs.size + 1) (exo (hp.objs.size + 1) C none) d = none → d ≠ hp.objs.size + 1 →
      V.non = V.non ∧ Q (.ref (hp.objs.size + 1)) (upd (upd (upd H (hp.objs.size + 1) (exo (hp.objs.size + 1) C none)) d (exd d [(p, v)])) (hp.objs.size + 1) (exo (hp.objs.size + 1) C (some d))) := fun d nd ne => by
    rw [upd_ne ne] at nd
    rw [upd_swap _ _ _ _ ne]
    exact ⟨rfl, hq _ d hn nd ne⟩
  rcases hus with ⟨rfl, rfl⟩ | ⟨rfl, rfl⟩
  · refine wpAny_call (PySem.HandSPX.call_own F.excBase_ValueError hT (I.kIn _ _ hC) (PySem.W.looks_findIn I.kIn M.iC) (fun self => PySem.W.bind_fn I.kIn self M.tI) (by show 1 ≤ sizeLine; decide)
      (codeAny_mono (init_code M S hb hev hks hpa hpd hpc hsw ms (hr.make C [u] []) ((I2 [u]).env0.make C [u] []) upd_same ru (fun kV doc pm an ct => .of_eq (b1 _ _ _ _ _ _ _)) last) fun r s' h => fin [u] r s' h))
  · refine wpAny_call (callK_own F.excBase_ValueError hT (I.kIn _ _ hC) (PySem.W.looks_findIn I.kIn M.iC) (fun self => PySem.W.bind_fn I.kIn self M.tI)
      (codeAny_mono (init_code M S hb hev hks hpa hpd hpc hsw ms (hr.make C [] [(p, u)]) ((I2 []).env0.make C [] [(p, u)]) upd_same ru (fun kV doc pm an ct => .of_eq (b2 _ _ _ _ _ _ _)) last) fun r s' h => fin [] r s' h))
/-- C(e) -/
theorem pe_err (T : One X.prog X.K C p) (ms : X.mg "super" = none) (hr : Room 1 X.A) (hg : Gl X x) (hm : X.mg x = some (.ref C)) (kC : PySem.W.keepIn X.K (.ref C) = true) (he : PE X e te)
    (hs : starEach [e] X.env = (false, eval e X.env) :: starEach [] X.env := by rfl) (hdb : (x == ("__debug__" : Str)) = false := by decide) : PE X (.Call (.Name x cp) [e] [] pos) (tErr C p te) := by
  refine ⟨fun pins s σ H Q I h => ?_⟩
  refine wpAny_Call_Name_kw (ld_glob I hg hm ?_ hdb)
  refine PySem.W.callWith_K (h₀ := X.base) I.ok.mod.kin kC ?_ hs (by rfl)
  rw [hs]
  show wpAny _ _ (spliced ((false, eval e X.env) :: backTo pos (starEach [] X.env))) _ _ s
  refine Calls.spliced_cons (thn (he.run pins s σ H _ I h) fun u s1 ⟨v, H1, I1, r1, q1⟩ => ?_)
  refine Calls.spliced_nil ⟨I1.kIn, ?_⟩
  exact err_new T ms hr I1 r1 q1 [u] [] (.inl ⟨rfl, rfl⟩)
end
end Err
-- part ErrV
set_option maxHeartbeats 4000000
namespace Err
open PySem PySem.Spec PyProof.Rows L2 NdefX
section
variable {X : Cx} {C : Addr} {p x : Str} {e : Expr} {te : TE} {cp kp pos : Pos}
/-- C(p=e) -/
theorem pe_errK (T : One X.prog X.K C p) (ms : X.mg "super" = none) (hr : Room 1 X.A) (hg : Gl X x) (hm : X.mg x = some (.ref C)) (kC : PySem.W.keepIn X.K (.ref C) = true) (he : PE X e te)
    (hall : (backToKw pos (keywordEach [⟨some p, e, kp⟩] X.env)).all (·.1.isSome) = true := by rfl) (hks : (backToKw pos (keywordEach [⟨some p, e, kp⟩] X.env)).filterMap (·.1) = [p] := by rfl)
    (hpl : ((backTo pos (starEach [] X.env)).any (·.1) || (backToKw pos (keywordEach [⟨some p, e, kp⟩] X.env)).any (·.1.isNone)) = false := by rfl)
    (hdb : (x == ("__debug__" : Str)) = false := by decide) : PE X (.Call (.Name x cp) [] [⟨some p, e, kp⟩] pos) (tErr C p te) := by
  refine ⟨fun pins s σ H Q I h => ?_⟩
  refine wpAny_Call_Name_kw (ld_glob I hg hm ?_ hdb)
  refine PySem.W.callWith_KW0 (h₀ := X.base) I.ok.mod.kin kC hall ?_ hpl
  refine thn ((pk_cons he pk_nil).run pos pins s σ H (fun vs H1 => match vs with | [v] => ∀ a d, H1 a = none → H1 d = none → d ≠ a → Q (.ref a) (upd (upd H1 d (exd d [(p, v)])) a (exo a C (some d))) | _ => False) I h) fun ws s1 ⟨zs, H1, I1, rz, q⟩ => ⟨I1.kIn, ?_⟩
  rw [hks]
  cases rz with
  | nil => exact False.elim q
  | cons r1 r2 =>
    cases r2 with
    | nil => exact err_new T ms hr I1 r1 q [] _ (.inr ⟨rfl, rfl⟩)
    | cons _ _ => exact False.elim q
/-- an error stands at a: with no dict, or with one of its own -/
def ExAt (H : Hp) (a C : Addr) : Prop := H a = some (ExO (.ref C) a) ∨ ∃ d fs, H a = some (exo a C (some d)) ∧ H d = some (exd d fs)
/-- what a class of errors must say so that isinstance asks rightly -/
structure Isi (K : PySem.W.Frag) (C : Addr) : Prop where
  cl : (PySem.W.clsIn K C).isSome = true
  ga : PySem.W.findIn K (.ref C) "__getattribute__" = some (some (.builtin "BaseException.__getattribute__"))
  gt : PySem.W.findIn K (.ref C) "__getattr__" = some none
  sb : PySem.W.subIn K (.ref C) (.type "BaseException") = some true
  ca : PySem.W.findIn K (.ref C) "__class__" = some (some (.builtin "object.__class__"))
  gs : PySem.W.specialIn K (.builtin "object.__class__") "__get__" = some (some (.builtin "getset_descriptor.__get__"))
  tk : PySem.W.takesIn K (.builtin "object.__class__") = some true
  ob : PySem.W.mroIn K C (.type "object") = some true
  hd : PySem.W.hasDictIn K C = true
theorem ExAt.inst {pins : List (Addr × Obj)} {σ : L2.St} {H : Hp} {s : Shared} {a : Addr} (I : Inv X pins σ H s) (h : ExAt H a C) : ∃ ox od, PySem.W.InstAt s.heap a ox C od := by
  rcases h with h | ⟨d, fs, h, hd⟩
  · obtain ⟨⟨oe, vs, e1, z, e2, _⟩, _, _⟩ := I.hok _ _ h
    refine ⟨oe, none, e1, z.1, ?_, ?_⟩
    · unfold PySem.W.notCls
      rw [e2]
    · rw [z.2]
      exact trivial
  · obtain ⟨t1, ho⟩ := exo_at I.hok h
    obtain ⟨mA, hns, hr⟩ := exd_at I.hok hd
    obtain ⟨od, es, ep, hod, _⟩ := hns
    exact ⟨_, some od, ho, rfl, rfl, hod⟩
def rIsx (K : PySem.W.Frag) : List V → Hp → VK → Prop := fun xs H Q => ∃ (a C : Addr) (c : V) (cv : Value) (b : Bool), xs = [.ref a, c] ∧ ExAt H a C ∧ Isi K C ∧ ClsV c cv ∧ PySem.W.kitOne K (.ref C) cv = some b ∧ Q (.bl b) H
theorem call_isx : CallR X (.builtin "isinstance") (rIsx X.K) := by
  intro pins s σ H xs us Q I r h
  obtain ⟨a, C, c, cv, b, rfl, hx, T, hcv, e, q⟩ := h
  obtain ⟨ox, od, J⟩ := hx.inst I
  cases r with
  | cons rx rr =>
    cases rr with
    | cons rt rr =>
      cases rr
      cases rx
      have ec := hcv.eq rt
      subst ec
      exact PySem.W.kia_one (PySem.W.kitx_exc T.cl T.ga T.gt T.sb T.ca T.gs T.tk T.ob) I.kIn J e (fun z => nomatch z) fun tk => ⟨.bl b, H, I.kept (t' := tk) fun _ _ z => z, rfl, q⟩
/-- e.n of an error -/
def tAtt (K : PySem.W.Frag) (n : Str) (te : TE) : TE := fun σ H Q => te σ H fun x H1 => ∃ (a C d : Addr) (fs : List (Str × V)) (v : V), x = .ref a ∧ H1 a = some (exo a C (some d)) ∧ H1 d = some (exd d fs) ∧ Isi K C ∧ PySem.W.findIn K (.ref C) n = some none ∧ fs.lookup n = some v ∧ Q v H1
theorem pe_att {n : Str} (he : PE X e te) (hb : attributeBase e n X.env (eval e X.env) = eval e X.env := by rfl) : PE X (.Attribute e n pos) (tAtt X.K n te) := by
  refine ⟨fun pins s σ H Q I h => ?_⟩
  refine attr_of hb (thn (he.run pins s σ H _ I h) fun u s1 ⟨x, H1, I1, rx, a, C, d, fs, v, ex, ea, ed, T, no, l, q⟩ => ?_)
  subst ex
  obtain rfl : u = Value.ref a := rx
  obtain ⟨t1, ho⟩ := exo_at I1.hok ea
  obtain ⟨mA, hns, hr⟩ := exd_at I1.hok ed
  obtain ⟨od, hod, hl⟩ := lookIn_ns hns
  obtain ⟨u, hu, ru⟩ := RelO.some_of (v := v) (o := mA n) (by rw [← l]; exact hr n)
  have J : PySem.W.InstAt s1.heap a _ C (some od) := ⟨ho, rfl, rfl, hod⟩
  exact HandSPX.exc_get I1.kIn J T.ga T.gt T.sb (PySem.W.findObj_own T.hd no rfl (by rw [hl, hu])) (handed_of ru) ⟨v, H1, I1.tok _, ru, q⟩
end
end Err
-- part SHk0
set_option maxHeartbeats 4000000
/-! What the top has written of a package's errors, told by names: the text of each, and a look at the heap. -/
namespace Hk
open PySem PySem.Spec PyProof.Rows L2 NdefX Err
def ErrD.st (d : ErrD) : Stmt := .FunctionDef "__init__" d.params d.body [] none [] d.scope none "__init__" default
abbrev plS : Sem Bool := do return (← (pure (some false) : Sem (Option Bool))).getD true
structure Text (d : ErrD) : Prop where
  ex : ∃ (msg : Str) (q1 q2 q3 q4 q5 q6 q7 q8 q9 q10 : Pos), NScope ["self", d.att, "__class__"] ["self", d.att] ["__class__"] d.scope ∧
    d.body = [.Expr (.Call (.Attribute (.Call (.Name "super" q1) [] [] q2) "__init__" q3) [.Constant (.str msg) 0 q4] [] q5) q6, .Assign [.Attribute (.Name "self" q7) d.att q8] (.Name d.att q9) q10] ∧
    (∀ env, SupEv q1 q2 q3 q4 q5 msg plS env) ∧ d.scope.names.lookup ("super" : Str) = some .globalImplicit ∧ (d.params.posonlyargs ++ d.params.args).head?.map (·.arg) = some ("self" : Str) ∧
    (d.att == ("__debug__" : Str)) = false ∧ (d.att == ("__classdict__" : Str)) = false ∧ (∀ env, swapsWith (.Name d.att q9) (some (.Attribute (.Name "self" q7) d.att q8)) q10.line env = pure false) ∧
    (∀ (cc cd : Addr) kV doc pm an ct e u, bindArgs (PySem.W.fnX "__init__" d.qual d.params d.body d.scope [("__class__", cc)] .none kV doc pm an (.ref cd) ct) ⟨[e, u], []⟩ = pure [(("self" : Str), e), (d.att, u)]) ∧
    (∀ (cc cd : Addr) kV doc pm an ct e u, bindArgs (PySem.W.fnX "__init__" d.qual d.params d.body d.scope [("__class__", cc)] .none kV doc pm an (.ref cd) ct) ⟨[e], [(d.att, u)]⟩ = pure [(("self" : Str), e), (d.att, u)])
end Hk
namespace Hk
open PySem PySem.Spec PyProof.Rows L2 NdefX Err
theorem isi_of {K : PySem.W.Frag} {C : Addr} {l : List Value} (b : basB K C = true) (m : mroB K C (.ref C :: l ++ vTail) = true) (g : genB K = true) : Isi K C := by
  unfold basB at b
  unfold genB at g
  simp only [Bool.and_eq_true, decide_eq_true_eq] at b g
  obtain ⟨b1, b2, b3, b4, b5, b6, b7⟩ := b
  obtain ⟨g1, g2, g3, g4⟩ := g
  have hm : (PySem.W.clsIn K C).map (·.mro) = some (.ref C :: l ++ vTail) := of_decide_eq_true m
  obtain ⟨cd, hc, hmr⟩ := Option.map_eq_some_iff.mp hm
  have inM : ∀ v, v ∈ vTail → PySem.W.mroIn K C v = some true := fun v hv => by
    unfold PySem.W.mroIn
    rw [hc]
    show (if cd.mro.isEmpty = true then none else some (cd.mro.contains v)) = some true
    rw [hmr]
    have e : (Value.ref C :: l ++ vTail).contains v = true := by
      rw [List.contains_iff_mem]
      exact List.mem_append_right _ hv
    rw [e]
    rfl
  exact ⟨b3, He.eqO_ok b4, He.eqO_ok b5, inM _ (by unfold vTail; simp), He.eqO_ok b6, He.eqO_ok g1, g2, inM _ (by unfold vTail; simp), b7⟩
theorem kit_ref {K : PySem.W.Frag} {C D : Addr} {l : List Addr} (m : mroB K C ((l.map Value.ref) ++ vTail) = true) (hl : l.head? = some C) (b : basB K D = true) : PySem.W.kitOne K (.ref C) (.ref D) = some (decide (D ∈ l)) := by
  have hm : (PySem.W.clsIn K C).map (·.mro) = some ((l.map Value.ref) ++ vTail) := of_decide_eq_true m
  obtain ⟨cd, hc, hmr⟩ := Option.map_eq_some_iff.mp hm
  unfold basB at b
  simp only [Bool.and_eq_true, decide_eq_true_eq] at b
  obtain ⟨b1, b2, b3, _⟩ := b
  unfold PySem.W.kitOne
  by_cases h : C = D
  · subst h
    rw [if_pos (by simp)]
    have : C ∈ l := List.mem_of_mem_head? hl
    rw [decide_eq_true this]
  · rw [if_neg (by simp [h])]
    unfold PySem.W.kitCls
    show (if ((PySem.W.clsIn K D).isSome && PySem.W.typeIn K (.ref D) == some (.type "type")) = true then PySem.W.subIn K (.ref C) (.ref D) else none) = _
    rw [b1, if_pos (by rw [b3]; simp)]
    show PySem.W.mroIn K C (.ref D) = _
    unfold PySem.W.mroIn
    rw [hc]
    show (if cd.mro.isEmpty = true then none else some (cd.mro.contains (.ref D))) = _
    rw [hmr]
    have ne : ((l.map Value.ref) ++ vTail).isEmpty = false := by
      cases l with
      | nil => cases hl
      | cons _ _ => rfl
    rw [ne, if_neg Bool.false_ne_true]
    congr 1
    by_cases hd : D ∈ l
    · rw [decide_eq_true hd, List.contains_iff_mem]
      exact List.mem_append_left _ (List.mem_map_of_mem hd)
    · rw [decide_eq_false hd]
      refine Bool.eq_false_iff.mpr fun z => ?_
      rw [List.contains_iff_mem] at z
      rcases List.mem_append.mp z with z | z
      · obtain ⟨x, hx, e⟩ := List.mem_map.mp z
        cases e
        exact hd hx
      · unfold vTail at z
        simp at z
theorem kit_VE {K : PySem.W.Frag} {C : Addr} {l : List Value} (m : mroB K C (.ref C :: l ++ vTail) = true) : PySem.W.kitOne K (.ref C) (.type "ValueError") = some true := by
  have hm : (PySem.W.clsIn K C).map (·.mro) = some (.ref C :: l ++ vTail) := of_decide_eq_true m
  obtain ⟨cd, hc, hmr⟩ := Option.map_eq_some_iff.mp hm
  unfold PySem.W.kitOne
  rw [if_neg (by simp)]
  unfold PySem.W.kitCls
  show (if PySem.W.kitMeta "ValueError" = true then PySem.W.subIn K (.ref C) (.type "ValueError") else none) = _
  rw [if_pos (by decide +kernel)]
  show PySem.W.mroIn K C (.type "ValueError") = _
  unfold PySem.W.mroIn
  rw [hc]
  show (if cd.mro.isEmpty = true then none else some (cd.mro.contains (.type "ValueError"))) = _
  rw [hmr]
  have e : (Value.ref C :: l ++ vTail).contains (.type "ValueError") = true := by
    rw [List.contains_iff_mem]
    exact List.mem_append_right _ (by unfold vTail; simp)
  rw [e]
  rfl
end Hk
/-! A look at what the top has written: errors of the package and the law's defs. -/
namespace Hk
open PySem PySem.Spec PyProof.Rows L2 NdefX Err
theorem cell_of {K : PySem.W.Frag} {cc C : Addr} (h : cellB K cc C = true) : ∃ c1 c2 c3, K.lookup cc = some ⟨c1, c2, .cell (some (.ref C)), c3⟩ := by
  unfold cellB at h
  split at h
  · rename_i c1 c2 D c3 e
    cases of_decide_eq_true h
    exact ⟨_, _, _, e⟩
  · cases h
theorem file_of {K : PySem.W.Frag} {cd : Addr} {file : Str} (h : fileB K cd file = true) : ∃ c1 c2 vs c3 f tf, K.lookup cd = some ⟨c1, c2, .fields vs, c3⟩ ∧ vs[2]? = some (.str f tf) ∧ (file == f) = true := by
  unfold fileB at h
  split at h
  · rename_i c1 c2 vs c3 e
    split at h
    · rename_i f tf e2
      exact ⟨_, _, _, _, _, _, e, e2, h⟩
    · cases h
  · cases h
theorem oex_of {K : PySem.W.Frag} {C : Addr} (h : oexB K C = true) : ∃ nm q N bs bm sn sub ab col dd k0 k1 k2 k3 k5, K.lookup C = some (excClassObj nm q C N bs bm true sn sub ab col dd k0 k1 k2 k3 k5 "ValueError.__new__") ∧ PySem.HandSPX.refsVE bm = true := by
  unfold oexB at h
  split at h
  · rename_i dd cd sl ho
    split at h
    · rename_i D bm k0 k1 k2 k3 n k5 hm hs
      simp only [Bool.and_eq_true, decide_eq_true_eq, Bool.not_eq_true'] at h
      obtain ⟨rfl, rfl, hdel, hd, hv⟩ := h
      obtain ⟨nm, bs, mro, ns, qn, hdc, sn, sub, ab, col, del⟩ := cd
      dsimp only at hm hdel hd
      subst hm hdel hd
      have hsl : sl = #[k0, k1, k2, k3, some (.builtin "ValueError.__new__"), k5] := by
        obtain ⟨l⟩ := sl
        simp only at hs
        rw [hs]
      subst hsl
      exact ⟨_, _, _, _, _, _, _, _, _, _, _, _, _, _, _, ho, hv⟩
    · cases h
  · cases h
theorem one_of {P : Program} {K : PySem.W.Frag} {d : ErrD} {l : List Value} (t : Text d) (e : iObs K d.nm = d.val) (o : oneB K P.main.file d = true) (b : basB K (He.ga K d.nm) = true) (m : mroB K (He.ga K d.nm) (.ref (He.ga K d.nm) :: l ++ vTail) = true)
    (g : genB K = true) (tp : (P.main.scope.names.lookup ("super" : Str)).isSome = false) : One P K (He.ga K d.nm) d.att := by
  obtain ⟨msg, q1, q2, q3, q4, q5, q6, q7, q8, q9, q10, h1, h2, h3, h4, h5, h6, h7, h8, h9, h10⟩ := t.ex
  unfold oneB at o
  simp only [Bool.and_eq_true, decide_eq_true_eq] at o
  obtain ⟨o1, o2, o3, o4, o5, o6, o7⟩ := o
  have I := isi_of b m g
  have hm : (PySem.W.clsIn K (He.ga K d.nm)).map (·.mro) = some (.ref (He.ga K d.nm) :: l ++ vTail) := of_decide_eq_true m
  obtain ⟨cl, hc, hmr⟩ := Option.map_eq_some_iff.mp hm
  have inM : ∀ v, (Value.ref (He.ga K d.nm) :: l ++ vTail).contains v = true → PySem.W.mroIn K (He.ga K d.nm) v = some true := fun v hv => by
    unfold PySem.W.mroIn
    rw [hc]
    show (if cl.mro.isEmpty = true then none else some (cl.mro.contains v)) = some true
    rw [hmr, hv]
    rfl
  unfold basB at b
  unfold genB at g
  simp only [Bool.and_eq_true, decide_eq_true_eq] at b g
  unfold iniB at o1
  unfold iObs at e
  cases q : K.lookup (ini K d.nm) with
  | none =>
    rw [q] at o1
    cases o1
  | some ob =>
    obtain ⟨oc, od, dt, osl⟩ := ob
    rw [q] at o1 e
    cases dt with
    | func fd =>
      obtain ⟨n1, n2, n3, n4, n5, n6, n7, n8, n9, n10, n11, n12, n13, n14, n15⟩ := fd
      have e2 : (some (n1, n2, n3, n4, n5, n6, n15) : FnI) = d.val := e
      unfold ErrD.val at e2
      simp only [Option.some.injEq, Prod.mk.injEq] at e2
      obtain ⟨r1, r2, r3, r4, r5, r6, r7⟩ := e2
      subst r1 r2 r3 r4 r5 r6 r7
      dsimp only at o1
      split at o1
      · rename_i x cc cd
        simp only [Bool.and_eq_true, decide_eq_true_eq] at o1
        obtain ⟨rfl, p1, p2, p3⟩ := o1
        exact ⟨⟨ini K d.nm, cc, cd, d.st, d.qual, msg, q1, q2, q3, q4, q5, q6, q7, q8, q9, q10, plS,
          ⟨⟨oex_of o2, He.eqO_ok o3, I.sb, b.1, b.2.1⟩, He.eqO_ok o4, o5, ⟨_, _, _, _, _, _, _, _, q⟩, p2, file_of p3, cell_of p1, He.eqO_ok o6, He.eqO_ok g.2.2.1, inM _ (by simp), inM _ (by rw [List.contains_iff_mem]; exact List.mem_append_right _ (by unfold vTail; simp)), He.eqO_ok o7, tp⟩,
          h1, h2, h3, h4, h5, h6, h7, h8, fun _ _ _ _ _ _ _ => h9 _ _ _ _ _ _ _ _ _, fun _ _ _ _ _ _ _ => h10 _ _ _ _ _ _ _ _ _⟩⟩
      · cases o1
    | _ => cases o1
end Hk

namespace Hk
open PySem PySem.Spec PyProof.Rows L2 NdefX Err
theorem t0 : Text d0 :=
  ⟨_, _, _, _, _, _, _, _, _, _, _, nscope_by (by decide +kernel), rfl, fun _ => rfl, rfl, rfl, rfl, rfl, fun _ => rfl, fun _ _ _ _ _ _ _ _ _ => rfl, fun _ _ _ _ _ _ _ _ _ => rfl⟩
theorem t1 : Text d1 :=
  ⟨_, _, _, _, _, _, _, _, _, _, _, nscope_by (by decide +kernel), rfl, fun _ => rfl, rfl, rfl, rfl, rfl, fun _ => rfl, fun _ _ _ _ _ _ _ _ _ => rfl, fun _ _ _ _ _ _ _ _ _ => rfl⟩
end Hk
-- part Dr

set_option maxHeartbeats 4000000
namespace Kn
open PySem PySem.Spec PyProof.Rows L2
def topS (i : Nat) : Stmt := PySem.Challenge.pw_stillknown_k07_loops_of_any_parts.main.body.getD i (.Pass ⟨0, 0, 0, 0⟩)
abbrev sBegun : Stmt := topS 25
abbrev sMixed : Stmt := topS 26
abbrev sTake : Stmt := topS 27
abbrev sPick : Stmt := topS 28
/-- the draws as a dict -/
abbrev kLarge : Key := Sum.inr "large"
abbrev kRest : Key := Sum.inr "rest"
abbrev kCells : Key := Sum.inr "cells"
abbrev kTurn : Key := Sum.inr "turn"
def dkv (l c : Addr) (r t : Int) : List (Key × V) := [(kLarge, .ref l), (kRest, .int r), (kCells, .ref c), (kTurn, .int t)]
theorem v_large (l c : Addr) (r t : Int) : valV (dkv l c r t) kLarge = some (.ref l) := by kernel_rfl
theorem v_rest (l c : Addr) (r t : Int) : valV (dkv l c r t) kRest = some (.int r) := by kernel_rfl
theorem v_cells (l c : Addr) (r t : Int) : valV (dkv l c r t) kCells = some (.ref c) := by kernel_rfl
theorem v_turn (l c : Addr) (r t : Int) : valV (dkv l c r t) kTurn = some (.int t) := by kernel_rfl
theorem p_rest (l c : Addr) (r t r' : Int) : putK (dkv l c r t) kRest (.int r') = dkv l c r' t := by kernel_rfl
theorem p_turn (l c : Addr) (r t t' : Int) : putK (dkv l c r t) kTurn (.int t') = dkv l c r t' := by kernel_rfl
def Ints (H : Hp) (a : Addr) : Prop := ∃ ns : List Int, H a = some (.lst (ns.map V.int))
structure Drw (H : Hp) (d l c : Addr) : Prop where
  dd : ∃ r t : Int, H d = some (.dK (dkv l c r t))
  ll : Ints H l
  cc : Ints H c
  lc : l ≠ c
/-- all that was tracked stands as it stood, but at the draws -/
def But (d l : Addr) (H H' : Hp) : Prop := ∀ b o, H b = some o → b ≠ d → b ≠ l → H' b = some o
section
variable {H H' : Hp} {d l c : Addr} {r t : Int}
theorem g_large (h : H d = some (.dK (dkv l c r t))) : DGet H d (.str "large") (some (.ref l)) := v_large l c r t ▸ DGet.k (k := kLarge) h
theorem g_rest (h : H d = some (.dK (dkv l c r t))) : DGet H d (.str "rest") (some (.int r)) := v_rest l c r t ▸ DGet.k (k := kRest) h
theorem g_cells (h : H d = some (.dK (dkv l c r t))) : DGet H d (.str "cells") (some (.ref c)) := v_cells l c r t ▸ DGet.k (k := kCells) h
theorem g_turn (h : H d = some (.dK (dkv l c r t))) : DGet H d (.str "turn") (some (.int t)) := v_turn l c r t ▸ DGet.k (k := kTurn) h
theorem q_rest {r' : Int} (h : H d = some (.dK (dkv l c r t))) : DPut H d (.str "rest") (.int r') (upd H d (.dK (dkv l c r' t))) := by
  have e := DPut.k (k := kRest) (v := .int r') h (by show 4 < sizeLine; decide)
  rw [p_rest] at e
  exact e
theorem q_turn {t' : Int} (h : H d = some (.dK (dkv l c r t))) : DPut H d (.str "turn") (.int t') (upd H d (.dK (dkv l c r t'))) := by
  have e := DPut.k (k := kTurn) (v := .int t') h (by show 4 < sizeLine; decide)
  rw [p_turn] at e
  exact e
theorem Drw.nl (D : Drw H d l c) : l ≠ d := by
  obtain ⟨⟨r, t, h⟩, ⟨ns, hl⟩, _, _⟩ := D
  exact ne_of hl h (by intro z; cases z)
theorem Drw.nc (D : Drw H d l c) : c ≠ d := by
  obtain ⟨⟨r, t, h⟩, _, ⟨ns, hc⟩, _⟩ := D
  exact ne_of hc h (by intro z; cases z)
/-- the dict is stored anew -/
theorem Drw.put (D : Drw H d l c) (r t : Int) : Drw (upd H d (.dK (dkv l c r t))) d l c :=
  ⟨⟨r, t, upd_same⟩, by obtain ⟨ns, e⟩ := D.ll; exact ⟨ns, by rw [upd_ne D.nl]; exact e⟩, by obtain ⟨ns, e⟩ := D.cc; exact ⟨ns, by rw [upd_ne D.nc]; exact e⟩, D.lc⟩
theorem But.refl : But d l H H := fun _ _ h _ _ => h
theorem But.trans {H1 H2 : Hp} (a : But d l H H1) (b : But d l H1 H2) : But d l H H2 := fun x o h h1 h2 => b x o (a x o h h1 h2) h1 h2
theorem But.atd {o : HO} : But d l H (upd H d o) := fun b u e h _ => by rw [upd_ne h]; exact e
theorem But.atl {o : HO} : But d l H (upd H l o) := fun b u e _ h => by rw [upd_ne h]; exact e
theorem But.new {p : Addr} {o : HO} (np : H p = none) : But d l H (upd H p o) := fun b u e _ _ => by rw [upd_ne (ne_of_none e np)]; exact e
theorem Drw.new {p : Addr} {o : HO} (D : Drw H d l c) (np : H p = none) : Drw (upd H p o) d l c := by
  obtain ⟨⟨r, t, h⟩, ⟨ns, hl⟩, ⟨ms, hc⟩, n⟩ := D
  exact ⟨⟨r, t, by rw [upd_ne (ne_of_none h np)]; exact h⟩, ⟨ns, by rw [upd_ne (ne_of_none hl np)]; exact hl⟩, ⟨ms, by rw [upd_ne (ne_of_none hc np)]; exact hc⟩, n⟩
end
def spMixed : Sp := fun vs H Q _ => ∃ d l c, vs = [.ref d] ∧ Drw H d l c ∧ ∀ (k : Int) H', Drw H' d l c → But d l H H' → Q (.int k) H'
def spTake : Sp := fun vs H Q _ => ∃ d l c n, vs = [.ref d, .int n] ∧ Drw H d l c ∧ 0 < n ∧ n < 1073741824 ∧ ∀ (k : Int) H', 0 ≤ k → k < n → Drw H' d l c → But d l H H' → Q (.int k) H'
def spPick : Sp := fun vs H Q _ => ∃ d l c s xs, vs = [.ref d, .ref s] ∧ Drw H d l c ∧ H s = some (.lst xs) ∧ s ≠ l ∧ 0 < xs.length ∧ xs.length ≤ 1000 ∧ ∀ (k : Nat) x H', xs[k]? = some x → Drw H' d l c → But d l H H' → Q x H'
theorem scM : FnScope ["_law_draw", "_law_turn", "_law_found", "_law_great", "_law_blend", "_law_grain"] ["_law_draw"] (defScope sMixed) := ⟨rfl, rfl, rfl, by decide +kernel, rfl, by decide +kernel, by decide +kernel⟩
theorem scT : FnScope ["_law_draw", "_law_amount", "_law_found"] ["_law_draw", "_law_amount"] (defScope sTake) := ⟨rfl, rfl, rfl, by decide +kernel, rfl, by decide +kernel, by decide +kernel⟩
theorem scP : FnScope ["_law_draw", "_law_some"] ["_law_draw", "_law_some"] (defScope sPick) := ⟨rfl, rfl, rfl, by decide +kernel, rfl, by decide +kernel, by decide +kernel⟩
/-- a remainder lies below 2^31 -/
theorem rem_in {a b : Int} (h0 : 0 < b) (h1 : b < 4294967296) : -(2 ^ 64) < a % b ∧ a % b < 2 ^ 64 := by
  have e1 := Int.emod_nonneg a (show b ≠ 0 by omega)
  have e2 := Int.emod_lt_of_pos a h0
  omega
theorem dp_ints {K : PySem.W.Frag} {H : Hp} : ∀ ns : List Int, DpAll K H (ns.map V.int) (ns.map PyData.int)
  | [] => .nil
  | n :: ns => .cons (.int n) (dp_ints ns)
theorem ints_shaped (ns : List Int) : SeqAt.shaped (.list (ns.map PyData.int)) = true := PySem.W.ke_shaped_ints ns
section
variable {P : Program} {w : World} {K : PySem.W.Frag} {mg : Str → Option Value} {base : Heap}
theorem ok_mixed {f : Addr} {fd : FuncData} (F : Fun K "_law_mixed" "_law_mixed" sMixed f fd) (mi : mg "int" = none) : FnOk P w K mg base CX0 1 f fd ["_law_draw"] spMixed := by
  refine F.ok scM (fun vs H Q E h => ?_) (fun cdv A outer s H vs Q E hr h => ?_)
  · obtain ⟨d, l, c, rfl, _⟩ := h
    rfl
  · obtain ⟨d, l, c, rfl, D, q⟩ := h
    have hu := hu_of hr
    refine ⟨_, pss_cons (ps_dput hu (pv 0) pe_str (pe_op op_add (pe_dget hu (pv 0) pe_str (fun _ _ => rfl)) pe_int) rfl)
      (pss_cons (ps_par (i := 1) (j := 2) rfl scM.nd rfl rfl (by decide) rfl rfl (pa_cons (pe_callTy call_int1 (by rfl) mi (by decide +kernel) (pa_cons (pe_dget hu (pv 0) pe_str (fun _ _ => rfl)) pa_nil)) (pa_cons pe_int pa_nil)) (by rfl) (by rfl))
      (pss_cons (ps_for PassesOwn.never rfl (pi_list (pe_lst (pa_cons pe_int (pa_cons pe_int (pa_cons pe_int pa_nil))))) (pg_name (i := 3) scM.nd rfl (.inl rfl))
        (pss_cons (ps_set (i := 4) scM.nd rfl (.inl rfl) (pe_op op_mod (pe_op op_add (pe_op op_mul (pv 1) pe_int) (pe_op op_fdiv (pv 3) pe_int)) (pv 3)))
        (pss_cons (ps_for PassesOwn.never rfl (pi_list (pe_dget hu (pv 0) pe_str (fun _ _ => rfl))) (pg_name (i := 5) scM.nd rfl (.inl rfl))
          (pss_one (ps_set (i := 4) scM.nd rfl (.inl rfl) (pe_op op_mod (pe_op op_add (pe_op op_mul (pv 4) pe_int) (pe_callTy call_int1 (by rfl) mi (by decide +kernel) (pa_cons (pv 5) pa_nil))) (pv 3)))))
        (pss_one (ps_set (i := 2) scM.nd rfl (.inl rfl) (pe_op op_add (pe_op op_mul (pv 2) pe_int) (pe_op op_mod (pe_op op_pow (pv 4) pe_int) (pv 3))))))))
      (pss_one (ps_ret (pv 2))))), ?_⟩
    obtain ⟨⟨r, t, hd⟩, ll, cc, lc⟩ := id D
    -- the turn
    refine ⟨_, rfl, d, _, rfl, g_turn hd, _, _, rfl, rfl, _, rfl, d, _, rfl, q_turn hd, ?_⟩
    have D1 := D.put r (t + 1)
    obtain ⟨⟨r1, t1, hd1⟩, _, _, _⟩ := id D1
    refine ⟨_, rfl, d, _, rfl, g_turn hd1, .inl ⟨_, rfl, _, _, rfl, ?_⟩⟩
    have B1 : But d l H (upd H d (.dK (dkv l c r (t + 1)))) := But.atd
    generalize upd H d (.dK (dkv l c r (t + 1))) = H1 at D1 hd1 B1 ⊢
    -- the three moduli
    refine ⟨by show 3 ≤ sizeLine; decide, fun p np => ?_⟩
    have gp : (upd H1 p (.lst [.int 2147483629, .int 2147483587, .int 2147483579])) p = some (.lst [.int 2147483629, .int 2147483587, .int 2147483579]) := upd_same
    refine ⟨p, rfl, ⟨_, SqL.of gp⟩, for_list (xs := [.int 2147483629, .int 2147483587, .int 2147483579]) (fun _ σ H2 => ∃ (fo : Int) (y3 y4 y5 : Option V), σ = [some (.ref d), some (.int t1), some (.int fo), y3, y4, y5] ∧ Drw H2 d l c ∧ But d l H H2 ∧ H2 p = some (.lst [.int 2147483629, .int 2147483587, .int 2147483579]))
      ⟨0, none, none, none, rfl, D1.new np, B1.trans (But.new np), gp⟩ (fun _ _ _ _ ⟨_, _, _, _, _, _, _, e⟩ => SqL.of e) ?_ ?_⟩
    · rintro i x σ H2 hx ⟨fo, y3, y4, y5, rfl, D2, B2, e2⟩
      obtain ⟨g, rfl, h0, h1⟩ : ∃ g : Int, x = .int g ∧ 0 < g ∧ g < 4294967296 := by
        rcases i with _ | _ | _ | i
        · exact ⟨_, (Option.some.inj hx).symm, by decide, by decide⟩
        · exact ⟨_, (Option.some.inj hx).symm, by decide, by decide⟩
        · exact ⟨_, (Option.some.inj hx).symm, by decide, by decide⟩
        · simp at hx
      refine ⟨_, rfl, _, _, rfl, rfl, .inr ⟨by decide, by decide⟩, _, rfl, _, _, rfl, rfl, ⟨by decide, by decide⟩, _, _, rfl, rfl, _, rfl, _, _, rfl, rfl, h0, ?_⟩
      obtain ⟨⟨r2, t2, hd2⟩, _, ⟨cs, hc2⟩, _⟩ := id D2
      refine ⟨_, rfl, d, _, rfl, g_cells hd2, c, rfl, ⟨_, SqL.of hc2⟩, for_list (xs := cs.map V.int) (fun _ σ H3 => ∃ (bl : Int) (y5 : Option V), σ = [some (.ref d), some (.int t1), some (.int fo), some (.int g), some (.int bl), y5] ∧ (-(2 ^ 64) < bl ∧ bl < 2 ^ 64) ∧ H3 = H2)
        ⟨_, y5, rfl, rem_in h0 h1, rfl⟩ (fun _ _ _ _ ⟨_, _, _, _, e⟩ => by rw [e]; exact SqL.of hc2) ?_ ?_⟩
      · rintro j x σ H3 hx ⟨b, y, rfl, hb, rfl⟩
        obtain ⟨z, rfl⟩ : ∃ z, x = V.int z := by
          rw [List.getElem?_map] at hx
          cases e : cs[j]? with
          | none => rw [e] at hx; cases hx
          | some z => rw [e] at hx; exact ⟨z, (Option.some.inj hx).symm⟩
        refine ⟨_, rfl, _, _, rfl, rfl, .inl hb, _, rfl, .inl ⟨_, rfl, _, _, rfl, rfl, _, rfl, _, _, rfl, rfl, h0, ?_⟩⟩
        exact ⟨_, _, rfl, rem_in h0 h1, rfl⟩
      · rintro σ H3 ⟨b, y, rfl, hb, rfl⟩
        refine ⟨_, rfl, _, _, rfl, rfl, .inr ⟨by decide, by decide⟩, _, rfl, _, _, rfl, rfl, ⟨by decide, by decide, ?_⟩, _, rfl, _, _, rfl, rfl, h0, _, _, rfl, rfl, ?_⟩
        · omega
        · exact ⟨_, _, _, _, rfl, D2, B2, e2⟩
    · rintro σ H2 ⟨fo, y3, y4, y5, rfl, D2, B2, e2⟩
      exact ⟨_, rfl, q fo H2 D2 B2⟩
theorem ok_take {f fM : Addr} {fd fdM : FuncData} (F : Fun K "_law_take" "_law_take" sTake f fd) (FM : Fun K "_law_mixed" "_law_mixed" sMixed fM fdM) (bM : Binds K fdM ["_law_draw"] []) (gM : mg "_law_mixed" = some (.ref fM)) (mi : mg "int" = none) :
    FnOk P w K mg base CX0 2 f fd ["_law_draw", "_law_amount"] spTake := by
  have GM : FnOk P w K mg base CX0 1 fM fdM ["_law_draw"] spMixed := ok_mixed FM mi
  refine F.ok scT (fun vs H Q E h => ?_) (fun cdv A outer s H vs Q E hr h => ?_)
  · obtain ⟨d, l, c, n, rfl, _⟩ := h
    rfl
  · obtain ⟨d, l, c, n, rfl, D, n0, n1, q⟩ := h
    have hu := hu_of hr
    refine ⟨_, pss_cons (ps_if (pt_cmpR op_eq (pe_dget hu (pv 0) pe_str (fun _ _ => rfl)) pe_int (nomark _))
        (pss_one (ps_dput hu (pv 0) pe_str (pe_ifExp (pt_cmpR (op_neD hr.units) (pe_dget hu (pv 0) pe_str (fun _ _ => rfl)) (pe_lst pa_nil) (nomark _))
          (pe_bm PySem.F.plainAttrs_list PySem.F.slot_list_pop PySem.F.type_list_pop mt_popAt (pe_dget hu (pv 0) pe_str (fun _ _ => rfl)) (pa_cons pe_int pa_nil))
          (pe_call GM hr (by rfl) gM FM.kp bM .nil pass0 (pa_cons (pv 0) pa_nil))) rfl)) pss_nil)
      (pss_cons (ps_set (i := 2) scT.nd rfl (.inl rfl) (pe_op op_mod (pe_callTy call_int1 (by rfl) mi (by decide +kernel) (pa_cons (pe_dget hu (pv 0) pe_str (fun _ _ => rfl)) pa_nil)) (pv 1)))
      (pss_cons (ps_dput hu (pv 0) pe_str (pe_op op_fdiv (pe_callTy call_int1 (by rfl) mi (by decide +kernel) (pa_cons (pe_dget hu (pv 0) pe_str (fun _ _ => rfl)) pa_nil)) (pv 1)) rfl)
      (pss_one (ps_ret (pv 2))))), ?_⟩
    obtain ⟨⟨r, t, hd⟩, ll, cc, lc⟩ := id D
    refine' (fun tail : ∀ H1 : Hp, Drw H1 d l c → But d l H H1 → (?G : Hp → Prop) H1 => ?a) ?b
    case a =>
      refine ⟨_, rfl, d, _, rfl, g_rest hd, rfl, _, rfl, ite2 (fun e => ?_) (fun e => ?_)⟩
      -- the rest is 0: the first of the large ones, or a mixed one
      · obtain ⟨ns, hl⟩ := ll
        refine ⟨_, rfl, d, _, rfl, g_large hd, Nat.zero_le _, fun p np => ?_⟩
        have Dp1 := D.new (o := .lst []) np
        have Bp1 : But d l H (upd H p (.lst [])) := But.new np
        have hl1 : (upd H p (.lst [])) l = some (.lst (ns.map V.int)) := by rw [upd_ne (ne_of_none hl np)]; exact hl
        have hd1 : (upd H p (.lst [])) d = some (.dK (dkv l c r t)) := by rw [upd_ne (ne_of_none hd np)]; exact hd
        have hp1 : (upd H p (.lst [])) p = some (.lst []) := upd_same
        generalize upd H p (.lst []) = H1 at Dp1 Bp1 hl1 hd1 hp1 ⊢
        refine ⟨.list (ns.map PyData.int), .list [], .lst (SqL.of hl1) (dp_ints ns), .lst (SqL.of hp1) .nil, ints_shaped ns, rfl, _, rfl, ?_⟩
        cases ns with
        | nil =>
          refine iteF ⟨.ref d, rfl, d, l, c, rfl, Dp1, fun k H2 D2 B2 => ?_⟩
          obtain ⟨⟨r2, t2, hd2⟩, _, _, _⟩ := id D2
          refine ⟨_, rfl, d, _, rfl, q_rest hd2, ?_⟩
          have D3 := D2.put k t2
          have B3 : But d l H (upd H2 d (.dK (dkv l c k t2))) := (Bp1.trans B2).trans But.atd
          generalize upd H2 d (.dK (dkv l c k t2)) = H3 at D3 B3 ⊢
          exact tail H3 D3 B3
        | cons x xs =>
          refine iteT ⟨_, rfl, d, _, rfl, g_large hd1, .inl ⟨rfl, _, SqL.of hl1⟩, l, _, 0, 0, .int x, rfl, rfl, hl1, by decide, by decide, seqIndex_of (by decide) (by simp), rfl, ?_⟩
          have D2 : Drw (upd H1 l (.lst (xs.map V.int))) d l c := ⟨⟨r, t, by rw [upd_ne D.nl.symm]; exact hd1⟩, ⟨xs, upd_same⟩, by obtain ⟨ms, hc⟩ := Dp1.cc; exact ⟨ms, by rw [upd_ne lc.symm]; exact hc⟩, lc⟩
          have B2 : But d l H (upd H1 l (.lst (xs.map V.int))) := Bp1.trans But.atl
          have eL : (List.map V.int (x :: xs)).eraseIdx 0 = xs.map V.int := rfl
          rw [eL]
          obtain ⟨⟨r2, t2, hd2⟩, _, _, _⟩ := id D2
          refine ⟨_, rfl, d, _, rfl, q_rest hd2, ?_⟩
          have D3 := D2.put x t2
          have B3 := B2.trans (But.atd (o := .dK (dkv l c x t2)))
          generalize upd (upd H1 l (.lst (xs.map V.int))) d (.dK (dkv l c x t2)) = H3 at D3 B3 ⊢
          exact tail H3 D3 B3
      · exact tail H D But.refl
    case b =>
      intro H1 D1 B1
      obtain ⟨⟨r1, t1, hd1⟩, _, _, _⟩ := id D1
      refine ⟨_, rfl, d, _, rfl, g_rest hd1, .inl ⟨_, rfl, _, rfl, _, _, rfl, rfl, n0, ?_⟩⟩
      refine ⟨_, rfl, d, _, rfl, g_rest hd1, .inl ⟨_, rfl, _, rfl, _, _, rfl, rfl, ⟨n0, n1⟩, _, rfl, d, _, rfl, q_rest hd1, ?_⟩⟩
      exact ⟨_, rfl, q _ _ (Int.emod_nonneg _ (by omega)) (Int.emod_lt_of_pos _ n0) (D1.put _ _) (B1.trans But.atd)⟩
theorem ok_pick {f fT fM : Addr} {fd fdT fdM : FuncData} (F : Fun K "_law_pick" "_law_pick" sPick f fd) (FT : Fun K "_law_take" "_law_take" sTake fT fdT) (FM : Fun K "_law_mixed" "_law_mixed" sMixed fM fdM)
    (bT : Binds K fdT ["_law_draw", "_law_amount"] []) (bM : Binds K fdM ["_law_draw"] []) (gT : mg "_law_take" = some (.ref fT)) (gM : mg "_law_mixed" = some (.ref fM)) (mi : mg "int" = none) (ml : mg "len" = none) :
    FnOk P w K mg base CX0 3 f fd ["_law_draw", "_law_some"] spPick := by
  have GT : FnOk P w K mg base CX0 2 fT fdT ["_law_draw", "_law_amount"] spTake := ok_take FT FM bM gM mi
  refine F.ok scP (fun vs H Q E h => ?_) (fun cdv A outer s H vs Q E hr h => ?_)
  · obtain ⟨d, l, c, z, xs, rfl, _⟩ := h
    rfl
  · obtain ⟨d, l, c, z, xs, rfl, D, hz, zl, x0, x1, q⟩ := h
    have hu := hu_of hr
    refine ⟨_, pss_one (ps_ret (pe_ix ix_list (pv 1) (pe_call GT hr (by rfl) gT FT.kp bT .nil pass0 (pa_cons (pv 0) (pa_cons (pe_callB call_len_seq (by rfl) ml PySem.boot_len (pa_cons (pv 1) pa_nil)) pa_nil))) (fun _ _ => rfl))), ?_⟩
    obtain ⟨⟨r, t, hd⟩, _, _, _⟩ := id D
    have zd : z ≠ d := ne_of hz hd (by intro z; cases z)
    refine ⟨_, rfl, _, rfl, _, rfl, z, xs, rfl, .inl (SqL.of hz), d, l, c, _, rfl, D, by omega, by omega, fun k H1 k0 k1 D1 B1 => ?_⟩
    obtain ⟨j, rfl⟩ : ∃ j : Nat, k = (j : Int) := ⟨k.toNat, by omega⟩
    have hj : j < xs.length := by omega
    exact ⟨z, xs, (j : Int), xs[j], rfl, rfl, SqL.of (B1 _ _ hz zd zl), atI_nat (List.getElem?_eq_getElem hj), q j _ H1 (List.getElem?_eq_getElem hj) D1 B1⟩
end
end Kn
-- part Bg
set_option maxHeartbeats 4000000
namespace Kn
open PySem PySem.Spec PyProof.Rows L2
theorem scB : FnScope ["_law_script", "_law_large", "_law_grain"] ["_law_script"] (defScope sBegun) := ⟨rfl, rfl, rfl, by decide +kernel, rfl, by decide +kernel, by decide +kernel⟩
def spBegun (K : PySem.W.Frag) : Sp := fun vs H Q _ => ∃ (a : Addr) (ns : List Int), vs = [.ref a] ∧ SqL K H a (ns.map V.int) ∧ ns.length ≤ 63 ∧ ∀ d l c H', Same H H' → H d = none → H l = none → H c = none → Drw H' d l c → Q (.ref d) H'
theorem same_new {H : Hp} {p : Addr} {o : HO} (h : H p = none) : Same H (upd H p o) := fun b u e => by
  rw [upd_ne (ne_of_none e h)]
  exact e
theorem same_own {H H1 : Hp} {p : Addr} {o : HO} (h : H p = none) (s : Same H H1) : Same H (upd H1 p o) := fun b u e => by
  rw [upd_ne (ne_of_none e h)]
  exact s b u e
theorem int_at {ns : List Int} {i : Nat} {x : V} (h : (ns.map V.int)[i]? = some x) : ∃ z, x = V.int z ∧ i < ns.length := by
  have hi := (List.getElem?_eq_some_iff.mp h).1
  rw [List.length_map] at hi
  rw [List.getElem?_map, List.getElem?_eq_getElem hi] at h
  exact ⟨ns[i], (Option.some.inj h).symm, hi⟩
section
variable {P : Program} {w : World} {K : PySem.W.Frag} {mg : Str → Option Value} {base : Heap}
theorem ok_begun {f : Addr} {fd : FuncData} (F : Fun K "_law_begun" "_law_begun" sBegun f fd) (ma : mg "abs" = none) : FnOk P w K mg base CX0 1 f fd ["_law_script"] (spBegun K) := by
  refine F.ok scB (fun vs H Q E h => ?_) (fun cdv A outer s H vs Q E hr h => ?_)
  · obtain ⟨a, ns, rfl, _⟩ := h
    rfl
  · obtain ⟨a, ns, rfl, hS, hn, q⟩ := h
    have hu := hu_of hr
    refine ⟨_, pss_cons (ps_setLc (i := 1) (own := [("_law_grain", 2)]) (g := gName 2) rfl scB.nd rfl rfl (sw_true rfl rfl rfl (by decide +kernel)) (pi_list (pv 0)) (blkOk_by (N := ["_law_script", "_law_large", "_law_grain"]) (sc := defScope sBegun) (by decide +kernel)) (fun _ _ _ _ _ => pg_name (i := 2) scB.nd rfl (.inl rfl))
          (fun _ _ _ _ _ => pts_one (pt_cmpR op_ge (pe_callB call_abs (by rfl) ma (by decide +kernel) (pa_cons (pv 2) pa_nil)) (pe_op op_pow pe_int pe_int) (nomark _)))
          (fun _ _ _ _ _ => pe_op op_sub (pe_callB call_abs (by rfl) ma (by decide +kernel) (pa_cons (pv 2) pa_nil)) (pe_op op_pow pe_int pe_int)))
      (pss_one (ps_ret (pe_disp (pps_cons pe_str (pv 1) (pps_cons pe_str pe_int (pps_cons pe_str
          (pe_lc (own := [("_law_grain", 2)]) (g := gName 2) rfl scB.nd (pi_list (pv 0)) (blkOk_by (N := ["_law_script", "_law_large", "_law_grain"]) (sc := defScope sBegun) (by decide +kernel)) (fun _ _ _ _ _ => pg_name (i := 2) scB.nd rfl (.inl rfl)) (fun _ _ _ _ _ => pts_nil)
            (fun _ _ _ _ _ => pe_callB call_abs (by rfl) ma (by decide +kernel) (pa_cons (pv 2) pa_nil)))
          (pps_cons pe_str pe_int pps_nil)))) rfl rfl (by decide) (by decide)))), ?_⟩
    -- the large ones
    refine ⟨_, rfl, a, rfl, ⟨_, hS⟩, fun L nL => lc_list (xs := ns.map V.int) (fun i H2 => Same H H2 ∧ ∃ acc : List Int, H2 L = some (.lst (acc.map V.int)) ∧ acc.length ≤ i) ⟨same_new nL, [], upd_same, Nat.le_refl _⟩ (fun _ _ _ h => h.1.seq hS) ?_ ?_⟩
    · rintro i x H2 hx ⟨sm, acc, ea, la⟩
      obtain ⟨z, rfl, hi⟩ := int_at hx
      refine ⟨rfl, _, rfl, z, rfl, _, _, rfl, rfl, ⟨by decide, by decide, by decide⟩, _, _, rfl, rfl, _, rfl, ite2 (fun e => ?_) (fun e => ?_)⟩
      · refine ⟨_, rfl, z, rfl, _, _, rfl, rfl, ⟨by decide, by decide, by decide⟩, _, _, rfl, rfl, _, ea, ?_, same_own nL sm, acc ++ [(if z < 0 then -z else z) - 10 ^ Int.toNat 18], ?_, ?_⟩
        · rw [List.length_map]
          exact small1000 (by omega)
        · exact Eq.trans upd_same (by rw [List.map_append]; rfl)
        · rw [List.length_append, List.length_singleton]
          omega
      · exact ⟨sm, acc, ea, Nat.le_succ_of_le la⟩
    · rintro H2 ⟨sm, ls, eL, _⟩
      -- the dict
      refine fun p np => ?_
      have npL : L ≠ p := ne_of_none eL np
      refine ⟨_, rfl, _, rfl, a, rfl, ⟨_, (same_new np).seq (sm.seq hS)⟩, fun C nC => lc_list (xs := ns.map V.int) (fun i H3 => Same H H3 ∧ H3 p = some (.dK []) ∧ H3 L = some (.lst (ls.map V.int)) ∧ ∃ acc : List Int, H3 C = some (.lst (acc.map V.int)) ∧ acc.length ≤ i) ?_ (fun _ _ _ h => h.1.seq hS) ?_ ?_⟩
      · have npC : p ≠ C := ne_of_none upd_same nC
        have nC2 : H2 C = none := (same_new np).free nC
        refine ⟨sm.trans ((same_new np).trans (same_new nC)), ?_, ?_, [], upd_same, Nat.le_refl _⟩
        · rw [upd_ne npC, upd_same]
        · rw [upd_ne (ne_of_none eL nC2), upd_ne npL]
          exact eL
      · rintro i x H3 hx ⟨s3, ep, e3, acc, ea, la⟩
        obtain ⟨z, rfl, hi⟩ := int_at hx
        have pC : p ≠ C := ne_of ep ea (by intro z; cases z)
        have LC : L ≠ C := fun e => by
          have nC2 := (same_new (o := .dK []) np).free nC
          rw [← e, eL] at nC2
          cases nC2
        refine ⟨rfl, ?_⟩
        dsimp only [tYes]
        rw [if_pos rfl]
        refine ⟨_, rfl, z, rfl, _, ea, ?_, same_own (sm.free ((same_new np).free nC)) s3, ?_, ?_, acc ++ [if z < 0 then -z else z], ?_, ?_⟩
        · rw [List.length_map]
          exact small1000 (by omega)
        · rw [upd_ne pC]
          exact ep
        · rw [upd_ne LC]
          exact e3
        · exact Eq.trans upd_same (by rw [List.map_append]; rfl)
        · rw [List.length_append, List.length_singleton]
          omega
      · rintro H3 ⟨s3, ep, e3, acc, ea, la⟩
        have nC2 : H2 C = none := (same_new np).free nC
        have LC : L ≠ C := fun e => by
          rw [← e, eL] at nC2
          cases nC2
        have pC : C ≠ p := ne_of ea ep (by intro z; cases z)
        refine ⟨ep, dkv L C 0 0, rfl, by show 4 ≤ 15; decide, ?_⟩
        refine q p L C _ (same_own (sm.free np) s3) (sm.free np) nL (sm.free nC2) ⟨⟨0, 0, upd_same⟩, ⟨ls, ?_⟩, ⟨acc, ?_⟩, LC⟩
        · rw [upd_ne npL]
          exact e3
        · rw [upd_ne pC]
          exact ea
end
end Kn
-- part Sh
set_option maxHeartbeats 4000000
namespace Kn
open PySem PySem.Spec PyProof.Rows L2
abbrev sShuf : Stmt := topS 29
theorem scS : FnScope ["_law_draw", "_law_some", "_law_pool", "_law_found"] ["_law_draw", "_law_some"] (defScope sShuf) := ⟨rfl, rfl, rfl, by decide +kernel, rfl, by decide +kernel, by decide +kernel⟩
/-- a number or a text -/
inductive Sm : V → PyData → Prop where
  | int (i : Int) : Sm (.int i) (.int i)
  | str (x : Str) (h : PyData.strOk x = true) : Sm (.str x) (.str x)
inductive Sms : List V → List PyData → Prop where
  | nil : Sms [] []
  | cons {x : V} {y : PyData} {xs : List V} {ys : List PyData} (h : Sm x y) (t : Sms xs ys) : Sms (x :: xs) (y :: ys)
theorem Sms.of : ∀ {xs : List V}, (∀ x ∈ xs, ∃ y, Sm x y) → ∃ ys, Sms xs ys
  | [], _ => ⟨_, .nil⟩
  | x :: xs, h => by
    obtain ⟨y, hy⟩ := h x (List.mem_cons_self ..)
    obtain ⟨ys, t⟩ := Sms.of (xs := xs) fun z hz => h z (List.mem_cons_of_mem _ hz)
    exact ⟨_, .cons hy t⟩
theorem Sms.dp {K : PySem.W.Frag} {H : Hp} : ∀ {xs : List V} {ys : List PyData}, Sms xs ys → DpAll K H xs ys
  | _, _, .nil => .nil
  | _, _, .cons h t => .cons (by cases h with | int i => exact .int _ | str x _ => exact .str _) t.dp
theorem Sms.lay : ∀ {xs : List V} {ys : List PyData}, Sms xs ys → PyData.canLayAll0 ys = true ∧ PyData.depthAll ys = 0
  | _, _, .nil => ⟨rfl, rfl⟩
  | _, _, .cons h t => by
    obtain ⟨z1, z2⟩ := t.lay
    cases h with
    | int i => simp [PyData.canLayAll0, PyData.canLay0, PyData.depthAll, PyData.depth, z1, z2]
    | str x h => simp [PyData.canLayAll0, PyData.canLay0, PyData.depthAll, PyData.depth, z1, z2, h]
theorem Sms.flat {xs : List V} {ys : List PyData} (h : Sms xs ys) : SeqAt.shaped (.list ys) = true := by
  obtain ⟨z1, z2⟩ := h.lay
  simp [SeqAt.shaped, PyData.canLay0, PyData.depth, z1, z2]
theorem But.own {d l p : Addr} {H H2 : Hp} {o : HO} (b : But d l H H2) (np : H p = none) : But d l H (upd H2 p o) := fun x u e h1 h2 => by
  rw [upd_ne (ne_of_none e np)]
  exact b x u e h1 h2
theorem Drw.own {d l c p : Addr} {H H2 : Hp} {o : HO} (D : Drw H2 d l c) (D0 : Drw H d l c) (np : H p = none) : Drw (upd H2 p o) d l c := by
  obtain ⟨⟨r, t, h⟩, ⟨ns, hl⟩, ⟨ms, hc⟩, n⟩ := D
  obtain ⟨⟨r0, t0, h0⟩, ⟨ns0, hl0⟩, ⟨ms0, hc0⟩, _⟩ := D0
  exact ⟨⟨r, t, by rw [upd_ne (ne_of_none h0 np)]; exact h⟩, ⟨ns, by rw [upd_ne (ne_of_none hl0 np)]; exact hl⟩, ⟨ms, by rw [upd_ne (ne_of_none hc0 np)]; exact hc⟩, n⟩
theorem perm_pop : ∀ {xs : List V} {k : Nat} {y : V}, xs[k]? = some y → (y :: xs.eraseIdx k).Perm xs
  | x :: xs, 0, y, h => by
    cases h
    exact .refl _
  | x :: xs, k + 1, y, h => by
    have z := perm_pop (xs := xs) (k := k) (y := y) (by simpa using h)
    exact (List.Perm.swap x y _).trans (z.cons x)
def spShuf : Sp := fun vs H Q _ => ∃ d l c s xs, vs = [.ref d, .ref s] ∧ Drw H d l c ∧ H s = some (.lst xs) ∧ s ≠ l ∧ (∀ x ∈ xs, ∃ y, Sm x y) ∧ xs.length ≤ 1000 ∧ ∀ p ys H', ys.Perm xs → Drw H' d l c → But d l H H' → H p = none → H' p = some (.lst ys) → Q (.ref p) H'
section
variable {P : Program} {w : World} {K : PySem.W.Frag} {mg : Str → Option Value} {base : Heap}
theorem ok_shuf {f fT : Addr} {fd fdT : FuncData} (F : Fun K "_law_shuffled" "_law_shuffled" sShuf f fd) (GT : FnOk P w K mg base CX0 2 fT fdT ["_law_draw", "_law_amount"] spTake) (kT : PySem.W.keepIn K (.ref fT) = true)
    (bT : Binds K fdT ["_law_draw", "_law_amount"] []) (gT : mg "_law_take" = some (.ref fT)) (ml : mg "len" = none) (mk : mg "list" = none) : FnOk P w K mg base CX0 3 f fd ["_law_draw", "_law_some"] spShuf := by
  have S := scS
  refine F.ok S (fun vs H Q E h => ?_) (fun cdv A outer s H vs Q E hr h => ?_)
  · obtain ⟨d, l, c, z, xs, rfl, _⟩ := h
    rfl
  · obtain ⟨d, l, c, z, xs, rfl, D, hz, zl, hx, x1, q⟩ := h
    have hu := hu_of hr
    refine ⟨_, pss_cons (ps_par (i := 2) (j := 3) rfl S.nd rfl rfl (by decide) rfl rfl (pa_cons (pe_callTy call_list_of (by rfl) mk (by decide +kernel) (pa_cons (pv 1) pa_nil)) (pa_cons (pe_lst pa_nil) pa_nil)) (by rfl) (by rfl))
      (pss_cons (ps_while PassesOwn.never (pt_cmpR (op_neD hr.units) (pv 2) (pe_lst pa_nil) (nomark _))
        (pss_one (ps_expr (pe_bm PySem.F.plainAttrs_list PySem.F.slot_list_append PySem.F.type_list_append mt_append (pv 3)
          (pa_cons (pe_bm PySem.F.plainAttrs_list PySem.F.slot_list_pop PySem.F.type_list_pop mt_popAt (pv 2)
            (pa_cons (pe_call GT hr (by rfl) gT kT bT .nil pass0 (pa_cons (pv 0) (pa_cons (pe_callB call_len_seq (by rfl) ml PySem.boot_len (pa_cons (pv 2) pa_nil)) pa_nil))) pa_nil)) pa_nil)))))
      (pss_one (ps_ret (pv 3)))), ?_⟩
    refine ⟨_, rfl, z, xs, rfl, .inl (SqL.of hz), fun po npo => ?_⟩
    refine ⟨Nat.zero_le _, fun fo nfo => ⟨_, _, rfl, ?_⟩⟩
    have nfo' : H fo = none := by
      by_cases e : fo = po
      · subst e
        rw [upd_same] at nfo
        cases nfo
      · rw [upd_ne e] at nfo
        exact nfo
    have pf : po ≠ fo := fun e => by
      subst e
      rw [upd_same] at nfo
      cases nfo
    have hp0 : (upd (upd H po (.lst xs)) fo (.lst [])) po = some (.lst xs) := by rw [upd_ne pf, upd_same]
    have hf0 : (upd (upd H po (.lst xs)) fo (.lst [])) fo = some (.lst []) := upd_same
    have D1 := ((Drw.own (o := .lst xs) D D npo).own (o := .lst []) D nfo')
    have B1 : But d l H (upd (upd H po (.lst xs)) fo (.lst [])) := (But.own (o := .lst xs) But.refl npo).own nfo'
    generalize upd (upd H po (.lst xs)) fo (.lst []) = H1 at hp0 hf0 D1 B1 ⊢
    refine ⟨fun m σ H2 => ∃ ps fs, σ = [some (.ref d), some (.ref z), some (.ref po), some (.ref fo)] ∧ H2 po = some (.lst ps) ∧ H2 fo = some (.lst fs) ∧ m = ps.length ∧ (fs ++ ps).Perm xs ∧ Drw H2 d l c ∧ But d l H H2, ⟨_, xs, [], rfl, hp0, hf0, rfl, .refl _, D1, B1⟩, ?_⟩
    rintro m σ H2 ⟨ps, fs, rfl, hp, hf, rfl, pm, D2, B2⟩
    have hl0 : ∃ o, H l = some o := by obtain ⟨_, ⟨ns, e⟩, _, _⟩ := D; exact ⟨_, e⟩
    have hd0 : ∃ o, H d = some o := by obtain ⟨⟨r, t, e⟩, _, _, _⟩ := D; exact ⟨_, e⟩
    have pl : po ≠ l := fun e => by obtain ⟨o, z⟩ := hl0; rw [← e, npo] at z; cases z
    have pd : po ≠ d := fun e => by obtain ⟨o, z⟩ := hd0; rw [← e, npo] at z; cases z
    have fl : fo ≠ l := fun e => by obtain ⟨o, z⟩ := hl0; rw [← e, nfo'] at z; cases z
    have fd' : fo ≠ d := fun e => by obtain ⟨o, z⟩ := hd0; rw [← e, nfo'] at z; cases z
    refine ⟨_, rfl, Nat.zero_le _, fun e ne => ?_⟩
    obtain ⟨ds, hds⟩ := Sms.of (xs := ps) fun x hh => hx x (pm.subset (List.mem_append_right _ hh))
    have hp3 : (upd H2 e (.lst [])) po = some (.lst ps) := by rw [upd_ne (ne_of_none hp ne)]; exact hp
    have hf3 : (upd H2 e (.lst [])) fo = some (.lst fs) := by rw [upd_ne (ne_of_none hf ne)]; exact hf
    have he3 : (upd H2 e (.lst [])) e = some (.lst []) := upd_same
    have D3 := D2.new (o := .lst []) ne
    have B3 : But d l H (upd H2 e (.lst [])) := B2.trans (But.new ne)
    generalize upd H2 e (.lst []) = H3 at hp3 hf3 he3 D3 B3 ⊢
    have lsum : fs.length + ps.length = xs.length := by rw [← List.length_append]; exact pm.length_eq
    refine ⟨.list ds, .list [], .lst (SqL.of hp3) hds.dp, .lst (SqL.of he3) .nil, hds.flat, rfl, _, rfl, ?_⟩
    cases hds with
    | nil =>
      refine iteF ⟨_, rfl, q fo fs H3 (by simpa using pm) D3 B3 nfo' hf3⟩
    | @cons x y0 r ys hxy ht =>
      refine iteT ⟨fun σ' H' => ∃ m', m' < (x :: r).length ∧ ∃ ps fs, σ' = [some (.ref d), some (.ref z), some (.ref po), some (.ref fo)] ∧ H' po = some (.lst ps) ∧ H' fo = some (.lst fs) ∧ m' = ps.length ∧ (fs ++ ps).Perm xs ∧ Drw H' d l c ∧ But d l H H', fun _ _ h => h, ?_⟩
      refine ⟨_, rfl, .inl ⟨rfl, _, SqL.of hf3⟩, _, rfl, .inl ⟨rfl, _, SqL.of hp3⟩, _, rfl, _, rfl, po, x :: r, rfl, .inl (SqL.of hp3), d, l, c, ((x :: r).length : Nat), rfl, D3, by rw [List.length_cons]; omega, by rw [List.length_cons] at lsum ⊢; omega, fun k H4 k0 k1 D4 B4 => ?_⟩
      obtain ⟨j, rfl⟩ : ∃ j : Nat, k = (j : Int) := ⟨k.toNat, by omega⟩
      have hj : j < (x :: r).length := by omega
      have hj2 : j < 1001 := by omega
      have hp4 := B4 _ _ hp3 pd pl
      have hf4 := B4 _ _ hf3 fd' fl
      have gj := List.getElem?_eq_getElem hj
      refine ⟨po, x :: r, (j : Int), j, (x :: r)[j], rfl, rfl, hp4, by omega, by omega, seqIndex_of (by omega) (by exact Int.ofNat_lt.mpr hj), gj, ?_⟩
      have hf5 : (upd H4 po (.lst ((x :: r).eraseIdx j))) fo = some (.lst fs) := by rw [upd_ne pf.symm]; exact hf4
      have hp5 : (upd H4 po (.lst ((x :: r).eraseIdx j))) po = some (.lst ((x :: r).eraseIdx j)) := upd_same
      have D5 := D4.own (o := .lst ((x :: r).eraseIdx j)) D npo
      have B5 := (B3.trans B4).own (o := .lst ((x :: r).eraseIdx j)) npo
      generalize upd H4 po (.lst ((x :: r).eraseIdx j)) = H5 at hf5 hp5 D5 B5 ⊢
      refine ⟨fo, fs, (x :: r)[j], rfl, rfl, hf5, small1000 (by omega), ?_⟩
      have el : ((x :: r).eraseIdx j).length = (x :: r).length - 1 := List.length_eraseIdx_of_lt hj
      refine ⟨_, ?_, (x :: r).eraseIdx j, fs ++ [(x :: r)[j]], rfl, ?_, upd_same, rfl, ?_, D5.own D nfo', B5.own nfo'⟩
      · rw [el, List.length_cons]
        omega
      · rw [upd_ne pf]
        exact hp5
      · rw [List.append_assoc]
        exact ((perm_pop gj).append_left fs).trans pm
end
end Kn
-- part Ti
set_option maxHeartbeats 4000000
namespace Kn
open PySem PySem.Spec PyProof.Rows L2
abbrev sTitles : Stmt := topS 31
def TI : List Str := ["a", "add", "b", "c", "count", "in", "mm", "on", "plus", "star", "sum", "take", "w", "x", "y", "zzzzzz"]
theorem scTi : FnScope ["_law_draw", "_law_many", "_law_some"] ["_law_draw", "_law_many"] (defScope sTitles) := ⟨rfl, rfl, rfl, by decide +kernel, rfl, by decide +kernel, by decide +kernel⟩
def unS : V → Str
  | .str x => x
  | _ => ""
theorem strs_of : ∀ {xs : List V}, (∀ x ∈ xs, ∃ y, x = V.str y) → xs = (xs.map unS).map V.str
  | [], _ => rfl
  | x :: xs, h => by
    obtain ⟨y, rfl⟩ := h x (List.mem_cons_self ..)
    exact congrArg (V.str y :: ·) (strs_of fun z hz => h z (List.mem_cons_of_mem _ hz))
theorem un_str (xs : List Str) : (xs.map V.str).map unS = xs := by
  induction xs with
  | nil => rfl
  | cons x xs ih => exact congrArg (x :: ·) ih
theorem perm_strs {ys : List V} {xs : List Str} (h : ys.Perm (xs.map V.str)) : ∃ zs : List Str, ys = zs.map V.str ∧ zs.Perm xs := by
  refine ⟨ys.map unS, strs_of fun y hy => ?_, ?_⟩
  · obtain ⟨z, _, e⟩ := List.mem_map.mp (h.subset hy)
    exact ⟨z, e.symm⟩
  · have z := h.map unS
    rw [un_str] at z
    exact z
theorem cut_to {ys : List V} {n : Nat} : cutV ys none (some (n : Int)) = ys.take n := by
  unfold cutV
  rw [HT.sIx_none, HT.sIx_nat]
  simp
/-- a list of different titles, ascending -/
structure Tis (ts : List Str) : Prop where
  nd : ts.Nodup
  so : sortedS ts = true
  inT : ∀ t ∈ ts, t ∈ TI
def spTitles : Sp := fun vs H Q _ => ∃ d l c, ∃ n : Nat, vs = [.ref d, .int n] ∧ Drw H d l c ∧ n ≤ 16 ∧ ∀ p ts H', Tis ts → ts.length = n → Drw H' d l c → But d l H H' → H p = none → H' p = some (.lst (ts.map V.str)) → Q (.ref p) H'
theorem ti_sm : ∀ x ∈ TI.map V.str, ∃ y, Sm x y := fun x hx => by
  obtain ⟨t, ht, rfl⟩ := List.mem_map.mp hx
  have z : ∀ t ∈ TI, PyData.strOk t = true := by decide +kernel
  exact ⟨_, .str t (z t ht)⟩
theorem ti_nd : TI.Nodup := by decide +kernel
section
variable {P : Program} {w : World} {K : PySem.W.Frag} {mg : Str → Option Value} {base : Heap}
theorem ok_titles {f fT : Addr} {fd fdT : FuncData} (F : Fun K "_law_titles" "_law_titles" sTitles f fd) (GT : FnOk P w K mg base CX0 3 fT fdT ["_law_draw", "_law_some"] spShuf) (kT : PySem.W.keepIn K (.ref fT) = true)
    (bT : Binds K fdT ["_law_draw", "_law_some"] []) (gT : mg "_law_shuffled" = some (.ref fT)) (ms : mg "sorted" = none) : FnOk P w K mg base CX0 4 f fd ["_law_draw", "_law_many"] spTitles := by
  have S := scTi
  refine F.ok S (fun vs H Q E h => ?_) (fun cdv A outer s H vs Q E hr h => ?_)
  · obtain ⟨d, l, c, n, rfl, _⟩ := h
    rfl
  · obtain ⟨d, l, c, n, rfl, D, hn, q⟩ := h
    have hu := hu_of hr
    refine ⟨_, pss_cons (ps_set (i := 2) S.nd rfl (.inl rfl) (pe_lst (pa_cons pe_str (pa_cons pe_str (pa_cons pe_str (pa_cons pe_str (pa_cons pe_str (pa_cons pe_str (pa_cons pe_str (pa_cons pe_str (pa_cons pe_str (pa_cons pe_str (pa_cons pe_str (pa_cons pe_str (pa_cons pe_str (pa_cons pe_str (pa_cons pe_str (pa_cons pe_str pa_nil))))))))))))))))))
      (pss_one (ps_ret (pe_callB cr_sortedS (by rfl) ms (by decide +kernel) (pa_cons (pe_slice sl_list (pe_call GT hr (by rfl) gT kT bT .nil pass0 (pa_cons (pv 0) (pa_cons (pv 2) pa_nil))) po_none (po_some (pv 1))) pa_nil)))), ?_⟩
    refine ⟨by show 16 ≤ sizeLine; decide, fun s ns => ?_⟩
    have hs : (upd H s (.lst (TI.map V.str))) s = some (.lst (TI.map V.str)) := upd_same
    have D1 := D.new (o := .lst (TI.map V.str)) ns
    have B1 : But d l H (upd H s (.lst (TI.map V.str))) := But.new ns
    have sl : s ≠ l := fun e => by obtain ⟨_, ⟨xs, z⟩, _, _⟩ := D; rw [← e, ns] at z; cases z
    refine ⟨_, rfl, _, rfl, d, l, c, s, TI.map V.str, rfl, D1, hs, sl, ti_sm, by decide, fun p ys H2 pm D2 B2 np hp => ?_⟩
    obtain ⟨zs, rfl, pz⟩ := perm_strs pm
    have lz : zs.length = 16 := pz.length_eq
    refine ⟨_, rfl, (n : Int), rfl, p, zs.map V.str, rfl, SqL.of hp, fun e ne => ?_⟩
    rw [cut_to, ← List.map_take]
    have lt : (zs.take n).length = n := by rw [List.length_take, lz]; omega
    refine ⟨e, zs.take n, rfl, SqL.of upd_same, by omega, fun ts r pt so nr => ?_⟩
    have nH : ∀ {b : Addr}, H2 b = none → H b = none := fun {b} hb => by
      cases z : H b with
      | none => rfl
      | some o =>
        by_cases e1 : b = d
        · obtain ⟨⟨x, y, w⟩, _, _, _⟩ := D2
          rw [← e1, hb] at w
          cases w
        · by_cases e2 : b = l
          · obtain ⟨_, ⟨x, w⟩, _, _⟩ := D2
            rw [← e2, hb] at w
            cases w
          · rw [B2 b o (B1 b o z e1 e2) e1 e2] at hb
            cases hb
    have nr2 : H2 r = none := by
      by_cases e1 : r = e
      · rw [e1]; exact ne
      · rw [upd_ne e1] at nr
        exact nr
    have sub : ∀ t ∈ ts, t ∈ TI := fun t ht => pz.subset (List.take_subset _ _ (pt.subset ht))
    refine q r ts _ ⟨?_, so, sub⟩ (by rw [pt.length_eq, lt]) ((D2.new ne).new nr) (((B1.trans B2).trans (But.new ne)).trans (But.new nr)) (nH nr2) upd_same
    exact (pt.nodup_iff).mpr ((List.take_sublist _ _).nodup (pz.nodup_iff.mpr ti_nd))
end
end Kn
-- part Vl
set_option maxHeartbeats 4000000
/-! Any value, as far as the package judges it: a word W of it, and the package's judges as functions of that word. -/
namespace Kn
open PySem PySem.Spec PyProof.Rows L2
inductive W where
  | non
  | bl (b : Bool)
  | int (i : Int)
  | str (x : Str)
  | lst (ws : List W)
  | tup (ws : List W)
  | dct (kws : List (Option Key × W))
/-- a dict at a, its items in their order -/
def DctAt (H : Hp) (a : Addr) (kvs : List (Option Key × V)) : Prop := ∃ ks : List (Key × V), Rd H a (.dK ks) ∧ kvs = ks.map fun p => (some p.1, p.2)
/-- a key that is short -/
def kSm : Option Key → Prop
  | some (.inr x) => x.cps.size ≤ 900 ∧ PyData.strOk x = true
  | _ => True
mutual
inductive Is (H : Hp) : V → W → Prop
  | non : Is H .non .non
  | bl (b : Bool) : Is H (.bl b) (.bl b)
  | int (i : Int) : Is H (.int i) (.int i)
  | str (x : Str) (h : x.cps.size ≤ 900) (ok : PyData.strOk x = true) : Is H (.str x) (.str x)
  | lst {a : Addr} {xs : List V} {ws : List W} (h : xs.length ≤ 900) : H a = some (.lst xs) → IsAll H xs ws → Is H (.ref a) (.lst ws)
  | tup {a : Addr} {xs : List V} {ws : List W} (h : xs.length ≤ 900) : Rd H a (.tup xs) → IsAll H xs ws → Is H (.ref a) (.tup ws)
  | dct {a : Addr} {kvs : List (Option Key × V)} {kws : List (Option Key × W)} (h : kvs.length ≤ 900) : DctAt H a kvs → IsKV H kvs kws → Is H (.ref a) (.dct kws)
inductive IsAll (H : Hp) : List V → List W → Prop
  | nil : IsAll H [] []
  | cons {v : V} {w : W} {vs : List V} {ws : List W} : Is H v w → IsAll H vs ws → IsAll H (v :: vs) (w :: ws)
inductive IsKV (H : Hp) : List (Option Key × V) → List (Option Key × W) → Prop
  | nil : IsKV H [] []
  | cons {k : Option Key} {v : V} {w : W} {vs : List (Option Key × V)} {ws : List (Option Key × W)} (hk : kSm k) : Is H v w → IsKV H vs ws → IsKV H ((k, v) :: vs) ((k, w) :: ws)
end
theorem DctAt.same {H H' : Hp} {a : Addr} {kvs : List (Option Key × V)} (h : DctAt H a kvs) (s : Same H H') : DctAt H' a kvs := by
  obtain ⟨ks, e, q⟩ := h
  refine ⟨ks, ?_, q⟩
  rcases e with e | ⟨o, e⟩
  · exact .inl (s _ _ e)
  · exact .inr ⟨o, s _ _ e⟩
/-- a dict is locked: what reads it stays -/
theorem DctAt.lock {H : Hp} {a d : Addr} {od : Obj} {ks0 : List (Key × V)} {kvs : List (Option Key × V)} (hd : H d = some (.dK ks0)) (h : DctAt H a kvs) : DctAt (upd H d (.frz od (.dK ks0))) a kvs := by
  obtain ⟨ks, e, q⟩ := h
  refine ⟨ks, ?_, q⟩
  by_cases hb : a = d
  · subst hb
    rcases e with e | ⟨o, e⟩
    · rw [hd] at e
      cases e
      exact .inr ⟨od, upd_same⟩
    · rw [hd] at e
      cases e
  · rcases e with e | ⟨o, e⟩
    · exact .inl (by rw [upd_ne hb]; exact e)
    · exact .inr ⟨o, by rw [upd_ne hb]; exact e⟩
theorem Rd.same {H H' : Hp} {a : Addr} {u : HO} (h : Rd H a u) (s : Same H H') : Rd H' a u := by
  rcases h with e | ⟨o, e⟩
  · exact .inl (s _ _ e)
  · exact .inr ⟨o, s _ _ e⟩
theorem Rd.lock {H : Hp} {a d : Addr} {od : Obj} {ks : List (Key × V)} {xs : List V} (hd : H d = some (.dK ks)) (h : Rd H a (.tup xs)) : Rd (upd H d (.frz od (.dK ks))) a (.tup xs) := by
  have ne : a ≠ d := fun z => by
    rcases h with e | ⟨o, e⟩
    · rw [z, hd] at e
      cases e
    · rw [z, hd] at e
      cases e
  rcases h with e | ⟨o, e⟩
  · exact .inl (by rw [upd_ne ne]; exact e)
  · exact .inr ⟨o, by rw [upd_ne ne]; exact e⟩
mutual
theorem Is.same {H H' : Hp} {v : V} {w : W} (s : Same H H') : Is H v w → Is H' v w
  | .non => .non
  | .bl b => .bl b
  | .int i => .int i
  | .str x h ok => .str x h ok
  | .lst h e t => .lst h (s _ _ e) (t.same s)
  | .tup h e t => .tup h (Rd.same e s) (t.same s)
  | .dct h e t => .dct h (e.same s) (t.same s)
theorem IsAll.same {H H' : Hp} {v : List V} {w : List W} (s : Same H H') : IsAll H v w → IsAll H' v w
  | .nil => .nil
  | .cons h t => .cons (h.same s) (t.same s)
theorem IsKV.same {H H' : Hp} {v : List (Option Key × V)} {w : List (Option Key × W)} (s : Same H H') : IsKV H v w → IsKV H' v w
  | .nil => .nil
  | .cons hk h t => .cons hk (h.same s) (t.same s)
end
mutual
theorem Is.lock {H : Hp} {d : Addr} {od : Obj} {ks0 : List (Key × V)} (hd : H d = some (.dK ks0)) {v : V} {w : W} : Is H v w → Is (upd H d (.frz od (.dK ks0))) v w
  | .non => .non
  | .bl b => .bl b
  | .int i => .int i
  | .str x h ok => .str x h ok
  | .lst h e t => .lst h (by rw [upd_ne (ne_of e hd (by intro z; cases z))]; exact e) (t.lock hd)
  | .tup h e t => .tup h (Rd.lock hd e) (t.lock hd)
  | .dct h e t => .dct h (e.lock hd) (t.lock hd)
theorem IsAll.lock {H : Hp} {d : Addr} {od : Obj} {ks0 : List (Key × V)} (hd : H d = some (.dK ks0)) {v : List V} {w : List W} : IsAll H v w → IsAll (upd H d (.frz od (.dK ks0))) v w
  | .nil => .nil
  | .cons h t => .cons (h.lock hd) (t.lock hd)
theorem IsKV.lock {H : Hp} {d : Addr} {od : Obj} {ks0 : List (Key × V)} (hd : H d = some (.dK ks0)) {v : List (Option Key × V)} {w : List (Option Key × W)} : IsKV H v w → IsKV (upd H d (.frz od (.dK ks0))) v w
  | .nil => .nil
  | .cons hk h t => .cons hk (h.lock hd) (t.lock hd)
end
/-- not locked -/
def NF (H : Hp) (v : V) : Prop := ∀ a o u, v = .ref a → H a ≠ some (.frz o u)
def tyN : W → String
  | .non => "NoneType"
  | .bl _ => "bool"
  | .int _ => "int"
  | .str _ => "str"
  | .lst _ => "list"
  | .tup _ => "tuple"
  | .dct _ => "dict"
theorem Is.ty {K : PySem.W.Frag} {H : Hp} {v : V} {w : W} (h : Is H v w) : TyX K H v (.type (tyN w)) := by
  cases h with
  | non => exact .base .non
  | bl b => exact .base (.bl b)
  | int i => exact .base (.int i)
  | str x _ _ => exact .base (.str x)
  | lst _ e _ => exact .base (.lst e)
  | tup _ e _ =>
    rcases e with e | ⟨o, e⟩
    · exact .base (.tup e)
    · exact .fTuple e
  | dct _ e _ =>
    obtain ⟨ks, e, _⟩ := e
    rcases e with e | ⟨o, e⟩
    · exact .base (.dK e)
    · exact .fDict e
abbrev isTy (T : String) (w : W) : Bool := (kitB (tyN w) T).getD false
/-- isinstance(v, T), for the kinds that the package asks for -/
theorem Is.kit {K : PySem.W.Frag} {w : W} {T : String} (hT : T ∈ ["bool", "int", "str", "list", "tuple", "dict"]) : PySem.W.kitOne K (.type (tyN w)) (.type T) = some (isTy T w) := by
  refine kit_ty ?_
  have z : ∀ a ∈ ["NoneType", "bool", "int", "str", "list", "tuple", "dict"], ∀ T ∈ ["bool", "int", "str", "list", "tuple", "dict"], kitB a T = some ((kitB a T).getD false) := by decide +kernel
  exact z (tyN w) (by cases w <;> simp [tyN]) T hT
def isNum (w : W) : Bool := isTy "int" w && !isTy "bool" w
theorem isNum_eq (w : W) : isNum w = match w with | .int _ => true | _ => false := by
  cases w <;> kernel_rfl
/-- a judge of one value -/
def spJ (f : W → Bool) : Sp := fun vs H Q _ => ∃ v w, vs = [v] ∧ Is H v w ∧ Q (.bl (f w)) H
/-- answers put into a new list, one at a turn -/
def PB (H1 : Hp) (D : Addr) (bs : List Bool) (i : Nat) (H : Hp) : Prop := Same H1 H ∧ H D = some (.lst ((bs.take i).map V.bl))
theorem PB.zero {H1 : Hp} {D : Addr} {bs : List Bool} (n : H1 D = none) : PB H1 D bs 0 (upd H1 D (.lst [])) := ⟨same_new n, upd_same⟩
theorem PB.step {H1 H H4 : Hp} {D : Addr} {bs : List Bool} {i : Nat} {b : Bool} (p : PB H1 D bs i H) (s : Same H H4) (n : H1 D = none) (hi : i ≤ 900) (hb : bs[i]? = some b) :
    ∃ acc, H4 D = some (.lst acc) ∧ acc.length < sizeLine ∧ PB H1 D bs (i + 1) (upd H4 D (.lst (acc ++ [.bl b]))) := by
  refine ⟨_, s _ _ p.2, ?_, same_own n (p.1.trans s), ?_⟩
  · rw [List.length_map, List.length_take]
    exact small1000 (by omega)
  · rw [upd_same, List.take_add_one, hb, List.map_append]
    rfl
theorem PB.all {H1 H : Hp} {D : Addr} {bs : List Bool} (p : PB H1 D bs bs.length H) : H D = some (.lst (bs.map V.bl)) := by
  have z := p.2
  rw [List.take_length] at z
  exact z
def LET : Str := "abcdefghijklmnopqrstuvwxyz"
def isName (x : Str) : Bool := decide (1 ≤ x.cps.size) && (decide (x.cps.size ≤ 6) && (!decide (x = "t") && x.cps.toList.all fun c => decide (c ∈ LET.cps.toList)))
def isNameW : W → Bool
  | .str x => isName x
  | _ => false
def isSeq (w : W) : Bool := isTy "list" w || isTy "tuple" w
def withinW (lo hi : Int) : W → Bool
  | .int i => decide (lo ≤ i) && decide (i ≤ hi)
  | _ => false
abbrev sNumber : Stmt := topS 6
abbrev sWithin : Stmt := topS 7
theorem scNu : FnScope ["value"] ["value"] (defScope sNumber) := ⟨rfl, rfl, rfl, by decide +kernel, rfl, by decide +kernel, by decide +kernel⟩
theorem scWi : FnScope ["value", "least", "greatest"] ["value", "least", "greatest"] (defScope sWithin) := ⟨rfl, rfl, rfl, by decide +kernel, rfl, by decide +kernel, by decide +kernel⟩
section
variable {P : Program} {w : World} {K : PySem.W.Frag} {mg : Str → Option Value} {base : Heap}
theorem ok_number {f : Addr} {fd : FuncData} (F : Fun K "is_number" "is_number" sNumber f fd) (mi : mg "isinstance" = none) (m1 : mg "int" = none) (m2 : mg "bool" = none) : FnOk P w K mg base CX0 1 f fd ["value"] (spJ isNum) := by
  have S := scNu
  refine F.ok S (fun vs H Q E h => ?_) (fun cdv A outer s H vs Q E hr h => ?_)
  · obtain ⟨v, w, rfl, _⟩ := h
    rfl
  · obtain ⟨v, w, rfl, hv, q⟩ := h
    refine ⟨_, pss_one (ps_ret (pe_and (pe_callB call_isi (by rfl) mi PyProof.Rows.boot_isinstance (pa_cons (pv 0) (pa_cons (pe_bltn (v := .ty "int") (by rfl) m1 (by decide +kernel) rfl) pa_nil)))
      (pe_one (pe_not (pe_callB call_isi (by rfl) mi PyProof.Rows.boot_isinstance (pa_cons (pv 0) (pa_cons (pe_bltn (v := .ty "bool") (by rfl) m2 (by decide +kernel) rfl) pa_nil))))))), ?_⟩
    refine ⟨_, rfl, v, .ty "int", .type (tyN w), .type "int", isTy "int" w, rfl, .ty _, hv.ty, Is.kit (by decide), _, rfl, ?_⟩
    unfold isNum at q
    cases e : isTy "int" w with
    | false =>
      rw [e] at q
      exact iteF q
    | true =>
      rw [e] at q
      refine iteT ⟨_, rfl, v, .ty "bool", .type (tyN w), .type "bool", isTy "bool" w, rfl, .ty _, hv.ty, Is.kit (by decide), _, rfl, q⟩
def spWithin : Sp := fun vs H Q _ => ∃ v w lo hi, vs = [v, .int lo, .int hi] ∧ Is H v w ∧ Q (.bl (withinW lo hi w)) H
theorem ok_within {f fN : Addr} {fd fdN : FuncData} (F : Fun K "is_within" "is_within" sWithin f fd) (GN : FnOk P w K mg base CX0 1 fN fdN ["value"] (spJ isNum)) (kN : PySem.W.keepIn K (.ref fN) = true)
    (bN : Binds K fdN ["value"] []) (gN : mg "is_number" = some (.ref fN)) : FnOk P w K mg base CX0 2 f fd ["value", "least", "greatest"] spWithin := by
  have S := scWi
  refine F.ok S (fun vs H Q E h => ?_) (fun cdv A outer s H vs Q E hr h => ?_)
  · obtain ⟨v, w, lo, hi, rfl, _⟩ := h
    rfl
  · obtain ⟨v, w, lo, hi, rfl, hv, q⟩ := h
    refine ⟨_, pss_one (ps_ret (pe_and (pe_call GN hr (by rfl) gN kN bN .nil pass0 (pa_cons (pv 0) pa_nil)) (pe_one (pe_chain op_le op_le (pv 1) (pv 0) (pv 2))))), ?_⟩
    refine ⟨_, rfl, v, w, rfl, hv, _, rfl, ?_⟩
    cases hv with
    | int i =>
      refine iteT ⟨_, rfl, _, rfl, _, _, rfl, rfl, _, rfl, ?_⟩
      have e : withinW lo hi (.int i) = (decide (lo ≤ i) && decide (i ≤ hi)) := rfl
      rw [e] at q
      cases e1 : decide (lo ≤ i) with
      | false =>
        rw [e1] at q
        exact iteF q
      | true =>
        rw [e1] at q
        exact iteT ⟨_, rfl, _, _, rfl, rfl, q⟩
    | non => exact iteF q
    | bl b => exact iteF q
    | str x _ _ => exact iteF q
    | lst _ _ _ => exact iteF q
    | tup _ _ _ => exact iteF q
    | dct _ _ _ => exact iteF q
end
end Kn
-- part Vn
set_option maxHeartbeats 4000000
namespace Kn
open PySem PySem.Spec PyProof.Rows L2
abbrev sName : Stmt := topS 8
abbrev sIsList : Stmt := topS 9
abbrev NNa : List Str := ["value", "letter"]
theorem scNa : FnScope NNa ["value"] (defScope sName) := ⟨rfl, rfl, rfl, by decide +kernel, rfl, by decide +kernel, by decide +kernel⟩
theorem scIl : FnScope ["value"] ["value"] (defScope sIsList) := ⟨rfl, rfl, rfl, by decide +kernel, rfl, by decide +kernel, by decide +kernel⟩
section
variable {P : Program} {w : World} {K : PySem.W.Frag} {mg : Str → Option Value} {base : Heap}
theorem ok_isList {f : Addr} {fd : FuncData} (F : Fun K "is_list" "is_list" sIsList f fd) (mi : mg "isinstance" = none) (m1 : mg "list" = none) (m2 : mg "tuple" = none) : FnOk P w K mg base CX0 1 f fd ["value"] (fun vs H Q _ => ∃ v w, vs = [v] ∧ Is H v w ∧ ∀ H', Same H H' → Q (.bl (isSeq w)) H') := by
  have S := scIl
  refine F.ok S (fun vs H Q E h => ?_) (fun cdv A outer s H vs Q E hr h => ?_)
  · obtain ⟨v, w, rfl, _⟩ := h
    rfl
  · obtain ⟨v, w, rfl, hv, q⟩ := h
    refine ⟨_, pss_one (ps_ret (pe_callB call_isiT (by rfl) mi PyProof.Rows.boot_isinstance (pa_cons (pv 0) (pa_cons (pe_tup (pa_cons (pe_bltn (v := .ty "list") (by rfl) m1 (by decide +kernel) rfl) (pa_cons (pe_bltn (v := .ty "tuple") (by rfl) m2 (by decide +kernel) rfl) pa_nil))) pa_nil)))), ?_⟩
    refine ⟨_, rfl, by show 2 ≤ sizeLine; decide, fun t nt => ?_⟩
    refine ⟨v, t, _, .type (tyN w), [.type "list", .type "tuple"], isSeq w, rfl, upd_same, .cons (.ty _) (.cons (.ty _) .nil), (hv.same (same_new nt)).ty, ?_, q _ (same_new nt)⟩
    refine kitAny_cons (b := isTy "list" w) (Is.kit (by decide)) (fun e => kitAny_cons (b := isTy "tuple" w) (Is.kit (by decide)) (fun e2 => ?_) (fun e2 => ?_)) (fun e => ?_)
    · unfold isSeq; rw [e, e2]; exact kitAny_nil
    · unfold isSeq; rw [e, e2]; rfl
    · unfold isSeq; rw [e]; rfl
theorem ok_name {f : Addr} {fd : FuncData} (F : Fun K "is_name" "is_name" sName f fd) (mi : mg "isinstance" = none) (m1 : mg "str" = none) (ml : mg "len" = none) (ma : mg "all" = none) (mL : ∃ t, mg "LETTERS" = some (.str LET t)) :
    FnOk P w K mg base CX0 1 f fd ["value"] (fun vs H Q _ => ∃ v w, vs = [v] ∧ Is H v w ∧ ∀ H', Same H H' → Q (.bl (isNameW w)) H') := by
  have S := scNa
  obtain ⟨tL, mL⟩ := mL
  refine F.ok S (fun vs H Q E h => ?_) (fun cdv A outer s H vs Q E hr h => ?_)
  · obtain ⟨v, w, rfl, _⟩ := h
    rfl
  · obtain ⟨v, w, rfl, hv, q⟩ := h
    have hc := hr.hd
    refine ⟨_, pss_cons (ps_if (PW.pt (pw_or (pt_not (pt_val (pe_callB call_isi (by rfl) mi PyProof.Rows.boot_isinstance (pa_cons (pv 0) (pa_cons (pe_bltn (v := .ty "str") (by rfl) m1 (by decide +kernel) rfl) pa_nil)))))
        (pw_or (pt_not (pt_chain op_le op_le pe_int (pe_callB call_len_str (by rfl) ml PySem.boot_len (pa_cons (pv 0) pa_nil)) pe_int))
          (pw_or1 (pt_cmpR op_eq (pv 0) pe_str (nomark _)))))) (pss_one (ps_ret pe_bl)) pss_nil)
      (pss_one (ps_ret (pe_callB (cr_all (by rfl)) (by rfl) ma (by decide +kernel) (pa_cons (pe_lc (own := [("letter", 1)]) (g := gName 1) rfl S.nd (pi_str (pv 0)) (blkOk_by (N := NNa) (sc := defScope sName) (by decide +kernel)) (fun _ _ _ _ _ => pg_name (i := 1) S.nd rfl (.inl rfl)) (fun _ _ _ _ _ => pts_nil)
        (fun _ _ _ _ _ => pe_cmpR op_in_sign (pv 1) (pe_glob (v := .str LET) (by rfl) mL ⟨_, rfl⟩) (by rfl))) pa_nil)))), ?_⟩
    refine ⟨_, rfl, v, .ty "str", .type (tyN w), .type "str", isTy "str" w, rfl, .ty _, hv.ty, Is.kit (by decide), _, rfl, ?_⟩
    have sr := Same.refl (H := H)
    have hs : (∃ x, w = .str x) ∨ (isTy "str" w = false ∧ isNameW w = false) := by
      cases w with
      | str x => exact .inl ⟨x, rfl⟩
      | _ => exact .inr ⟨by kernel_rfl, rfl⟩
    rcases hs with ⟨x, rfl⟩ | ⟨e1, e2⟩
    · cases hv with
      | str x hx hok =>
        have e : isTy "str" (.str x) = true := by kernel_rfl
        have big : (900 : Nat) ≤ sizeLine := by decide
        have fin : isName x = false → Q (.bl false) H := fun e => by
          have z := q H sr
          rw [show isNameW (.str x) = isName x from rfl, e] at z
          exact z
        rw [e]
        refine iteF ⟨_, rfl, x, rfl, Nat.le_trans hx big, _, _, rfl, rfl, _, rfl, ?_⟩
        cases e1 : decide ((1 : Int) ≤ (x.length : Int)) with
        | false => exact iteF ⟨_, rfl, iteT (iteT (fin (by
            have z : decide (1 ≤ x.cps.size) = false := decide_eq_false fun z => of_decide_eq_false e1 (by exact Int.ofNat_le.mpr z)
            unfold isName
            rw [z]
            rfl)))⟩
        | true =>
          refine iteT ⟨_, _, rfl, rfl, _, rfl, ?_⟩
          have z1 : decide (1 ≤ x.cps.size) = true := decide_eq_true (Int.ofNat_le.mp (of_decide_eq_true e1))
          cases e3 : decide ((x.length : Int) ≤ 6) with
          | false => exact iteT (iteT (fin (by
              have z : decide (x.cps.size ≤ 6) = false := decide_eq_false fun z => of_decide_eq_false e3 (by exact Int.ofNat_le.mpr z)
              unfold isName
              rw [z1, z]
              rfl)))
          | true =>
            have z2 : decide (x.cps.size ≤ 6) = true := decide_eq_true (Int.ofNat_le.mp (of_decide_eq_true e3))
            refine iteF ⟨_, rfl, rfl, _, rfl, ?_⟩
            have et : decide (V.str x = V.str "t") = decide (x = "t") := by
              by_cases h : x = "t"
              · subst h; rw [decide_eq_true rfl, decide_eq_true rfl]
              · rw [decide_eq_false h, decide_eq_false fun z => h (V.str.inj z)]
            have en : isName x = (!decide (x = "t") && x.cps.toList.all fun c => decide (c ∈ LET.cps.toList)) := by
              unfold isName
              rw [z1, z2]
              rfl
            rw [show decide (V.str x = V.str (Str.ofString "t")) = decide (x = "t") from et]
            cases e4 : decide (x = ("t" : Str)) with
            | true => exact iteT (fin (by rw [en, e4]; rfl))
            | false =>
              rw [e4] at en
              refine iteF ⟨_, rfl, x, rfl, fun D nD => lc_it (D := D) walk_str (PB H D (x.cps.toList.map fun c => decide (c ∈ LET.cps.toList))) (PB.zero nD) (fun _ _ _ _ => trivial) ?_ ?_⟩
              · rintro i v H3 H4 hi p ⟨rfl, c, hcx, rfl⟩
                refine ⟨rfl, ?_⟩
                dsimp only [tYes]
                rw [if_pos rfl]
                refine ⟨_, rfl, c, LET, rfl, rfl, ?_⟩
                refine p.step (Same.refl _) nD (by omega) ?_
                rw [List.getElem?_map, Array.getElem?_toList, hcx]
                rfl
              · intro H3 p
                have hl : (x.cps.toList.map fun c => decide (c ∈ LET.cps.toList)).length = x.cps.size := by rw [List.length_map, Array.length_toList]
                rw [← hl] at p
                refine ⟨D, _, rfl, SqL.of p.all, ?_⟩
                have z := q H3 p.1
                rw [show isNameW (.str x) = isName x from rfl, en] at z
                rw [show (x.cps.toList.map fun c => decide (c ∈ LET.cps.toList)).all id = x.cps.toList.all fun c => decide (c ∈ LET.cps.toList) by rw [List.all_map]; rfl]
                exact z
    · rw [e1]
      have z := q H sr
      rw [e2] at z
      exact iteT (iteT z)
end
end Kn
-- part EnT
set_option maxHeartbeats 4000000
/-! enumerate of a tuple. -/
namespace EnT
open PySem PySem.Spec PyProof.Rows
open AutoSeq1 (wpAny_loadPart')
/-- the two cells that come -/
abbrev itO (l : Addr) : Obj := { cls := .type "tuple_iterator", data := .fields #[.ref l, .int 0 0] }
abbrev enO (a : Addr) : Obj := { cls := .type "enumerate", data := .fields #[.none, .bool false, .ref a, rawInt 0, .none, .none] }
theorem meets_new (l : Addr) (items : Array Value) (n : Nat) (dct : Option Addr) (sl : Array (Option Value)) :
    Meets (Builtin.«enumerate.__new__» ⟨[.type "enumerate", .ref l], []⟩) (fun _ R s => s.heap.get? l = some { cls := .type "tuple", dict := dct, data := .seq items n, slots := sl } ∧
      R (.ok (.ret (.ref (s.heap.push (itO l)).objs.size))) { s with heap := (s.heap.push (itO l)).push (enO s.heap.objs.size) }) := by
  refine .of_wp fun prog w A R s h => ?_
  obtain ⟨hp, g, d, tk, os⟩ := s
  obtain ⟨hl, h⟩ := h
  have hsub := sub_enumerate
  have hL : Heap.IsTuple (Shared.heap ⟨hp, g, d, tk, os⟩) l items := ⟨_, hl, rfl, n, rfl⟩
  wp_walk using wpAny_loadPart' hl
  refine wpAny_stack_any fun st => wpAny_pure ?_
  split
  · rename_i c _ _ _ _ _
    cases (c == Value.type "enumerate") <;>
    · wp_walk using wpAny_loadPart' hl, wpAny_pyIter_tuple hL
      exact ⟨_, rfl, h⟩
  · wp_walk using wpAny_loadPart' hl, wpAny_pyIter_tuple hL
    exact ⟨_, rfl, h⟩
section
variable {prog : Program} {w : World} {A : Around} {E : Value → Shared → Prop} {s : Shared}
theorem call_enum {l : Addr} {items : Array Value} {Q : Value → Shared → Prop} (hL : s.heap.IsTuple l items)
    (h : ∀ h', IsEnum h' (s.heap.objs.size + 1) s.heap.objs.size 0 .none → h'.IsTupleIter s.heap.objs.size l 0 → (∀ b o, s.heap.get? b = some o → h'.get? b = some o) → Q (.ref (s.heap.objs.size + 1)) { s with heap := h' }) :
    wpAny (model prog w) A (call (.type "enumerate") [.ref l]) Q E s := by
  obtain ⟨⟨c, dct, dt, sl⟩, hl, hc, n, hd⟩ := hL
  obtain rfl : c = .type "tuple" := hc
  obtain rfl : dt = .seq items n := hd
  have size1 : (s.heap.push (itO l)).objs.size = s.heap.objs.size + 1 := Heap.size_push ..
  have at1 : IsEnum ((s.heap.push (itO l)).push (enO s.heap.objs.size)) (s.heap.objs.size + 1) s.heap.objs.size 0 .none := by
    have z := Heap.get?_push_size (s.heap.push (itO l)) (o := enO s.heap.objs.size) rfl
    rw [size1] at z
    exact z
  refine callType_new F.called_enumerate (by decide) (F.typeCall_enumerate_1 _) (F.newCall_enumerate_1 _) (fun obj => F.args_object_init_2 obj _) F.entry_enumerate_new (meets_new l items n dct sl) ⟨hl, ?_⟩
  show _ ∧ _
  rw [size1]
  exact ⟨⟨_, at1, rfl⟩, h _ at1 ⟨_, Heap.get?_push_of_some _ (Heap.get?_push_size _ rfl), rfl, rfl⟩ fun b o x => Heap.get?_push_of_some _ (Heap.get?_push_of_some _ x)⟩
end
end EnT
namespace L2
open PySem PySem.Spec PyProof.Rows
/-- the tuple at a, each item in a new pair -/
def IteT (K : PySem.W.Frag) (a : Addr) : It where
  go := fun i H => ∃ (xs : List V) (x : V), SqT K H a xs ∧ xs[i]? = some x
  yld := fun i H v H' => ∃ T x, v = .ref T ∧ H T = none ∧ H' = upd H T (.tup [.int (i : Nat), x]) ∧ ∀ xs, SqT K H a xs → xs[i]? = some x
  stop := fun i H => ∃ xs : List V, SqT K H a xs ∧ xs.length = i
theorem turn_enumT {P : Program} {w : World} {K : PySem.W.Frag} {elts : List Expr} {kk : Nat} {tpos : Pos} (a e it : Addr) (hai : a ≠ it) (hae : a ≠ e) :
    Turn P w K (.Tuple elts kk tpos) (IteT K a) [e, it] e (fun i h => (∃ old, IsEnum h e it ((i : Nat) : Int) old) ∧ h.IsTupleIter it a i ∧ e ≠ it) := by
  constructor
  case mem => simp
  case obj =>
    rintro i h ⟨⟨old, he⟩, ⟨o, ho, hc, hd⟩, _⟩ b hb
    rcases List.mem_cons.mp hb with z | z
    · exact ⟨_, z ▸ he, fun v q => by cases q⟩
    · obtain rfl := List.mem_singleton.mp z
      exact ⟨o, ho, fun v q => by rw [hd] at q; cases q⟩
  case keep =>
    rintro i h h' ⟨⟨old, he⟩, hi, hne⟩ k
    exact ⟨⟨old, k e (by simp) _ he⟩, hi.at fun o q => k it (by simp) o q, hne⟩
  case self =>
    rintro A i s Q E ⟨⟨_, he⟩, _⟩ h
    exact wpAny_pyIter_enum he h
  case done =>
    rintro X rfl rfl rfl hc i pins s σ H E I hf ⟨⟨old, he⟩, hit, hne⟩ ⟨xs, hq, hx⟩
    obtain ⟨its, rv, p, hz⟩ := I.tuple hq
    obtain ⟨f0, f1, f2, f3, f4, f5⟩ := hf it (by simp)
    have hl := rv.length
    have D := Draws.tuple (prog := X.prog) (w := X.w) (A := X.A.in1) (I.ok.hd hc) it a hai its.toArray
    have e1 : i = its.toArray.size := by rw [List.size_toArray, ← hl]; exact hx.symm
    refine wpAny_pyNext_enum_endD D he (e1 ▸ ⟨hit, p⟩) fun h' eb => ⟨rfl, I.turned (t' := s.toks) (fun b o hb e => eb b o hb e) f0 f1 f3 f4 f5⟩
  case item =>
    rintro X rfl rfl rfl hc i pins s σ H E I hf ⟨⟨old, he⟩, hit, hne⟩ ⟨xs, x, hq, hx⟩
    obtain ⟨its, rv, p, hz⟩ := I.tuple hq
    obtain ⟨u, hu, ru⟩ := rv.get hx
    have hel : e < s.heap.objs.size := Heap.lt_size he
    have hil : it < s.heap.objs.size := by obtain ⟨_, q, _⟩ := hit; exact Heap.lt_size q
    have D := Draws.tuple (prog := X.prog) (w := X.w) (A := X.A.in1) (I.ok.hd hc) it a hai its.toArray
    have hi : i < its.toArray.size := by
      rw [List.size_toArray]
      exact (List.getElem?_eq_some_iff.mp hu).1
    refine wpAny_pyNext_enum_itemD D he ⟨hit, p⟩ hi hne (by simp [hne, Ne.symm hae]) fun y h' tk hy ho st' hT hsz hk => ?_
    have ey : y = u := by
      have z : its.toArray[i]? = some u := by simpa using hu
      rw [z] at hy
      exact (Option.some.inj hy).symm
    subst ey
    refine ⟨_, rfl, wpAny_letOwnedTupleGo_enum (s := { s with heap := h', toks := tk + 1 }) ho fun h2 he2 sb => ?_⟩
    have hT2 : h2.get? s.heap.objs.size = some { cls := .type "tuple", data := .seq #[.int i tk, y] } := (sb.2 _ (Nat.ne_of_gt hel)).trans hT
    have nT : H s.heap.objs.size = none := I.hok.fresh (Nat.le_refl _)
    have out : ∀ b ∈ [e, it], b < s.heap.objs.size := fun b hb => by
      rcases List.mem_cons.mp hb with z | z
      · rw [z]; exact hel
      · rw [List.mem_singleton.mp z]; exact hil
    have I1 : Inv X pins σ (upd H s.heap.objs.size (.tup [.int (i : Nat), x])) { s with heap := h2, toks := tk + 1 } := by
      refine I.turnedNew (ch := [e, it]) (fun b ob hb q => ?_) hf (Nat.le_refl _) ⟨by show 2 ≤ sizeLine; decide, [.int i tk, y], .cons ⟨_, rfl⟩ (.cons ru .nil), ⟨_, hT2, rfl, _, rfl⟩⟩
      have b1 : b ≠ e := fun z => hb (by simp [z])
      have b2 : b ≠ it := fun z => hb (by simp [z])
      exact (sb.2 b b1).trans (hk b ob b1 b2 q)
    refine ⟨.ref s.heap.objs.size, _, I1, rfl, ⟨_, x, rfl, nT, rfl, fun ys hy => by rw [I.tuple_inj hy hq]; exact hx⟩, ⟨⟨y, ?_⟩, st'.1.at fun o q => (sb.2 it (Ne.symm hne)).trans q, hne⟩, fun b hb => ?_⟩
    · rw [show ((i + 1 : Nat) : Int) = (i : Int) + 1 by omega]
      exact he2
    · rw [upd_ne (Nat.ne_of_lt (out b hb))]
      exact (hf b hb).1
/-- enumerate(tuple) -/
def iEnumT (K : PySem.W.Frag) (ta : TA) : TI := fun σ H R => ta σ H fun vs H1 => ∃ a xs, vs = [.ref a] ∧ SqT K H1 a xs ∧ R (IteT K a) H1
theorem pi_enumT {X : Cx} {e : Expr} {ta : TA} {p pos tpos : Pos} {elts : List Expr} {kk : Nat} (hg : Gl X "enumerate") (hm : X.mg "enumerate" = none) (ha : PA X [e] ta) (hs : starEach [e] X.env = [(false, eval e X.env)] := by rfl) :
    PI X (.Tuple elts kk tpos) (.Call (.Name "enumerate" p) [e] [] pos) (iEnumT X.K ta) := by
  constructor
  intro pins s σ H R I h
  refine Call_ (ld_blt I hg hm boot_enumerate (PyProof.Rows.callWith_type1 (thn (ha.run pos pins s σ H _ I h) ?_) hs rfl))
  rintro us s1 ⟨vs, H1, I1, r1, q1⟩
  obtain ⟨a, xs, rfl, hq, q⟩ := q1
  cases r1 with
  | cons r rr =>
    cases rr
    cases r
    obtain ⟨its, rv, p', hz⟩ := I1.tuple hq
    have hal : a < s1.heap.objs.size := p'.lt
    refine EnT.call_enum p' fun h' he hit hk => wpAny_pyIter_enum he ⟨s1.heap.objs.size + 1, [s1.heap.objs.size + 1, s1.heap.objs.size], _, _, H1, rfl, I1.kept (t' := s1.toks) hk,
      turn_enumT a (s1.heap.objs.size + 1) s1.heap.objs.size (Nat.ne_of_lt hal) (Nat.ne_of_lt (Nat.lt_succ_of_lt hal)), ⟨⟨.none, he⟩, hit, Nat.succ_ne_self _⟩, fun b hb => ?_, q⟩
    have hle : s1.heap.objs.size ≤ b := by
      rcases List.mem_cons.mp hb with z | z
      · rw [z]; exact Nat.le_succ _
      · rw [List.mem_singleton.mp z]; exact Nat.le_refl _
    exact I1.fpOk hle (I1.hok.fresh hle)
theorem walk_enumT {K : PySem.W.Frag} {a : Addr} {xs : List V} : Walk (IteT K a) xs.length (fun H => SqT K H a xs) (YPair (fun i => some (.int (i : Nat))) (fun i => xs[i]?)) := by
  constructor
  · intro i H hi q
    exact ⟨xs, xs[i], q, by simp [hi]⟩
  · intro H q
    exact ⟨xs, q, rfl⟩
  · rintro i H v H' _ q ⟨T, x, h1, h2, h3, h4⟩
    exact ⟨T, .int (i : Nat), x, h1, h2, h3, rfl, h4 xs q⟩
end L2
-- part Vr
set_option maxHeartbeats 4000000
namespace Kn
open PySem PySem.Spec PyProof.Rows L2
abbrev sTupOf : Stmt := topS 10
abbrev sKeyOf : Stmt := topS 12
abbrev sRow : Stmt := topS 13
theorem scTo : FnScope ["value", "many"] ["value", "many"] (defScope sTupOf) := ⟨rfl, rfl, rfl, by decide +kernel, rfl, by decide +kernel, by decide +kernel⟩
theorem scKo : FnScope ["value", "names"] ["value", "names"] (defScope sKeyOf) := ⟨rfl, rfl, rfl, by decide +kernel, rfl, by decide +kernel, by decide +kernel⟩
theorem scRo : FnScope ["kinds", "value"] ["kinds", "value"] (defScope sRow) := ⟨rfl, rfl, rfl, by decide +kernel, rfl, by decide +kernel, by decide +kernel⟩
def isTupOf (n : Int) : W → Bool
  | .tup ws => decide ((ws.length : Int) = n)
  | _ => false
def isKeyOf (ks : List (Key × V)) : W → Bool
  | .str x => (valV ks (.inr x)).isSome
  | _ => false
def isRowW (ks : List (Key × V)) : W → Bool
  | .tup [a, b] => isKeyOf ks a && isNum b
  | _ => false
theorem IsAll.len {H : Hp} : ∀ {vs : List V} {ws : List W}, IsAll H vs ws → vs.length = ws.length
  | _, _, .nil => rfl
  | _, _, .cons _ t => congrArg (· + 1) t.len
def spTupOf : Sp := fun vs H Q _ => ∃ v w n, vs = [v, .int n] ∧ Is H v w ∧ Q (.bl (isTupOf n w)) H
def spKeyOf : Sp := fun vs H Q _ => ∃ v w kd ks, vs = [v, .ref kd] ∧ Is H v w ∧ Rd H kd (.dK ks) ∧ Q (.bl (isKeyOf ks w)) H
def spRow : Sp := fun vs H Q _ => ∃ v w kd ks, vs = [.ref kd, v] ∧ Is H v w ∧ Rd H kd (.dK ks) ∧ Q (.bl (isRowW ks w)) H
section
variable {P : Program} {w : World} {K : PySem.W.Frag} {mg : Str → Option Value} {base : Heap}
theorem ok_tupOf {f : Addr} {fd : FuncData} (F : Fun K "is_tuple_of" "is_tuple_of" sTupOf f fd) (mi : mg "isinstance" = none) (m1 : mg "tuple" = none) (ml : mg "len" = none) : FnOk P w K mg base CX0 1 f fd ["value", "many"] spTupOf := by
  have S := scTo
  refine F.ok S (fun vs H Q E h => ?_) (fun cdv A outer s H vs Q E hr h => ?_)
  · obtain ⟨v, w, n, rfl, _⟩ := h
    rfl
  · obtain ⟨v, w, n, rfl, hv, q⟩ := h
    refine ⟨_, pss_one (ps_ret (pe_and (pe_callB call_isi (by rfl) mi PyProof.Rows.boot_isinstance (pa_cons (pv 0) (pa_cons (pe_bltn (v := .ty "tuple") (by rfl) m1 (by decide +kernel) rfl) pa_nil)))
      (pe_one (pe_cmpR op_eq (pe_callB call_len_seq (by rfl) ml PySem.boot_len (pa_cons (pv 0) pa_nil)) (pv 1) (nomark _))))), ?_⟩
    refine ⟨_, rfl, v, .ty "tuple", .type (tyN w), .type "tuple", isTy "tuple" w, rfl, .ty _, hv.ty, Is.kit (by decide), _, rfl, ?_⟩
    cases hv with
    | @tup a xs ws hz e t =>
      have e1 : isTy "tuple" (.tup ws) = true := by kernel_rfl
      rw [e1]
      refine iteT ⟨_, rfl, a, xs, rfl, .inr (.inl e), _, rfl, rfl, ?_⟩
      have e2 : decide (V.int (xs.length : Nat) = V.int n) = isTupOf n (.tup ws) := by
        rw [t.len]
        show _ = decide ((ws.length : Int) = n)
        by_cases h : (ws.length : Int) = n
        · rw [decide_eq_true h, decide_eq_true (by rw [h])]
        · rw [decide_eq_false h, decide_eq_false fun z => h (V.int.inj z)]
      rw [e2]
      exact q
    | non => exact iteF q
    | bl b => exact iteF q
    | int i => exact iteF q
    | str x _ _ => exact iteF q
    | lst _ _ _ => exact iteF q
    | dct _ _ _ => exact iteF q
theorem ok_keyOf {f : Addr} {fd : FuncData} (F : Fun K "is_key_of" "is_key_of" sKeyOf f fd) (mi : mg "isinstance" = none) (m1 : mg "str" = none) : FnOk P w K mg base CX0 1 f fd ["value", "names"] spKeyOf := by
  have S := scKo
  refine F.ok S (fun vs H Q E h => ?_) (fun cdv A outer s H vs Q E hr h => ?_)
  · obtain ⟨v, w, kd, ks, rfl, _⟩ := h
    rfl
  · obtain ⟨v, w, kd, ks, rfl, hv, hk, q⟩ := h
    have hu := hu_of hr
    refine ⟨_, pss_one (ps_ret (pe_and (pe_callB call_isi (by rfl) mi PyProof.Rows.boot_isinstance (pa_cons (pv 0) (pa_cons (pe_bltn (v := .ty "str") (by rfl) m1 (by decide +kernel) rfl) pa_nil)))
      (pe_one (pe_cmp (pc_din hu (pv 0) (pv 1)))))), ?_⟩
    refine ⟨_, rfl, v, .ty "str", .type (tyN w), .type "str", isTy "str" w, rfl, .ty _, hv.ty, Is.kit (by decide), _, rfl, ?_⟩
    cases hv with
    | str x hx hok =>
      have e1 : isTy "str" (.str x) = true := by kernel_rfl
      rw [e1]
      exact iteT ⟨_, rfl, _, rfl, kd, valV ks (.inr x), rfl, .inl ⟨ks, .inr x, hk, rfl, rfl⟩, q⟩
    | non => exact iteF q
    | bl b => exact iteF q
    | int i => exact iteF q
    | tup _ _ _ => exact iteF q
    | lst _ _ _ => exact iteF q
    | dct _ _ _ => exact iteF q
theorem ok_row {f f1 f2 f3 : Addr} {fd fd1 fd2 fd3 : FuncData} (F : Fun K "is_row" "is_row" sRow f fd) (G1 : FnOk P w K mg base CX0 1 f1 fd1 ["value", "many"] spTupOf) (k1 : PySem.W.keepIn K (.ref f1) = true) (b1 : Binds K fd1 ["value", "many"] []) (g1 : mg "is_tuple_of" = some (.ref f1))
    (G2 : FnOk P w K mg base CX0 1 f2 fd2 ["value", "names"] spKeyOf) (k2 : PySem.W.keepIn K (.ref f2) = true) (b2 : Binds K fd2 ["value", "names"] []) (g2 : mg "is_key_of" = some (.ref f2))
    (G3 : FnOk P w K mg base CX0 1 f3 fd3 ["value"] (spJ isNum)) (k3 : PySem.W.keepIn K (.ref f3) = true) (b3 : Binds K fd3 ["value"] []) (g3 : mg "is_number" = some (.ref f3)) : FnOk P w K mg base CX0 2 f fd ["kinds", "value"] spRow := by
  have S := scRo
  refine F.ok S (fun vs H Q E h => ?_) (fun cdv A outer s H vs Q E hr h => ?_)
  · obtain ⟨v, w, kd, ks, rfl, _⟩ := h
    rfl
  · obtain ⟨v, w, kd, ks, rfl, hv, hk, q⟩ := h
    refine ⟨_, pss_one (ps_ret (pe_and (pe_call G1 hr (by rfl) g1 k1 b1 .nil pass0 (pa_cons (pv 1) (pa_cons pe_int pa_nil)))
      (pe_and (pe_call G2 hr (by rfl) g2 k2 b2 .nil pass0 (pa_cons (pe_ix ix_tup (pv 1) pe_int (fun _ _ => rfl)) (pa_cons (pv 0) pa_nil)))
        (pe_one (pe_call G3 hr (by rfl) g3 k3 b3 .nil pass0 (pa_cons (pe_ix ix_tup (pv 1) pe_int (fun _ _ => rfl)) pa_nil)))))), ?_⟩
    refine ⟨_, rfl, v, w, 2, rfl, hv, _, rfl, ?_⟩
    cases hv with
    | @tup a xs ws hz e t =>
      cases t with
      | nil => exact iteF q
      | @cons va wa xs ws ha t =>
        cases t with
        | nil => exact iteF q
        | @cons vb wb xs ws hb t =>
          cases t with
          | @cons vc wc xs ws hc t =>
            have z : isTupOf 2 (.tup (wa :: wb :: wc :: ws)) = false := show decide (((wa :: wb :: wc :: ws).length : Int) = 2) = false from decide_eq_false (by simp only [List.length_cons]; omega)
            rw [z]
            exact iteF q
          | nil =>
            refine iteT ⟨_, rfl, a, _, 0, va, rfl, rfl, .inl e, rfl, _, rfl, va, wa, kd, ks, rfl, ha, hk, _, rfl, ?_⟩
            have eq : isRowW ks (.tup [wa, wb]) = (isKeyOf ks wa && isNum wb) := rfl
            rw [eq] at q
            cases e1 : isKeyOf ks wa with
            | false =>
              rw [e1] at q
              exact iteF q
            | true =>
              rw [e1] at q
              exact iteT ⟨_, rfl, a, _, 1, vb, rfl, rfl, .inl e, rfl, vb, wb, rfl, hb, q⟩
    | non => exact iteF q
    | bl b => exact iteF q
    | int i => exact iteF q
    | str x _ _ => exact iteF q
    | lst _ _ _ => exact iteF q
    | dct _ _ _ => exact iteF q
end
end Kn
-- part Rs
set_option maxHeartbeats 4000000
/-! Errors with an attribute, raised. -/
namespace Err
open PySem PySem.Spec PyProof.Rows L2 NdefX
section
variable {X : Cx} {C : Addr} {p x : Str} {e : Expr} {te : TE} {cp pos : Pos}
/-- the making of an error that is raised: class C, a new dict with the one attribute -/
def tRs (C : Addr) (p : Str) (te : TE) : L2.St → Hp → XK → Prop := fun σ H Q => te σ H fun v H1 => ∀ d, H1 d = none → Q (.ref C) (some d) (upd H1 d (.xd [(p, v)]))
theorem raises_of (T : One X.prog X.K C p) : Raises X (.ref C) := by
  obtain ⟨fI, cc, cd, st, qual, msg, q1, q2, q3, q4, q5, q6, q7, q8, q9, q10, pl, M, _⟩ := T.ex
  exact raises_own M.T.exC M.T.tyC
theorem pmk_err (T : One X.prog X.K C p) (ms : X.mg "super" = none) (hr : Room 1 X.A) (hg : Gl X x) (hm : X.mg x = some (.ref C)) (kC : PySem.W.keepIn X.K (.ref C) = true) (he : PE X e te)
    (hs : starEach [e] X.env = (false, eval e X.env) :: starEach [] X.env := by rfl) (hdb : (x == ("__debug__" : Str)) = false := by decide) : PMk X (.Call (.Name x cp) [e] [] pos) (tRs C p te) := by
  intro pins s σ H Q I h
  refine wpAny_Call_Name_kw (ld_glob I hg hm ?_ hdb)
  refine PySem.W.callWith_K (h₀ := X.base) I.ok.mod.kin kC ?_ hs (by rfl)
  rw [hs]
  show wpAny _ _ (spliced ((false, eval e X.env) :: backTo pos (starEach [] X.env))) _ _ s
  refine Calls.spliced_cons (thn (he.run pins s σ H _ I h) fun u s1 ⟨v, H1, I1, ru, q1⟩ => ?_)
  refine Calls.spliced_nil ⟨I1.kIn, ?_⟩
  obtain ⟨fI, cc, cd, st, qual, msg, p1, p2, p3, p4, p5, p6, p7, p8, p9, p10, pl, M, S, hb, hev, hks, hpa, hpd, hpc, hsw, b1, b2⟩ := T.ex
  obtain ⟨nm, q, N, bs, bm, sn, sub, ab, col, dd, k0, k1, k2, k3, k5, hC, hbm⟩ := M.T.cls
  obtain ⟨hp, g, dr, tk, os⟩ := s1
  have hsz : hp.objs.size ≤ hp.objs.size + 1 := Nat.le_succ _
  have hn : H1 (hp.objs.size + 1) = none := I1.hok.fresh hsz
  have kk : ∀ b o, hp.get? b = some o → ((hp.push (PySem.W.kdv_tup [u])).push (PySem.HandSPX.excO C hp.objs.size)).get? b = some o := fun b o z => Heap.get?_push_of_some _ (Heap.get?_push_of_some _ z)
  have hget : ((hp.push (PySem.W.kdv_tup [u])).push (PySem.HandSPX.excO C hp.objs.size)).get? (hp.objs.size + 1) = some (PySem.HandSPX.excO C hp.objs.size) := by heap_get
  have I2 : Inv X pins σ (upd H1 (hp.objs.size + 1) (exo (hp.objs.size + 1) C none)) ⟨(hp.push (PySem.W.kdv_tup [u])).push (PySem.HandSPX.excO C hp.objs.size), g, dr, tk, os⟩ :=
    I1.laid (t' := tk) (a := hp.objs.size + 1) (o := exo (hp.objs.size + 1) C none) (h' := (hp.push (PySem.W.kdv_tup [u])).push (PySem.HandSPX.excO C hp.objs.size)) kk hsz (exo_ok hget)
  have hT := fun Y => PySem.HandSPX.refsVE_contains Y bm hbm
  have last : ∀ d, upd H1 (hp.objs.size + 1) (exo (hp.objs.size + 1) C none) d = none → d ≠ hp.objs.size + 1 →
      V.non = V.non ∧ ∃ d', upd (upd (upd H1 (hp.objs.size + 1) (exo (hp.objs.size + 1) C none)) d (exd d [(p, v)])) (hp.objs.size + 1) (exo (hp.objs.size + 1) C (some d)) = upd (upd (upd H1 (hp.objs.size + 1) (exo (hp.objs.size + 1) C none)) d' (exd d' [(p, v)])) (hp.objs.size + 1) (exo (hp.objs.size + 1) C (some d')) ∧ H1 d' = none ∧ d' ≠ hp.objs.size + 1 := fun d nd ne => by
    rw [upd_ne ne] at nd
    exact ⟨rfl, d, rfl, nd, ne⟩
  refine wpAny_call (PySem.HandSPX.call_own F.excBase_ValueError hT (I1.kIn _ _ hC) (PySem.W.looks_findIn I1.kIn M.iC) (fun self => PySem.W.bind_fn I1.kIn self M.tI) (by show 1 ≤ sizeLine; decide)
      (codeAny_mono (init_code (E := fun _ _ _ => False) (Q := fun v' H' => v' = V.non ∧ ∃ d', H' = upd (upd (upd H1 (hp.objs.size + 1) (exo (hp.objs.size + 1) C none)) d' (exd d' [(p, v)])) (hp.objs.size + 1) (exo (hp.objs.size + 1) C (some d')) ∧ H1 d' = none ∧ d' ≠ hp.objs.size + 1)
        M S hb hev hks hpa hpd hpc hsw ms (hr.make C [u] []) (I2.env0.make C [u] []) upd_same ru (fun kV doc pm an ct => .of_eq (b1 _ _ _ _ _ _ _)) last) fun r s' hq' => ?_))
  cases r with
  | error er => exact False.elim hq'
  | ok fl =>
    cases fl with
    | ret w' =>
      obtain ⟨v', H2, os2, bare2, un2, hok2, rv, ev, d, eH, hd1, hda⟩ := hq'
      subst ev
      subst eH
      obtain ⟨h2, g2, d2, t2, os'⟩ := s'
      have ed : (upd (upd (upd H1 (hp.objs.size + 1) (exo (hp.objs.size + 1) C none)) d (exd d [(p, v)])) (hp.objs.size + 1) (exo (hp.objs.size + 1) C (some d))) d = some (exd d [(p, v)]) := by rw [upd_ne hda, upd_same]
      refine ⟨rv, mk_end (raises_own M.T.exC M.T.tyC) I1 hsz kk un2 hok2 os2 bare2 upd_same ed hd1 ?_⟩
      have eq : upd (del (upd (upd (upd H1 (hp.objs.size + 1) (exo (hp.objs.size + 1) C none)) d (exd d [(p, v)])) (hp.objs.size + 1) (exo (hp.objs.size + 1) C (some d))) (hp.objs.size + 1)) d (.xd [(p, v)]) = upd H1 d (.xd [(p, v)]) := by
        funext b
        by_cases e1 : b = d
        · rw [e1, upd_same, upd_same]
        · rw [upd_ne e1, upd_ne e1]
          by_cases e2 : b = hp.objs.size + 1
          · rw [e2, del_same, hn]
          · rw [del_ne e2, upd_ne e2, upd_ne e1, upd_ne e2]
      rw [eq]
      exact q1 d hd1
    | next => exact False.elim hq'
    | brk => exact False.elim hq'
    | cont => exact False.elim hq'
end
end Err
-- part Kp
set_option maxHeartbeats 4000000
/-! A caught error that outlives its suite. -/
namespace Err
open PySem PySem.Spec PyProof.Rows L2 NdefX
/-- an error that was caught: of the class cls, its dict d -/
def exq (a : Addr) (cls : Value) (d : Option Addr) : HO := .ext fun h => ∃ (oe : Obj) (vs : Array Value), h.get? a = some oe ∧ Zc cls d oe ∧ oe.data = .fields vs
theorem exq_ok {P : Program} {w : World} {H : Hp} {h : Heap} {a : Addr} {cls : Value} {d : Option Addr} {oe : Obj} (e : h.get? a = some oe) (z : Zc cls d oe) (f : ∃ vs, oe.data = .fields vs) : ObjOk P w H h a (exq a cls d) := by
  obtain ⟨vs, f⟩ := f
  exact ⟨⟨oe, vs, e, z, f⟩, ⟨oe, e⟩, fun h1 h2 ⟨o, us, e1, z1, f1⟩ st => ⟨o, us, st o e1, z1, f1⟩⟩
section
variable {X : Cx} {pins : List (Addr × Obj)} {σ : L2.St} {H : Hp} {s : Shared}
/-- what was pinned is tracked from here on -/
theorem track {a : Addr} {oe : Obj} {o : HO} (I : L2.Inv X ((a, oe) :: pins) σ H s) (n0 : X.s_0.heap.get? a = none) (np : ∀ p ∈ X.pn ++ pins, p.1 ≠ a) (new : ObjOk X.prog X.w (upd H a o) s.heap a o) : L2.Inv X pins σ (upd H a o) s := by
  obtain ⟨_, hn, hL, hF, hcell⟩ := I.pin (a, oe) (by simp)
  have ha := (I.pin (a, oe) (by simp)).1
  have fresh : ∀ b u, X.s_0.heap.get? b = some u → b ≠ a := fun b u e z => by rw [z, n0] at e; cases e
  constructor
  · exact I.ok
  · exact I.os
  · exact I.bare
  · constructor
    · exact I.base.keep
    · exact I.base.slot
    · intro b u e n x
      rw [upd_ne (fresh b u e)]
      exact I.base.free b u e n x
    · exact I.base.there
    · intro b xs e
      have z := I.base.tups b xs e
      rw [upd_ne (ne_of_none z hn)]
      exact z
    · intro b u v e
      have z := I.base.frzs b u v e
      rw [upd_ne (ne_of_none z hn)]
      exact z
    · intro b ps e
      obtain ⟨m, z⟩ := I.base.tbls b ps e
      exact ⟨m, by rw [upd_ne (ne_of_none z hn)]; exact z⟩
  · exact I.loc
  · exact I.cell
  · rw [upd_ne (Ne.symm hL)]
    exact I.free
  · intro x c e
    have z : c ≠ a := fun z => by
      obtain ⟨v, o', ho, hd⟩ := I.cell x c e
      rw [z, ha] at ho
      cases ho
      exact hcell v hd
    rw [upd_ne z]
    exact I.freeC x c e
  · intro p hp
    have q : p ∈ X.pn ++ (a, oe) :: pins := by
      rcases List.mem_append.mp hp with y | y
      · exact List.mem_append_left _ y
      · exact List.mem_append_right _ (List.mem_cons_of_mem _ y)
    obtain ⟨e1, e2, e3⟩ := I.pin p q
    exact ⟨e1, by rw [upd_ne (np p hp)]; exact e2, e3⟩
  · exact I.hok.laidN (fun _ _ e => e) hn new
  · exact I.len
/-- in flight: all that a suite and what comes behind it must know of the error -/
theorem flown {B : Heap} {a : Addr} {cls : Value} {d : Option Addr} {sI sN : Shared} {h : Heap} (J : L2.Inv X pins σ H sI) (ground : ∀ b o, sI.heap.get? b = some o → b ∉ frs X.stack → B.get? b = some o) (hs : X.stack = X.env :: X.outer)
    (hf : X.env.frame = some X.env.locals) (hx : X.ex = []) (fl : PySem.HandSPX.FlyingZ B (X.env :: X.outer) a (Zc cls d) h) (up : sI.heap.UpToSlots h) (os : sN.os = sI.os) (ag : AllBare sN.gens) (na : H a = none) :
    ∃ oe : Obj, (∃ vs, oe.data = .fields vs) ∧ Zc cls d oe ∧ h.get? a = some oe ∧ L2.Inv (X.suite a ((a, oe) :: (X.pn ++ pins))) [] σ H { sN with heap := h } ∧ X.s_0.heap.get? a = none ∧ (∀ p ∈ X.pn ++ pins, p.1 ≠ a) ∧ L2.Inv X pins σ H { sN with heap := h } := by
  obtain ⟨oe, vs, ho, hz, hd⟩ := fl.there
  have out : a ∉ frs (X.env :: X.outer) := fun m => by
    obtain ⟨_, o2, e2, hne⟩ := fl.2.2.1.mem m
    rw [ho] at e2
    exact hne vs (by cases e2; exact hd)
  have gone : sI.heap.get? a = none := by
    cases e : sI.heap.get? a with
    | none => rfl
    | some o =>
      have z := ground a o e (by rw [hs]; exact out)
      rw [fl.2.1] at z
      cases z
  have K : L2.Inv X pins σ H { sN with heap := h } := J.landed ground fl.1 up os ag
  refine ⟨oe, ⟨vs, hd⟩, hz, ho, K.suite ho hd na (fun z => out ?_) (fun m => out ?_), ?_, fun p hp z => ?_, K⟩
  · exact List.mem_filterMap.mpr ⟨X.env, List.mem_cons_self, by rw [hf, z]⟩
  · obtain ⟨e, he, q⟩ := List.mem_filterMap.mp m
    exact List.mem_filterMap.mpr ⟨e, List.mem_cons_of_mem _ he, q⟩
  · cases e : X.s_0.heap.get? a with
    | none => rfl
    | some o =>
      obtain ⟨o2, e2⟩ := J.base.there a o e (by rw [hx]; exact fun z => nomatch z)
      rw [gone] at e2
      cases e2
  · have e := (J.pin p hp).1
    rw [z, gone] at e
    cases e
end
/-- try: body, except x as n: suite, where all that the body raises is of the class c: what was caught stands on, tracked -/
def wKp (K : PySem.W.Frag) (c : Value) (i : Nat) (ts : Addr → Value → Option Addr → TS) (D : Ends) : WX := fun cls d σ H =>
  PySem.W.exmOne K cls c = some true ∧ ∀ a, H a = none → ts a cls d { nx := fun σ' H' => H' a = none → D.nx (σ'.set i none) (upd H' a (exq a cls d)), rt := fun _ _ => False, bk := fun _ _ => False, ct := fun _ _ => False } (σ.set i (some (.ref a))) H
section
variable {X : Cx} {x n : Str} {c : Value} {i : Nat} {body suite : List Stmt} {b₀ : Stmt} {np pos pos' : Pos} {tb : WX → TS} {ts : Addr → Value → Option Addr → TS}
theorem ps_keep (hs : X.stack = X.env :: X.outer) (hf : X.env.frame = some X.env.locals) (hx : X.ex = []) (hN : X.N.Nodup) (hi : X.N[i]? = some n) (hln : X.env.kindOf n = some .local) (hc : Names X x c)
    (hb : ∀ (W : WX) (pn : List (Addr × Obj)) (xe : Value → Shared → Prop), Takes (X.tr pn xe) W → PassesOwn (model X.prog X.w) X.A X.env xe → PSs (X.tr pn xe) body (tb W))
    (hsu : ∀ (a : Addr) (oe : Obj) (cls : Value) (d : Option Addr) (pn : List (Addr × Obj)), Zc cls d oe → (∃ vs, oe.data = .fields vs) → PSs (X.suite a ((a, oe) :: pn)) (b₀ :: suite) (ts a cls d)) :
    PS X (.Try body [.ExceptHandler (some (.Name x np)) (some n) (b₀ :: suite) pos'] [] [] pos) (fun D σ H => tb (wKp X.K c i ts D) D σ H) := by
  constructor
  intro pins s σ H D I h
  have good := I.ok
  have top : X.A.frames = some (X.env :: X.outer) := by rw [good.frames, hs]
  refine wpAny_Try_except ?_
  refine wpAny_mono ((hb (wKp X.K c i ts D) (X.pn ++ pins) (fun e s₁ => wpAny (model X.prog X.w) X.A (noteFrame e X.env) (fun _ s₂ => wpAny (model X.prog X.w) X.A (setFlight e none) (fun _ s₃ =>
    wpAny (model X.prog X.w) X.A (handleBy e X.env [.ExceptHandler (some (.Name x np)) (some n) (b₀ :: suite) pos']) (SP X pins D) X.xe s₃) X.xe s₂) X.xe s₁) ?held PassesOwn.looking).run [] s σ H D (I.toTry _) h) ?plain fun _ _ z => z
  case plain =>
    intro f s1 end_
    cases f with
    | ret u =>
      obtain ⟨v, σ', H', K, r, q⟩ := end_
      exact ⟨v, σ', H', K.ofTry good, r, q⟩
    | next =>
      obtain ⟨σ', H', K, q⟩ := end_
      exact wpAny_execs_nil ⟨σ', H', K.ofTry good, q⟩
    | cont =>
      obtain ⟨σ', H', K, q⟩ := end_
      exact ⟨σ', H', K.ofTry good, q⟩
    | brk =>
      obtain ⟨σ', H', K, q⟩ := end_
      exact ⟨σ', H', K.ofTry good, q⟩
  case held =>
    rintro u sN ⟨a, B, sI, pins2, σ2, H2, cls, d, rfl, J, ground, up, sky, na, os, ag, match_, go⟩
    have J := J.ofTry good
    have sky : Sky B (X.env :: X.outer) a (Zc cls d) X.env.locals sN.heap := by rw [← hs]; exact sky
    refine Sky.land Zc.steady top hf sky fun h3 fl3 up3 => ?_
    obtain ⟨oe3, fd3, z3, at3, S3, _, _, K3⟩ := flown J ground hs hf hx fl3 (up.trans up3) os ag na
    refine wpAny_handleBy_cons (codeAny_handlers_test ?_) (by intro q; cases q)
    have cl : PySem.W.Looks (model X.prog X.w) h3 (typeOf (.ref a)) cls := fun A Q E s k q => wpAny_typeOf_ref (k _ _ at3) (by rw [z3.1]; exact q)
    have asked : ∀ {Q : Value → Shared → Prop} {E : Value → Shared → Prop}, Q c { sN with heap := h3 } → wpAny (model X.prog X.w) (X.A.mark (some (.ref a))) (eval (.Name x np) X.env) Q E { sN with heap := h3 } := by
      intro Q E q
      obtain ⟨hg, hdbg, hm⟩ := hc
      rcases hm with hm | ⟨hm, hv, hnn⟩
      · exact ld_glob (X := X.suite a ((a, oe3) :: (X.pn ++ pins))) S3 hg hm q hdbg
      · exact ld_blt (X := X.suite a ((a, oe3) :: (X.pn ++ pins))) S3 hg hm hv q hnn hdbg
    refine asked ((PySem.W.exm_one (M := model X.prog X.w) K3.kIn cl match_).here (codeAny_handlers_suite_as (PySem.HandSPX.lands_againZ fl3 fun h4 fl4 up4 => ?_)))
    obtain ⟨oe4, fd4, z4, at4, S4, new4, other4, _⟩ := flown J ground hs hf hx fl4 ((up.trans up3).trans up4) os ag na
    refine store_ok (X := X.suite a ((a, oe4) :: (X.pn ++ pins))) (v := .ref a) S4 hN hi (.inl hln) rfl (fun s5 S5 => ?_) (.inr hln)
    refine wpAny_mono ((hsu a oe4 cls d (X.pn ++ pins) z4 fd4).run [] s5 _ H2 _ S5 (go a na)) ?_ fun _ _ z => z.elim
    intro f s6 end_
    cases f with
    | brk =>
      obtain ⟨_, _, _, z⟩ := end_
      exact z.elim
    | cont =>
      obtain ⟨_, _, _, z⟩ := end_
      exact z.elim
    | ret u =>
      obtain ⟨_, _, _, _, _, z⟩ := end_
      exact z.elim
    | next =>
      obtain ⟨σ6, H6, S6, q6⟩ := end_
      have pinned : L2.Inv X ((a, oe4) :: pins) σ6 H6 s6 := by
        refine ⟨good, S6.os, S6.bare, S6.base, S6.loc, S6.cell, S6.free, S6.freeC, fun p hp => S6.pin p ?_, S6.hok, S6.len⟩
        rw [List.append_nil]
        rcases List.mem_append.mp hp with y | y
        · exact List.mem_cons_of_mem _ (List.mem_append_left _ y)
        · rcases List.mem_cons.mp y with y | y
          · rw [y]; exact List.mem_cons_self
          · exact List.mem_cons_of_mem _ (List.mem_append_right _ y)
      refine gone_ok pinned hN hi hln fun s7 S7 => ?_
      have p7 := S7.pin (a, oe4) (by simp)
      exact ⟨_, _, track S7 new4 other4 (exq_ok p7.1 z4 fd4), q6 p7.2.1⟩
end
end Err
-- part Cq
set_option maxHeartbeats 4000000
/-! A caught error: asked by isinstance, its attribute read. -/
namespace Err
open PySem PySem.Spec PyProof.Rows L2 NdefX
/-- at a a caught error of the class at C, with attributes -/
def QAt (H : Hp) (a C : Addr) (fs : List (Str × V)) : Prop := ∃ d, H a = some (exq a (.ref C) (some d)) ∧ H d = some (.xd fs)
theorem QAt.same {H H' : Hp} {a C : Addr} {fs : List (Str × V)} (h : QAt H a C fs) (s : ∀ b o, H b = some o → H' b = some o) : QAt H' a C fs := by
  obtain ⟨d, e1, e2⟩ := h
  exact ⟨d, s _ _ e1, s _ _ e2⟩
section
variable {X : Cx} {e : Expr} {te : TE} {pos : Pos}
theorem QAt.inst {pins : List (Addr × Obj)} {σ : L2.St} {H : Hp} {s : Shared} {a C : Addr} {fs : List (Str × V)} (I : L2.Inv X pins σ H s) (h : QAt H a C fs) :
    ∃ (ox od : Obj) (mA : Str → Option Value), PySem.W.InstAt s.heap a ox C (some od) ∧ (∀ n, PySem.W.lookIn n od = some (mA n)) ∧ ∀ n, RelO (fs.lookup n) (mA n) := by
  obtain ⟨d, e1, e2⟩ := h
  obtain ⟨⟨oe, vs, ho, z, hd⟩, _, _⟩ := I.hok _ _ e1
  obtain ⟨mA, hns, hr⟩ : ∃ mA, s.heap.Ns1 d mA ∧ ∀ f, RelO (fs.lookup f) (mA f) := I.hok _ _ e2
  obtain ⟨od, hod, hl⟩ := lookIn_ns hns
  refine ⟨oe, od, mA, ⟨ho, z.1, ?_, ?_⟩, hl, hr⟩
  · unfold PySem.W.notCls
    rw [hd]
  · rw [z.2]
    exact hod
def rIsq (K : PySem.W.Frag) : List V → Hp → VK → Prop := fun xs H Q => ∃ (a C : Addr) (fs : List (Str × V)) (c : V) (cv : Value) (b : Bool), xs = [.ref a, c] ∧ QAt H a C fs ∧ Isi K C ∧ ClsV c cv ∧ PySem.W.kitOne K (.ref C) cv = some b ∧ Q (.bl b) H
theorem call_isq : CallR X (.builtin "isinstance") (rIsq X.K) := by
  rintro pins s σ H xs us Q I r ⟨a, C, fs, c, cv, b, rfl, hx, T, hcv, e, q⟩
  obtain ⟨ox, od, mA, J, _, _⟩ := hx.inst I
  cases r with
  | cons rx rs =>
    cases rs with
    | cons rt rn =>
      cases rn
      cases rx
      cases hcv.eq rt
      exact PySem.W.kia_one (PySem.W.kitx_exc T.cl T.ga T.gt T.sb T.ca T.gs T.tk T.ob) I.kIn J e (fun z => nomatch z) fun tk => ⟨.bl b, H, I.kept (t' := tk) fun _ _ z => z, rfl, q⟩
def tAttq (K : PySem.W.Frag) (n : Str) (te : TE) : TE := fun σ H Q => te σ H fun x H1 => ∃ (a C : Addr) (fs : List (Str × V)) (v : V), x = .ref a ∧ QAt H1 a C fs ∧ Isi K C ∧ PySem.W.findIn K (.ref C) n = some none ∧ fs.lookup n = some v ∧ Q v H1
theorem pe_attq {n : Str} (he : PE X e te) (hb : attributeBase e n X.env (eval e X.env) = eval e X.env := by rfl) : PE X (.Attribute e n pos) (tAttq X.K n te) := by
  constructor
  intro pins s σ H Q I h
  refine attr_of hb (thn (he.run pins s σ H _ I h) ?_)
  rintro u s1 ⟨x, H1, I1, rx, a, C, fs, v, ex, hx, T, no, l, q⟩
  subst ex
  obtain rfl : u = Value.ref a := rx
  obtain ⟨ox, od, mA, J, hl, hr⟩ := hx.inst I1
  obtain ⟨w, hw, rw'⟩ := RelO.some_of (v := v) (o := mA n) (by rw [← l]; exact hr n)
  exact PySem.HandSPX.exc_get I1.kIn J T.ga T.gt T.sb (PySem.W.findObj_own T.hd no rfl (by rw [hl n, hw])) (handed_of rw') ⟨v, H1, I1.tok _, rw', q⟩
end
end Err
-- part Cg
set_option maxHeartbeats 4000000
/-! The law's def that calls a lambda and gives back the error that it raises. -/
namespace Err
open PySem PySem.Spec PyProof.Rows L2 NdefX LamX
theorem takes_len {X : Cx} {W : WX} (t : Takes X W) : Takes X (fun cls d σ H => σ.length = X.N.length → W cls d σ H) := by
  rintro u s' ⟨a, B, sI, pins, σ, H, cls, d, e1, I, r1, r2, r3, r4, r5, r6, w⟩
  exact t u s' ⟨a, B, sI, pins, σ, H, cls, d, e1, I, r1, r2, r3, r4, r5, r6, w I.len⟩
/-- what becomes of a lambda: its error, or None -/
def TCaught (K : PySem.W.Frag) (CS : Addr) : (XK → Hp → VK → Prop) → Hp → VK → Prop := fun tl H Q =>
  tl (fun cls d H' => PySem.W.exmOne K cls (.ref CS) = some true ∧ ∀ a, H' a = none → Q (.ref a) (upd H' a (exq a cls d))) H fun _ H' => ∃ v, (some (some V.non) : Option (Option V)) = some (some v) ∧ Q v H'
abbrev NCa : List Str := ["_law_work", "_law_caught_here", "_law_error"]
abbrev sCaught : Stmt := Kn.topS 30
theorem scCa : FnScope NCa ["_law_work"] (defScope sCaught) := ⟨rfl, rfl, rfl, by decide +kernel, rfl, by decide +kernel, by decide +kernel⟩
theorem caught_gives {X : Cx} {q : Str} {g CS : Addr} {cdg : Value} (hme : X.mg "StillError" = some (.ref CS)) : GivesTo X NCa "_law_caught" (defScope sCaught) g cdg (defBody sCaught) "_law_work" q (TCaught X.K CS) := by
  intro f c' s H Q tl act hc h
  refine ⟨_, pss_cons (ps_set (i := 1) scCa.nd rfl (.inl rfl) pe_non)
    (pss_cons (ps_keep (X := (cxOf C8.CX0 X.prog X.w X.K X.mg X.base NCa "_law_caught" (defScope sCaught) g cdg X.A X.stack s H C8.E0).nox) (i := 2) (c := .ref CS)
      (tb := fun W D σ H => ∃ Ech : XK, (∀ cls d σ' H', σ'.length = 3 → Ech cls d H' → W cls d σ' H') ∧ σ[0]? = some (some (.ref f)) ∧ H c' = some (CodeO c' q) ∧ tl Ech H fun _ H' => D.nx σ H')
      rfl rfl rfl scCa.nd rfl rfl ⟨rfl, rfl, .inl hme⟩ (fun W pn xe tk _ => ?_) (fun a oe cls d pn _ _ => pss_one (ps_set (i := 1) scCa.nd rfl (.inl rfl) (pv 2))))
    (pss_one (ps_ret (pv 1)))), ?_⟩
  · constructor
    rintro pins s' σ H' D I ⟨Ech, hW, h1, h2, h3⟩
    exact (pss_one (ps_expr (act (fun cls d σ H => σ.length = 3 → W cls d σ H) pn xe Ech _ _ (takes_len tk) fun cls d σ' H' e hl => hW cls d σ' H' hl e))).run pins s' σ H' D I ⟨h1, h2, h3⟩
  · refine ⟨fun cls d H' => PySem.W.exmOne X.K cls (.ref CS) = some true ∧ ∀ a, H' a = none → Q (.ref a) (upd H' a (exq a cls d)), fun cls d σ' H' hl z => ?_, rfl, hc, h⟩
    obtain ⟨x, y, w, rfl⟩ : ∃ x y w, σ' = [x, y, w] := by
      match σ', hl with
      | [x, y, w], _ => exact ⟨x, y, w, rfl⟩
    exact ⟨z.1, fun a na => ⟨_, rfl, fun na' => ⟨_, rfl, z.2 a na⟩⟩⟩
end Err
-- part Vc
set_option maxHeartbeats 8000000
namespace Kn
open PySem PySem.Spec PyProof.Rows L2 Err
theorem pi_both {X : Cx} {tg e : Expr} {t u : L2.TI} (h1 : PI X tg e t) (h2 : PI X tg e u) : PI X tg e (fun σ H R => t σ H R ∨ u σ H R) := ⟨fun pins s σ H R I h => by
  rcases h with h | h
  · exact h1.run pins s σ H R I h
  · exact h2.run pins s σ H R I h⟩
theorem IsAll.get {H : Hp} : ∀ {vs : List V} {ws : List W} {i : Nat} {x : V}, IsAll H vs ws → vs[i]? = some x → ∃ w, ws[i]? = some w ∧ Is H x w
  | _, _, 0, x, .cons h _, e => by
    cases e
    exact ⟨_, rfl, h⟩
  | _, _, i + 1, x, .cons _ t, e => by
    obtain ⟨w, e1, e2⟩ := t.get (i := i) (by simpa using e)
    exact ⟨w, by simpa using e1, e2⟩
/-- at a a list or a tuple -/
def SqA (H : Hp) (a : Addr) (xs : List V) : Prop := H a = some (.lst xs) ∨ Rd H a (.tup xs)
/-- what is wrong of rows: None, or the place of the first -/
def badAt (ks : List (Key × V)) : W → Option V
  | .lst ws => (ws.findIdx? fun w => !isRowW ks w).map fun i => V.int i
  | .tup ws => (ws.findIdx? fun w => !isRowW ks w).map fun i => V.int i
  | _ => some .non
def spRows (CR : Addr) : Sp := fun vs H Q E => ∃ v w kd ks, vs = [.ref kd, v] ∧ Is H v w ∧ H kd = some (.dK ks) ∧
  (∀ r, badAt ks w = some r → ∀ d H', Same H H' → H' d = none → E (.ref CR) (some d) (upd H' d (.xd [("at", r)]))) ∧
  (badAt ks w = none → ∀ a xs l H', v = .ref a → SqA H a xs → Same H H' → H' l = none → Q (.ref l) (upd H' l (.lst xs)))
abbrev sRows : Stmt := topS 14
abbrev NRs : List Str := ["kinds", "rows", "at", "row"]
theorem scRs : FnScope NRs ["kinds", "rows"] (defScope sRows) := ⟨rfl, rfl, rfl, by decide +kernel, rfl, by decide +kernel, by decide +kernel⟩
def spIsList : Sp := fun vs H Q _ => ∃ v w, vs = [v] ∧ Is H v w ∧ ∀ H', Same H H' → Q (.bl (isSeq w)) H'
section
variable {P : Program} {w : World} {K : PySem.W.Frag} {mg : Str → Option Value} {base : Heap}
theorem ok_rows {f f1 f2 CR : Addr} {fd fd1 fd2 : FuncData} (F : Fun K "checked_rows" "checked_rows" sRows f fd) (G1 : FnOk P w K mg base CX0 1 f1 fd1 ["value"] spIsList) (k1 : PySem.W.keepIn K (.ref f1) = true) (b1 : Binds K fd1 ["value"] []) (g1 : mg "is_list" = some (.ref f1))
    (G2 : FnOk P w K mg base CX0 2 f2 fd2 ["kinds", "value"] spRow) (k2 : PySem.W.keepIn K (.ref f2) = true) (b2 : Binds K fd2 ["kinds", "value"] []) (g2 : mg "is_row" = some (.ref f2))
    (T : One P K CR "at") (ms : mg "super" = none) (gR : mg "BadRows" = some (.ref CR)) (kR : PySem.W.keepIn K (.ref CR) = true) (me : mg "enumerate" = none) (ml : mg "list" = none) :
    FnOk P w K mg base (L2.CX P w) 3 f fd ["kinds", "rows"] (spRows CR) := by
  have S := scRs
  refine F.okX S (fun vs H Q E h => ?_) (fun cdv A outer s H vs Q E hr h => ?_)
  · obtain ⟨v, u, kd, ks, rfl, _⟩ := h
    rfl
  · obtain ⟨v, u, kd, ks, rfl, hv, hk, hE, hQ⟩ := h
    have hu := hu_of hr
    have hr1 := hr.mono (show 1 ≤ 2 by decide)
    have tk : Takes (cxOf (L2.CX P w) P w K mg base NRs "checked_rows" (defScope sRows) f cdv A outer s H E) (fun cls d _ H => E cls d H) := takes_of rfl rfl rfl rfl
    have pl : Passes CX0 (cxOf (L2.CX P w) P w K mg base NRs "checked_rows" (defScope sRows) f cdv A outer s H E) E0 := pass0
    refine ⟨_, pss_cons (ps_if (pt_not (pt_val (pe_call G1 hr1 (by rfl) g1 k1 b1 .nil pass0 (pa_cons (pv 1) pa_nil)))) (pss_one (ps_raise rfl tk (pmk_err T ms hr1 (by rfl) gR kR pe_non))) pss_nil)
      (pss_cons (ps_for (passes_of rfl) rfl (pi_both (pi_enum (by rfl) me (pa_cons (pv 1) pa_nil)) (pi_enumT (by rfl) me (pa_cons (pv 1) pa_nil))) (pg_tup rfl (pgs_cons (pg_name (i := 2) S.nd rfl (.inl rfl)) (pgs_cons (pg_name (i := 3) S.nd rfl (.inl rfl)) pgs_nil)))
        (pss_one (ps_if (pt_not (pt_val (pe_call G2 hr (by rfl) g2 k2 b2 .nil pass0 (pa_cons (pv 0) (pa_cons (pv 3) pa_nil))))) (pss_one (ps_raise rfl tk (pmk_err T ms hr1 (by rfl) gR kR (pv 2)))) pss_nil)))
      (pss_one (ps_ret (pe_callTy call_list_of (by rfl) ml (by decide +kernel) (pa_cons (pv 1) pa_nil))))), ?_⟩
    have hcase : (isSeq u = false ∧ badAt ks u = some .non) ∨ ∃ a xs ws, v = .ref a ∧ SqA H a xs ∧ xs.length ≤ 900 ∧ IsAll H xs ws ∧ isSeq u = true ∧ badAt ks u = (ws.findIdx? fun w => !isRowW ks w).map fun i => V.int i := by
      cases hv with
      | @lst a xs ws hz e t => exact .inr ⟨a, xs, ws, rfl, .inl e, hz, t, by kernel_rfl, rfl⟩
      | @tup a xs ws hz e t => exact .inr ⟨a, xs, ws, rfl, .inr e, hz, t, by kernel_rfl, rfl⟩
      | non => exact .inl ⟨by kernel_rfl, rfl⟩
      | bl b => exact .inl ⟨by kernel_rfl, rfl⟩
      | int i => exact .inl ⟨by kernel_rfl, rfl⟩
      | str x _ _ => exact .inl ⟨by kernel_rfl, rfl⟩
      | dct _ _ _ => exact .inl ⟨by kernel_rfl, rfl⟩
    refine ⟨_, rfl, v, u, rfl, hv, fun H1 s1 => ⟨_, rfl, ?_⟩⟩
    rcases hcase with ⟨e1, e2⟩ | ⟨a, xs, ws, rfl, hsq, hz, hall, e1, e2⟩
    · rw [e1]
      exact iteT fun d nd => hE _ e2 d H1 s1 nd
    · rw [e1]
      refine iteF ?_
      have last : ∀ (σ : L2.St) (H2 : Hp), (∃ y z, σ = [some (.ref kd), some (.ref a), y, z]) → Same H H2 → (∀ (i : Nat) (w : W), ws[i]? = some w → isRowW ks w = true) →
          (tRet (tCB (fun xs H Q => ∃ p ys, xs = [V.ref p] ∧ (SqL K H p ys ∨ SqT K H p ys) ∧ ∀ l, H l = none → Q (.ref l) (upd H l (.lst ys))) (tCons (tVar 1) tNil))) { nx := fun _ H' => Q .non H', rt := Q } σ H2 := by
        rintro σ H2 ⟨y, z, rfl⟩ s2 ok
        have none_ : badAt ks u = none := by
          rw [e2]
          have z : (ws.findIdx? fun w => !isRowW ks w) = none := by
            rw [List.findIdx?_eq_none_iff]
            intro w hw
            obtain ⟨i, hi⟩ := List.getElem?_of_mem hw
            rw [ok i w hi]
            rfl
          rw [z]
          rfl
        refine ⟨_, rfl, a, xs, rfl, ?_, fun l nl => hQ none_ a xs l H2 rfl hsq s2 nl⟩
        rcases hsq with e | e
        · exact .inl (SqL.of (s2 _ _ e))
        · exact .inr (.inl (Rd.same e s2))
      have src : ∃ J : It, Walk J xs.length (fun H' => Same H H') (YPair (fun i => some (V.int (i : Nat))) (fun i => xs[i]?)) ∧
          ∀ R : It → Hp → Prop, R J H1 → iEnum K (tCons (tVar 1) tNil) (L2.start NRs [V.ref kd, V.ref a]) H1 R ∨ iEnumT K (tCons (tVar 1) tNil) (L2.start NRs [V.ref kd, V.ref a]) H1 R := by
        rcases hsq with e | e
        · exact ⟨_, walk_enum.mono (fun H' s => SqL.of (s _ _ e)) (fun _ _ _ _ _ _ y => y), fun R r => .inl ⟨_, rfl, a, xs, rfl, SqL.of (s1 _ _ e), r⟩⟩
        · exact ⟨_, walk_enumT.mono (fun H' s => .inl (Rd.same e s)) (fun _ _ _ _ _ _ y => y), fun R r => .inr ⟨_, rfl, a, xs, rfl, .inl (Rd.same e s1), r⟩⟩
      obtain ⟨J, wk, src⟩ := src
      refine src _ (for_it wk (fun i σ H' => (∃ y z, σ = [some (V.ref kd), some (V.ref a), y, z]) ∧ Same H H' ∧ ∀ (j : Nat) (w : W), j < i → ws[j]? = some w → isRowW ks w = true) ⟨⟨_, _, rfl⟩, s1, fun j w hj _ => absurd hj (Nat.not_lt_zero _)⟩ (fun _ _ _ _ p => p.2.1) ?_ ?_)
      · rintro i x σ H3 H4 hi ⟨⟨y, z, rfl⟩, s3, ok⟩ ⟨Tp, x1, x2, rfl, nT, rfl, e3, e4⟩
        cases e3
        have s4 : Same H (upd H3 Tp (.tup [V.int (i : Nat), x2])) := s3.trans (same_new nT)
        obtain ⟨wi, hwi, his⟩ := hall.get e4
        refine ⟨Tp, _, rfl, .inl (.inl upd_same), rfl, _, _, rfl, _, _, rfl, rfl, ?_⟩
        refine ⟨_, rfl, _, rfl, x2, wi, kd, ks, rfl, his.same s4, .inl (s4 _ _ hk), _, rfl, ?_⟩
        cases e5 : isRowW ks wi with
        | false =>
          refine iteT ⟨_, rfl, fun d nd => hE (.int (i : Nat)) ?_ d _ s4 nd⟩
          rw [e2]
          have z : (ws.findIdx? fun w => !isRowW ks w) = some i := by
            rw [List.findIdx?_eq_some_iff_getElem]
            have hl : i < ws.length := (List.getElem?_eq_some_iff.mp hwi).1
            refine ⟨hl, ?_, fun j hj => ?_⟩
            · rw [(List.getElem?_eq_some_iff.mp hwi).2, e5]
              rfl
            · rw [ok j _ hj (List.getElem?_eq_getElem (Nat.lt_trans hj hl))]
              simp
          rw [z]
          rfl
        | true =>
          refine iteF ⟨⟨_, _, rfl⟩, s4, fun j w hj hw => ?_⟩
          rcases Nat.lt_succ_iff_lt_or_eq.mp hj with q | q
          · exact ok j w q hw
          · rw [q, hwi] at hw
            cases hw
            exact e5
      · rintro σ H3 ⟨q, s3, ok⟩
        refine last σ H3 q s3 fun i w hw => ok i w ?_ hw
        rw [hall.len]
        exact (List.getElem?_eq_some_iff.mp hw).1
end
end Kn
-- part Vd
set_option maxHeartbeats 8000000
namespace Kn
open PySem PySem.Spec PyProof.Rows L2 Err
abbrev sDctN : Stmt := topS 11
abbrev NDn : List Str := ["value", "fewest", "most", "key"]
theorem scDn : FnScope NDn ["value", "fewest", "most"] (defScope sDctN) := ⟨rfl, rfl, rfl, by decide +kernel, rfl, by decide +kernel, by decide +kernel⟩
def keyW : Key → W
  | .inl i => .int i
  | .inr x => .str x
def isNameK : Option Key → Bool
  | some (.inr x) => isName x
  | _ => false
def isDctN (lo hi : Int) : W → Bool
  | .dct kws => decide (lo ≤ (kws.length : Int)) && (decide ((kws.length : Int) ≤ hi) && kws.all fun p => isNameK p.1)
  | _ => false
theorem IsKV.len {H : Hp} : ∀ {vs : List (Option Key × V)} {ws : List (Option Key × W)}, IsKV H vs ws → vs.length = ws.length
  | _, _, .nil => rfl
  | _, _, .cons _ _ t => congrArg (· + 1) t.len
theorem IsKV.keys {H : Hp} : ∀ {vs : List (Option Key × V)} {ws : List (Option Key × W)}, IsKV H vs ws → vs.map (·.1) = ws.map (·.1)
  | _, _, .nil => rfl
  | _, _, .cons _ _ t => congrArg (_ :: ·) t.keys
theorem IsKV.sm {H : Hp} : ∀ {vs : List (Option Key × V)} {ws : List (Option Key × W)}, IsKV H vs ws → ∀ p ∈ vs, kSm p.1
  | _, _, .nil, p, hp => by cases hp
  | _, _, .cons hk _ t, p, hp => by
    rcases List.mem_cons.mp hp with e | e
    · rw [e]; exact hk
    · exact t.sm p e
def spName : Sp := fun vs H Q _ => ∃ v w, vs = [v] ∧ Is H v w ∧ ∀ H', Same H H' → Q (.bl (isNameW w)) H'
def spDctN : Sp := fun vs H Q _ => ∃ v w lo hi, vs = [v, .int lo, .int hi] ∧ Is H v w ∧ NF H v ∧ ∀ H', Same H H' → Q (.bl (isDctN lo hi w)) H'
theorem same_unlock {H H3 : Hp} {d : Addr} {u : HO} {od : Obj} (hd : H d = some u) (s : Same (upd H d (.frz od u)) H3) : Same H (upd H3 d u) := fun b o e => by
  by_cases h : b = d
  · rw [h, hd] at e
    rw [h, upd_same]
    exact e
  · rw [upd_ne h]
    exact s b o (by rw [upd_ne h]; exact e)
section
variable {P : Program} {w : World} {K : PySem.W.Frag} {mg : Str → Option Value} {base : Heap}
theorem ok_dctN {f f1 : Addr} {fd fd1 : FuncData} (F : Fun K "is_dict_of_names" "is_dict_of_names" sDctN f fd) (G1 : FnOk P w K mg base CX0 1 f1 fd1 ["value"] spName) (k1 : PySem.W.keepIn K (.ref f1) = true) (b1 : Binds K fd1 ["value"] []) (g1 : mg "is_name" = some (.ref f1))
    (mi : mg "isinstance" = none) (m1 : mg "dict" = none) (ml : mg "len" = none) (ma : mg "all" = none) : FnOk P w K mg base CX0 2 f fd ["value", "fewest", "most"] spDctN := by
  have S := scDn
  refine F.ok S (fun vs H Q E h => ?_) (fun cdv A outer s H vs Q E hr h => ?_)
  · obtain ⟨v, u, lo, hi, rfl, _⟩ := h
    rfl
  · obtain ⟨v, u, lo, hi, rfl, hv, nf, q⟩ := h
    refine ⟨_, pss_cons (ps_if (PW.pt (pw_or (pt_not (pt_val (pe_callB call_isi (by rfl) mi PyProof.Rows.boot_isinstance (pa_cons (pv 0) (pa_cons (pe_bltn (v := .ty "dict") (by rfl) m1 (by decide +kernel) rfl) pa_nil)))))
        (pw_or1 (pt_not (pt_chain op_le op_le (pv 1) (pe_callB call_lenD (by rfl) ml PySem.boot_len (pa_cons (pv 0) pa_nil)) (pv 2)))))) (pss_one (ps_ret pe_bl)) pss_nil)
      (pss_one (ps_lock (ps_ret (pe_callB (cr_all (by rfl)) (by rfl) ma (by decide +kernel) (pa_cons (pe_lc (own := [("key", 3)]) (g := gName 3) rfl S.nd (pi_keys (pv 0)) (blkOk_by (N := NDn) (sc := defScope sDctN) (by decide +kernel)) (fun _ _ _ _ _ => pg_name (i := 3) S.nd rfl (.inl rfl)) (fun _ _ _ _ _ => pts_nil)
        (fun _ _ _ _ _ => pe_call G1 hr (by rfl) g1 k1 b1 .nil pass0 (pa_cons (pv 3) pa_nil))) pa_nil))))), ?_⟩
    refine ⟨_, rfl, v, .ty "dict", .type (tyN u), .type "dict", isTy "dict" u, rfl, .ty _, hv.ty, Is.kit (by decide), _, rfl, ?_⟩
    have hs : (∃ kws, u = .dct kws) ∨ (isTy "dict" u = false ∧ isDctN lo hi u = false) := by
      cases u with
      | dct kws => exact .inl ⟨kws, rfl⟩
      | _ => exact .inr ⟨by kernel_rfl, rfl⟩
    rcases hs with ⟨kws, rfl⟩ | ⟨e1, e2⟩
    · cases hv with
      | @dct a kvs _ hz hd hkv =>
        obtain ⟨ks, hd, rfl⟩ := hd
        have hd : H a = some (.dK ks) := by
          rcases hd with hd | ⟨o, hd⟩
          · exact hd
          · exact absurd hd (nf a o _ rfl)
        rw [List.length_map] at hz
        have e : isTy "dict" (.dct kws) = true := by kernel_rfl
        have lk : ks.length = kws.length := by
          have z := hkv.len
          rw [List.length_map] at z
          exact z
        have ev : isDctN lo hi (.dct kws) = (decide (lo ≤ (kws.length : Int)) && (decide ((kws.length : Int) ≤ hi) && kws.all fun p => isNameK p.1)) := rfl
        have fin : isDctN lo hi (.dct kws) = false → Q (.bl false) H := fun e => by
          have z := q H (Same.refl _)
          rw [e] at z
          exact z
        rw [e]
        refine iteF ⟨_, rfl, _, rfl, a, ks, rfl, hd, _, _, rfl, rfl, _, rfl, ?_⟩
        rw [lk]
        cases e1 : decide (lo ≤ (kws.length : Int)) with
        | false => exact iteF ⟨_, rfl, iteT (fin (by rw [ev, e1]; rfl))⟩
        | true =>
          refine iteT ⟨_, rfl, _, _, rfl, rfl, _, rfl, ?_⟩
          cases e2 : decide ((kws.length : Int) ≤ hi) with
          | false => exact iteT (fin (by rw [ev, e1, e2]; rfl))
          | true =>
            rw [e1, e2] at ev
            refine iteF ⟨a, _, hd, trivial, fun od => ?_⟩
            refine ⟨_, rfl, a, od, rfl, .inl ⟨ks, upd_same, fun D nD => lc_it (D := D) walk_keys (PB (upd H a (.frz od (.dK ks))) D (kws.map fun p => isNameK p.1)) (PB.zero nD) (fun i H' _ p => p.1 _ _ upd_same) ?_ ?_⟩⟩
            · rintro i x H3 H4 hi p ⟨rfl, k, vv, hk, rfl⟩
              refine ⟨rfl, ?_⟩
              dsimp only [tYes]
              rw [if_pos rfl]
              have hmem : (some k, vv) ∈ ks.map (fun p : Key × V => (some p.1, p.2)) := List.mem_map.mpr ⟨(k, vv), List.mem_of_getElem? hk, rfl⟩
              have hsm := hkv.sm _ hmem
              have hkw : (kws.map (·.1))[i]? = some (some k) := by
                rw [← hkv.keys, List.map_map, List.getElem?_map, hk]
                rfl
              have hb : (kws.map fun p => isNameK p.1)[i]? = some (isNameW (keyW k)) := by
                have e3 : (kws.map fun p => isNameK p.1) = (kws.map (·.1)).map isNameK := by rw [List.map_map]; rfl
                rw [e3, List.getElem?_map, hkw]
                cases k <;> rfl
              have hisk : Is H4 (kV k) (keyW k) := by
                cases k with
                | inl i => exact .int i
                | inr x => exact .str x hsm.1 hsm.2
              exact ⟨_, rfl, kV k, keyW k, rfl, hisk, fun H5 s5 => p.step s5 nD (by omega) hb⟩
            · intro H3 p
              have hl : (kws.map fun p => isNameK p.1).length = ks.length := by rw [List.length_map, lk]
              rw [← hl] at p
              refine ⟨D, _, rfl, SqL.of p.all, p.1 _ _ upd_same, ?_⟩
              have z := q _ (same_unlock hd p.1)
              rw [ev] at z
              rw [show (kws.map fun p => isNameK p.1).all id = kws.all fun p => isNameK p.1 by rw [List.all_map]; rfl]
              exact z
    · rw [e1]
      have z := q H (Same.refl _)
      rw [e2] at z
      exact iteT z
end
end Kn
-- part SRules
set_option maxHeartbeats 4000000
/-! Rules: zip of two tuples as a walk; tuples as data compared by < ; sorted of a list of tuples as data, and of a dict whose keys are tuples. -/
namespace L2
open PySem PySem.Spec PyProof.Rows PySem.W
section
variable {P : Program} {w : World} {K : PySem.W.Frag} {mg : Str → Option Value} {base : Heap} {CX : CXT} {k : Nat} {f : Addr} {fd : FuncData} {ps : List Str} {sp1 sp2 : Sp}
def spOr (a b : Sp) : Sp := fun vs H Q E => a vs H Q E ∨ b vs H Q E
theorem fn_or (F1 : FnOk P w K mg base CX k f fd ps sp1) (F2 : FnOk P w K mg base CX k f fd ps sp2) : FnOk P w K mg base CX k f fd ps (spOr sp1 sp2) := by
  refine ⟨fun vs H Q E h => ?_, fun A outer s H args us vs Q E hr e0 hb hv h => ?_⟩
  · rcases h with h | h
    · exact F1.len vs H Q E h
    · exact F2.len vs H Q E h
  · rcases h with h | h
    · exact F1.run A outer s H args us vs Q E hr e0 hb hv h
    · exact F2.run A outer s H args us vs Q E hr e0 hb hv h
end
section
variable {K : PySem.W.Frag} {a b : Addr} {xs ys : List V}
theorem walk_zipT {n : Nat} (hn : n = min xs.length ys.length) : Walk (RZ.ItzT K a b) n (fun H => SqT K H a xs ∧ SqT K H b ys) (YPair (fun i => xs[i]?) (fun i => ys[i]?)) := by
  subst hn
  constructor
  · intro i H hi q
    have l1 : i < xs.length := by omega
    have l2 : i < ys.length := by omega
    exact ⟨xs, ys, xs[i], ys[i], q.1, q.2, List.getElem?_eq_getElem l1, List.getElem?_eq_getElem l2⟩
  · intro H q
    exact ⟨xs, ys, q.1, q.2, by omega⟩
  · intro i H v H' _ q y
    obtain ⟨T, x, z, e1, e2, e3, e4, e5⟩ := y
    exact ⟨T, x, z, e1, e2, e3, e4 xs q.1, e5 ys q.2⟩
end
/-- x < y, both data of one make -/
def rLtDp (K : PySem.W.Frag) : R2 := fun x y H Q => ∃ d e, Dp K H x d ∧ Dp K H y e ∧ alike d e = true ∧ d ≠ .none ∧ d.depth ≤ 8 ∧ Q (.bl (dataLt d e)) H
theorem op_ltDp {X : Cx} (hu : X.A.units + 64 < cLine) : OpR X (compareOp .Lt) (rLtDp X.K) := by
  intro pins s σ H x y v u Q I rx ry h
  obtain ⟨d, e, hd, he, al, nn, dp, q⟩ := h
  obtain ⟨as, r1⟩ := Dp.reads I d x v hd rx
  obtain ⟨bs, r2⟩ := Dp.reads I e y u he ry
  have z : wpAny (model X.prog X.w) X.A (compareOp .Lt v u) (EP X pins σ Q) X.xe s :=
    rcLt_alike d e X.A s v u as bs r1 r2 al nn (Nat.lt_of_le_of_lt (Nat.add_le_add_left (Nat.le_trans (Nat.min_le_left _ _) (Nat.le_trans dp (by decide))) _) hu) X.prog X.w X.xe _ ⟨.bl _, H, I, rfl, q⟩
  exact z
/-- values and what they stand for, in one order -/
theorem each_vals {D : Type} : ∀ {bs : List (V × D)} {us : List Value}, Vals (bs.map (·.1)) us → EachIs (fun u b => RelV b.1 u) us bs
  | [], us, r => by
    cases r
    exact .nil
  | b :: bs, us, r => by
    cases r with
    | cons h t => exact .cons h (each_vals t)
theorem vals_each {D : Type} : ∀ {bs : List (V × D)} {us : List Value}, EachIs (fun u b => RelV b.1 u) us bs → Vals (bs.map (·.1)) us
  | _, _, .nil => .nil
  | _, _, .cons h t => .cons h (vals_each t)
theorem each_reads {X : Cx} {pins : List (Addr × Obj)} {σ : St} {H : Hp} {s : Shared} (I : Inv X pins σ H s) : ∀ {bs : List (V × PyData)} {us : List Value}, Vals (bs.map (·.1)) us → DpAll X.K H (bs.map (·.1)) (bs.map (·.2)) → EachIs (fun u b => ∃ as, Reads s.heap u (Prod.snd b) as) us bs
  | [], us, r, _ => by
    cases r
    exact .nil
  | b :: bs, us, r, h => by
    cases r with
    | cons r1 r2 =>
      cases h with
      | cons h1 h2 => exact .cons (Dp.reads I _ _ _ h1 r1) (each_reads I r2 h2)
/-- sorted of a list whose items are data of one make -/
def rSortDp (K : PySem.W.Frag) : List V → Hp → VK → Prop := fun vs H Q => ∃ (a : Addr) (bs : List (V × PyData)), vs = [.ref a] ∧ SqL K H a (bs.map (·.1)) ∧ DpAll K H (bs.map (·.1)) (bs.map (·.2)) ∧ AllAlike (bs.map (·.2)) ∧ Sortable (bs.map (·.2)) ∧
  (∀ b ∈ bs, b.2.depth ≤ 8) ∧ ∀ p, H p = none → Q (.ref p) (upd H p (.lst ((bs.mergeSort (dataLe false (·.2))).map (·.1))))
theorem cr_sortDp {X : Cx} (hu : X.A.units + 64 < cLine) : CallR X (.builtin "sorted") (rSortDp X.K) := by
  intro pins s σ H vs us Q I r h
  obtain ⟨a, bs, rfl, hs, hd, al, so, dp, q⟩ := h
  rw [Vals.ref1 r]
  obtain ⟨its, rv, hl, hz⟩ := I.list hs
  have len : its.length = bs.length := by rw [← rv.length, List.length_map]
  have hz2 : bs.length ≤ sizeLine := by rw [List.length_map] at hz; exact hz
  refine PySem.W.sorted_data (R := fun u b => RelV b.1 u) (enc := (·.2)) hl.isList (each_vals rv) (each_reads I rv hd) al so hz2 (fun b hb => ?_) fun out e1 e2 => ?_
  · have := dp b hb
    omega
  · have r2 := vals_each e2
    refine ⟨.ref _, _, I.laid (t' := s.toks) (o := .lst ((bs.mergeSort (dataLe false (·.2))).map (·.1))) (fun b o e => sortedAll_old e) (Nat.le_succ _) ?_, rfl, q _ (I.hok.fresh (Nat.le_succ _))⟩
    obtain ⟨n, hn⟩ := sortedAll_at s.heap its out.toArray
    exact ⟨by rw [List.length_map, List.length_mergeSort]; exact hz2, out, n, r2, hn⟩
theorem each_back {α β γ : Type} {R : α → γ → Prop} {f : β → γ} : ∀ {us : List α} {bs : List β}, EachIs R us (bs.map f) → EachIs (fun u b => R u (f b)) us bs
  | _, [], h => by
    cases h
    exact .nil
  | _, b :: bs, h => by
    cases h with
    | cons h t => exact .cons h (each_back t)
theorem each_forth {α β γ : Type} {R : α → γ → Prop} {f : β → γ} : ∀ {us : List α} {bs : List β}, EachIs (fun u b => R u (f b)) us bs → EachIs R us (bs.map f)
  | _, _, .nil => .nil
  | _, _, .cons h t => .cons h (each_forth t)
/-! ### a dict whose keys are tuples -/
def keyD : Key → PyData
  | .inl i => .int i
  | .inr x => .str x
abbrev keyT (k : List Key) : PyData := .tuple (k.map keyD)
theorem dp_key {K : PySem.W.Frag} {H : Hp} : ∀ k : Key, Dp K H (kV k) (keyD k)
  | .inl i => .int i
  | .inr x => .str x
theorem dp_keys {K : PySem.W.Frag} {H : Hp} : ∀ ks : List Key, DpAll K H (ks.map kV) (ks.map keyD)
  | [] => .nil
  | k :: ks => .cons (dp_key k) (dp_keys ks)
theorem depth_keys : ∀ ks : List Key, PyData.depthAll (ks.map keyD) = 0
  | [] => rfl
  | k :: ks => by
    have e : PyData.depthAll ((k :: ks).map keyD) = max (keyD k).depth (PyData.depthAll (ks.map keyD)) := rfl
    rw [e, depth_keys ks]
    cases k <;> rfl
theorem paired_zip {H : Hp} : ∀ {kvs : List (List Key × V)} {as : List Addr}, IsKeys H kvs as → ((kvs.map (·.1)).zip as).map (·.1) = kvs.map (·.1) ∧ ((kvs.map (·.1)).zip as).map (·.2) = as ∧ ∀ b ∈ (kvs.map (·.1)).zip as, H b.2 = some (.tup (b.1.map kV))
  | _, _, .nil => ⟨rfl, rfl, fun b hb => by cases hb⟩
  | _, _, .cons h t => by
    obtain ⟨e1, e2, e3⟩ := paired_zip t
    refine ⟨congrArg (_ :: ·) e1, congrArg (_ :: ·) e2, fun b hb => ?_⟩
    rcases List.mem_cons.mp hb with e | e
    · rw [e]; exact h
    · exact e3 b e
/-- sorted of such a dict: its keys' own tuples, in a new list -/
def rSortDT : List V → Hp → VK → Prop := fun vs H Q => ∃ (d : Addr) (kvs : List (List Key × V)), vs = [.ref d] ∧ Rd H d (.dT kvs) ∧ AllAlike (kvs.map fun p => keyT p.1) ∧ (∀ p ∈ kvs, p.1 ≠ []) ∧
  ∀ (bs : List (List Key × Addr)) (p : Addr), bs.map (·.1) = kvs.map (·.1) → (∀ b ∈ bs, H b.2 = some (.tup (b.1.map kV))) → H p = none → Q (.ref p) (upd H p (.lst ((bs.mergeSort (dataLe false fun b => keyT b.1)).map fun b => .ref b.2)))
theorem cr_sortDT {X : Cx} (hc : X.calm = true) (hu : X.A.units + 64 < cLine) : CallR X (.builtin "sorted") rSortDT := by
  intro pins s σ H vs us Q I r h
  obtain ⟨d, kvs, rfl, hd, al, ne, q⟩ := h
  rw [Vals.ref1 r]
  obtain ⟨z, hs, ks, pr, o, es, ep, ho, hx, hdt, he, hn⟩ := (show ObjOk X.prog X.w H s.heap d (.dT kvs) from hd.ok I.hok)
  have l1 : es.size = ks.length := size_of_entries he
  have l2 : kvs.length = ks.length := Paired.length pr
  have hk0 : IsKeys H kvs (ks.map fun x => x.2.1) := isKeys_of pr
  obtain ⟨z1, z2, z3⟩ := paired_zip hk0
  generalize hbs : (kvs.map (·.1)).zip (ks.map fun x => x.2.1) = bs at z1 z2 z3
  have lb : bs.length = ks.length := by
    have := congrArg List.length z2
    rw [List.length_map, List.length_map] at this
    exact this
  refine Calls.call_function_entry kind_sorted plain_sorted entry_sorted (args_sorted1 _) ?_
  unfold Builtin.«sorted»
  refine wpAny_bind (m := checkCount "sorted" 1 1 _) (wpAny_pure ?_)
  refine wpAny_bind (kdu_collect (A := X.A.in1) (kdl_raw hs hx hdt) (I.ok.hd hc) ho (by omega) fun h' tk acc kp it => ?_)
  have ea : acc.toList = (bs.map (·.2)).map Value.ref := by
    rw [z2]
    have hl : acc.toList.length = ks.length := by rw [Array.length_toList, it.1]; exact l1
    apply List.ext_getElem?
    intro j
    rw [List.map_map, List.getElem?_map]
    cases hj : acc.toList[j]? with
    | none =>
      have y := List.getElem?_eq_none_iff.mp hj
      rw [List.getElem?_eq_none (by omega)]
      rfl
    | some v =>
      obtain ⟨en, hen, hv⟩ := it.2 j v (by rw [← Array.getElem?_toList]; exact hj)
      have qe := entry_at he j
      rw [hen] at qe
      cases hb : ks[j]? with
      | none =>
        rw [hb] at qe
        cases qe
      | some k =>
        rw [hb] at qe
        have e2 := Option.some.inj qe
        rw [hv, e2]
        rfl
  have I1 : Inv X pins σ H { s with heap := h', toks := tk } := I.kept kp
  have rv : Vals ((bs.map fun b => (V.ref b.2, b.1)).map (·.1)) acc.toList := by
    rw [ea, List.map_map]
    have e : bs.map (Prod.fst ∘ fun b : List Key × Addr => (V.ref b.2, b.1)) = (bs.map (·.2)).map V.ref := by rw [List.map_map]; rfl
    rw [e]
    exact vals_refs _
  have hal : acc.toList.length ≤ sizeLine := by rw [ea, List.length_map, List.length_map]; omega
  refine wpAny_bind (wpAny_newList ?_ hal)
  have hoL : (h'.push (seqObj "list" acc.toList.toArray 0)).get? h'.objs.size = some (seqObj "list" acc.toList.toArray 0) := Heap.get?_push_size _ rfl
  show wpAny _ _ _ _ _ { s with heap := h'.push (seqObj "list" acc.toList.toArray 0), toks := tk }
  apply wpAny_bind
  apply wpAny_holding
  have old : ∀ b o, h'.get? b = some o → b ≠ h'.objs.size := fun b o e => Nat.ne_of_lt (Heap.lt_size e)
  have kp2 : ∀ b o, h'.get? b = some o → (sortingHeap (h'.push (seqObj "list" acc.toList.toArray 0)) h'.objs.size acc.toList).get? b = some o := fun b o e => sortingHeap_old (old b o e) (Heap.get?_push_of_some _ e)
  have dpA : ∀ l : List (List Key × Addr), (∀ b ∈ l, H b.2 = some (.tup (b.1.map kV))) → DpAll X.K H ((l.map fun b => (V.ref b.2, keyT b.1)).map (·.1)) ((l.map fun b => (V.ref b.2, keyT b.1)).map (·.2)) := fun l => by
    induction l with
    | nil => exact fun _ => .nil
    | cons b l ih => exact fun hl => .cons (.tup (.inl (.inl (hl b (List.mem_cons_self ..)))) (dp_keys _)) (ih fun c hc => hl c (List.mem_cons_of_mem _ hc))
  have rv2 : Vals ((bs.map fun b => (V.ref b.2, keyT b.1)).map (·.1)) acc.toList := by
    rw [List.map_map] at rv ⊢
    exact rv
  have rd0 := each_reads I1 rv2 (dpA bs z3)
  have rd1 : EachIs (fun u (b : List Key × Addr) => ∃ as, Reads (sortingHeap (h'.push (seqObj "list" acc.toList.toArray 0)) h'.objs.size acc.toList) u (keyT b.1) as) acc.toList bs :=
    (each_back (R := fun u (b : V × PyData) => ∃ as, Reads h' u b.2 as) (f := fun b : List Key × Addr => (V.ref b.2, keyT b.1)) rd0).mono fun u b ⟨as, r⟩ => ⟨as, PyProof.Rows.Reads.keeps kp2 r⟩
  have ev : EachIs (fun u (b : List Key × Addr) => RelV (V.ref b.2) u) acc.toList bs := each_back (f := fun b : List Key × Addr => (V.ref b.2, keyT b.1)) (each_vals rv2)
  have em : bs.map (fun b => keyT b.1) = kvs.map fun p => keyT p.1 := by
    have e1 : bs.map (fun b => keyT b.1) = (bs.map (·.1)).map fun k => keyT k := by rw [List.map_map]; rfl
    rw [e1, z1, List.map_map]
    rfl
  have al2 : AllAlike (bs.map fun b => keyT b.1) := by rw [em]; exact al
  have so2 : Sortable (bs.map fun b => keyT b.1) := .inl fun d hd => by
    rw [em] at hd
    obtain ⟨p, hp, e⟩ := List.mem_map.mp hd
    cases hq : p.1 with
    | nil => exact absurd hq (ne p hp)
    | cons k ks =>
      rw [← e, hq]
      exact ⟨_, _, rfl⟩
  refine wpAny_call_entry slot_list_sort ⟨_, hoL, rfl⟩ entry_list_sort (list_sort_vals (κ := dataKind (sortingHeap (h'.push (seqObj "list" acc.toList.toArray 0)) h'.objs.size acc.toList) (bs.map fun b => keyT b.1)) hoL
    (SortsAt.data (s := { s with heap := sortingHeap (h'.push (seqObj "list" acc.toList.toArray 0)) h'.objs.size acc.toList, toks := tk }) (each_map (R := fun v d => ∃ as, Reads (sortingHeap (h'.push (seqObj "list" acc.toList.toArray 0)) h'.objs.size acc.toList) v d as) (fun b : List Key × Addr => keyT b.1) rd1) al2 so2 (bound_map fun b _ => ?_)) hal ⟨.none, rfl, ?_⟩) (args_list_sort _)
  · have e : (keyT b.1).depth = 1 := by
      show PyData.depthAll (b.1.map keyD) + 1 = 1
      rw [depth_keys]
    rw [e]
    show X.A.in1.in1.units + 1 < cLine
    have y : X.A.in1.in1.units = X.A.units + 2 := rfl
    omega
  · have out := sortVals_data (R := fun u (b : List Key × Addr) => RelV (V.ref b.2) u) (enc := fun b => keyT b.1) false ev rd1 al2
    have r2 : Vals ((bs.mergeSort (dataLe false fun b => keyT b.1)).map fun b => V.ref b.2) (sortVals (dataKind (sortingHeap (h'.push (seqObj "list" acc.toList.toArray 0)) h'.objs.size acc.toList) (bs.map fun b => keyT b.1)) false acc.toList acc.toList) := by
      have y := vals_each (bs := (bs.mergeSort (dataLe false fun b => keyT b.1)).map fun b => (V.ref b.2, b.1)) (each_forth (f := fun b : List Key × Addr => (V.ref b.2, b.1)) out)
      rw [List.map_map] at y
      exact y
    obtain ⟨n, hn2⟩ := sortedHeap_at (vs := acc.toList) (out := (sortVals (dataKind (sortingHeap (h'.push (seqObj "list" acc.toList.toArray 0)) h'.objs.size acc.toList) (bs.map fun b => keyT b.1)) false acc.toList acc.toList).toArray) hoL
    refine wpAny_pure ⟨_, rfl, .ref h'.objs.size, upd H h'.objs.size (.lst ((bs.mergeSort (dataLe false fun b => keyT b.1)).map fun b => .ref b.2)), I1.laid (t' := tk) (fun b o e => ?_) (Nat.le_refl _) ⟨?_, _, n, r2, hn2⟩, rfl, q bs _ z1 z3 (I1.hok.fresh (Nat.le_refl _))⟩
    · rw [sortedHeap_old (old b o e) (by rw [size_push']; exact Nat.lt_succ_of_lt (Heap.lt_size e))]
      exact Heap.get?_push_of_some _ e
    · rw [List.length_map, List.length_mergeSort]
      omega
/-! ### a dict comprehension that is given to a name -/
section
variable {X : Cx}
theorem ps_setDc {i : Nat} {y : Str} {py : Pos} {kx vx tg iter : Expr} {ifs : List Expr} {scope : Scope} {own : List (Str × Nat)} {pos spos : Pos} {wi : TI} {g : TG} {tt : TT} {tk tv : TE} (hc : X.calm = true) (hN : X.N.Nodup) (hy : X.N[i]? = some y) (hyl : X.env.scope.names.lookup y = some .local)
    (hsw : swapsWith (.DictComp kx vx [⟨tg, iter, ifs, 0⟩] scope pos) (some (.Name y py)) spos.line X.env = pure true) (hi : PI X tg iter wi) (ok : BlkOk X.N X.env.scope scope own)
    (hg : ∀ (s : Shared) (H : Hp) (C : Addr) (cl : List (Str × Addr)) (fp : List Addr), PG (X.blk s H scope (compEnvC scope cl C X.env) fp) tg g) (ht : ∀ (s : Shared) (H : Hp) (C : Addr) (cl : List (Str × Addr)) (fp : List Addr), PTs (X.blk s H scope (compEnvC scope cl C X.env) fp) ifs tt)
    (hk : ∀ (s : Shared) (H : Hp) (C : Addr) (cl : List (Str × Addr)) (fp : List Addr), PE (X.blk s H scope (compEnvC scope cl C X.env) fp) kx tk)
    (he : ∀ (s : Shared) (H : Hp) (C : Addr) (cl : List (Str × Addr)) (fp : List Addr), PE (X.blk s H scope (compEnvC scope cl C X.env) fp) vx tv) (hs : ∀ x, foldedSetIterable iter X.env x = pure x := by intro _; rfl) :
    PS X (.Assign [.Name y py] (.DictComp kx vx [⟨tg, iter, ifs, 0⟩] scope pos) spos) (tAsg (tDc wi g tt tk tv (own.map (·.2))) (gName i)) := by
  refine ⟨fun pins s σ H D I h => ?_⟩
  rw [exec_Assign_Name_used _ _ _ _ hsw]
  refine wpAny_bind (wpAny_standAt (wpAny_bind ?_))
  show wpAny _ X.A (do let _ ← comprehension (.DictComp kx vx [⟨tg, iter, ifs, 0⟩] scope pos) scope X.env (firstIterPos [⟨tg, iter, ifs, 0⟩] pos) newDict false (eval iter X.env) (some (assign (.Name y py) X.env))) _ _ s
  have h2 : tDc wi g tt tk tv (own.map (·.2)) σ H (fun x H1 => gName i x σ H1 D.nx) := h
  refine wpAny_bind (thn (dc_core (Qf := fun _ s' => SP X pins D .next s') hc hN I hi ok hg ht hk he hs h2 fun L C s' m H' I' q hn f => ?_) fun _ s' hq => wpAny_pure (wpAny_pure hq))
  show wpAny _ _ (assign (.Name y py) X.env (.ref L)) _ _ _
  obtain ⟨f0, f1, f2, f3, f4, f5⟩ := f
  refine wpAny_assign_Name (store_ok2 (v := V.ref L) I' hN hy (.inl hyl) rfl (fun s2 I2 ⟨a, sb, ha⟩ => ?_) (.inr hyl))
  have ne : C ≠ a := fun e => by
    rcases ha with z | z
    · exact f1 (e.trans z)
    · exact f4 y a z e.symm
  exact ⟨m, hn.sameBut sb ne, fun h3 sb3 => ⟨_, H', I2.turned (t' := s2.toks) (fun b o hb e => (sb3.2 b hb).trans e) f0 f1 f3 f4 f5, q⟩⟩
theorem sw_trueD {kx vx : Expr} {gs : List Comprehension} {scope : Scope} {pos py : Pos} {y : Str} {l : Nat} {env : Env} (hk : env.scope.kind = .function) (hy : env.scope.names.lookup y = some .local) (hl : (py.line == pos.line) = true)
    (ha : (scope.names.any fun (n, k) => n == y && (k == .local || k == .cell)) = false) : swapsWith (.DictComp kx vx gs scope pos) (some (.Name y py)) l env = pure true := by
  have k1 : env.kindOf y = some .local := hy
  have k2 : env.blockKind = .function := by
    unfold Env.blockKind
    rw [hk]
    rfl
  unfold swapsWith
  simp only [k2, k1, ha, Expr.pos, hl]
  rfl
end
end L2
-- part STerm
set_option maxHeartbeats 8000000
namespace Kn
open PySem PySem.Spec PyProof.Rows L2 Err
abbrev sTerm : Stmt := topS 16
abbrev NTe : List Str := ["variables", "value", "name", "power", "coefficient"]
theorem scTe : FnScope NTe ["variables", "value"] (defScope sTerm) := ⟨rfl, rfl, rfl, by decide +kernel, rfl, by decide +kernel, by decide +kernel⟩
def isEmptyW : W → Bool
  | .str x => decide (x = "")
  | _ => false
def nzW : W → Bool
  | .int i => !decide (i = 0)
  | _ => true
def isTermW (ks : List (Key × V)) : W → Bool
  | .tup [a, b, c] => (isEmptyW a || isKeyOf ks a) && (withinW 0 2 b && (withinW (-9) 9 c && nzW c))
  | _ => false
/-- the first of three is a text -/
def TermIn : W → Prop
  | .tup [a, _, _] => ∃ x, a = .str x
  | _ => True
def spTerm : Sp := fun vs H Q _ => ∃ v w kd ks, vs = [.ref kd, v] ∧ Is H v w ∧ Rd H kd (.dK ks) ∧ TermIn w ∧ Q (.bl (isTermW ks w)) H
section
variable {P : Program} {w : World} {K : PySem.W.Frag} {mg : Str → Option Value} {base : Heap}
theorem ok_term {f f1 f2 f3 : Addr} {fd fd1 fd2 fd3 : FuncData} (F : Fun K "is_term" "is_term" sTerm f fd) (G1 : FnOk P w K mg base CX0 1 f1 fd1 ["value", "many"] spTupOf) (k1 : PySem.W.keepIn K (.ref f1) = true) (b1 : Binds K fd1 ["value", "many"] []) (g1 : mg "is_tuple_of" = some (.ref f1))
    (G2 : FnOk P w K mg base CX0 1 f2 fd2 ["value", "names"] spKeyOf) (k2 : PySem.W.keepIn K (.ref f2) = true) (b2 : Binds K fd2 ["value", "names"] []) (g2 : mg "is_key_of" = some (.ref f2))
    (G3 : FnOk P w K mg base CX0 2 f3 fd3 ["value", "least", "greatest"] spWithin) (k3 : PySem.W.keepIn K (.ref f3) = true) (b3 : Binds K fd3 ["value", "least", "greatest"] []) (g3 : mg "is_within" = some (.ref f3)) : FnOk P w K mg base CX0 3 f fd ["variables", "value"] spTerm := by
  have S := scTe
  refine F.ok S (fun vs H Q E h => ?_) (fun cdv A outer s H vs Q E hr h => ?_)
  · obtain ⟨v, w, kd, ks, rfl, _⟩ := h
    rfl
  · obtain ⟨v, w, kd, ks, rfl, hv, hk, ht, q⟩ := h
    have hr1 := hr.mono (show 1 ≤ 2 by decide)
    refine ⟨_, pss_cons (ps_if (pt_not (pt_val (pe_call G1 hr1 (by rfl) g1 k1 b1 .nil pass0 (pa_cons (pv 1) (pa_cons pe_int pa_nil))))) (pss_one (ps_ret pe_bl)) pss_nil)
      (pss_cons (ps_asg (pv 1) (pg_tup rfl (pgs_cons (pg_name (i := 2) S.nd rfl (.inl rfl)) (pgs_cons (pg_name (i := 3) S.nd rfl (.inl rfl)) (pgs_cons (pg_name (i := 4) S.nd rfl (.inl rfl)) pgs_nil)))))
      (pss_cons (ps_if (PW.pt (pw_and (pt_cmpR op_ne (pv 2) pe_str (nomark _)) (pw_and1 (pt_not (pt_val (pe_call G2 hr1 (by rfl) g2 k2 b2 .nil pass0 (pa_cons (pv 2) (pa_cons (pv 0) pa_nil)))))))) (pss_one (ps_ret pe_bl)) pss_nil)
      (pss_one (ps_ret (pe_and (pe_call G3 hr (by rfl) g3 k3 b3 .nil pass0 (pa_cons (pv 3) (pa_cons pe_int (pa_cons pe_int pa_nil))))
        (pe_and (pe_call G3 hr (by rfl) g3 k3 b3 .nil pass0 (pa_cons (pv 4) (pa_cons (pe_un un_neg pe_int) (pa_cons pe_int pa_nil)))) (pe_one (pe_cmpR op_ne (pv 4) pe_int (nomark _))))))))), ?_⟩
    refine ⟨_, rfl, v, w, 3, rfl, hv, _, rfl, ?_⟩
    have hs : (∃ a b c, w = .tup [a, b, c]) ∨ (isTupOf 3 w = false ∧ isTermW ks w = false) := by
      cases w with
      | tup ws =>
        match ws with
        | [] => exact .inr ⟨rfl, rfl⟩
        | [_] => exact .inr ⟨rfl, rfl⟩
        | [_, _] => exact .inr ⟨rfl, rfl⟩
        | [a, b, c] => exact .inl ⟨a, b, c, rfl⟩
        | a :: b :: c :: d :: r => exact .inr ⟨show decide (((a :: b :: c :: d :: r).length : Int) = 3) = false from decide_eq_false (by simp only [List.length_cons]; omega), rfl⟩
      | _ => exact .inr ⟨rfl, rfl⟩
    rcases hs with ⟨a, b, c, rfl⟩ | ⟨e1, e2⟩
    · cases hv with
      | @tup p xs _ hz e t =>
        cases t with
        | @cons va _ xs _ ha t =>
        cases t with
        | @cons vb _ xs _ hb t =>
        cases t with
        | @cons vc _ xs _ hc t =>
        cases t
        obtain ⟨x, rfl⟩ := ht
        have e0 : isTermW ks (.tup [.str x, b, c]) = ((decide (x = "") || isKeyOf ks (.str x)) && (withinW 0 2 b && (withinW (-9) 9 c && nzW c))) := rfl
        refine iteF ?_
        refine ⟨_, rfl, p, _, rfl, .inl e, rfl, va, _, rfl, vb, _, rfl, vc, _, rfl, ?_⟩
        cases ha
        refine ⟨rfl, ?_⟩
        have go : (isEmptyW (.str x) || isKeyOf ks (.str x)) = true → (tRet (tAndV (tCall spWithin [] E0 (tCons (tVar 3) (tCons (tC (V.int 0)) (tCons (tC (V.int 2)) tNil)))) (tAndV (tCall spWithin [] E0 (tCons (tVar 4) (tCons (tUn (rU fun i => V.int (-i)) (tC (V.int 9))) (tCons (tC (V.int 9)) tNil)))) (tOp rNe (tVar 4) (tC (V.int 0)))))) { nx := fun x H' => Q V.non H', rt := Q } [some (.ref kd), some (.ref p), some (.str x), some vb, some vc] H := by
          intro en
          have e1 : isTermW ks (.tup [.str x, b, c]) = (withinW 0 2 b && (withinW (-9) 9 c && nzW c)) := by
            rw [e0]
            show ((isEmptyW (.str x) || isKeyOf ks (.str x)) && _) = _
            rw [en]
            rfl
          rw [e1] at q
          refine ⟨_, rfl, vb, b, 0, 2, rfl, hb, _, rfl, ?_⟩
          cases e2 : withinW 0 2 b with
          | false =>
            rw [e2] at q
            exact iteF q
          | true =>
            rw [e2] at q
            refine iteT ⟨_, rfl, _, rfl, vc, c, -9, 9, rfl, hc, _, rfl, ?_⟩
            cases e3 : withinW (-9) 9 c with
            | false =>
              rw [e3] at q
              exact iteF q
            | true =>
              rw [e3] at q
              cases hc with
              | int i =>
                have e4 : decide (V.int i = V.int 0) = decide (i = 0) := by
                  by_cases h : i = 0
                  · rw [decide_eq_true h, decide_eq_true (by rw [h])]
                  · rw [decide_eq_false h, decide_eq_false fun z => h (V.int.inj z)]
                refine iteT ⟨_, rfl, rfl, ?_⟩
                rw [e4]
                exact q
              | _ => cases e3
        refine ⟨_, rfl, rfl, _, rfl, ?_⟩
        have e5 : decide (V.str x = V.str "") = isEmptyW (.str x) := by
          show _ = decide (x = "")
          by_cases h : x = ""
          · rw [decide_eq_true h, decide_eq_true (by rw [h])]
          · rw [decide_eq_false h, decide_eq_false fun z => h (V.str.inj z)]
        rw [show decide (V.str x = V.str (Str.ofString "")) = isEmptyW (.str x) from e5]
        cases e6 : isEmptyW (.str x) with
        | true => exact iteF (iteF (go (by rw [e6]; rfl)))
        | false =>
          refine iteT ⟨_, rfl, _, rfl, .str x, .str x, kd, ks, rfl, .str x ‹_› ‹_›, hk, _, rfl, ?_⟩
          cases e7 : isKeyOf ks (.str x) with
          | true => exact iteF (go (by rw [e7, Bool.or_true]))
          | false =>
            have e8 : isTermW ks (.tup [.str x, b, c]) = false := by
              rw [e0]
              show ((isEmptyW (.str x) || isKeyOf ks (.str x)) && _) = _
              rw [e6, e7]
              rfl
            rw [e8] at q
            exact iteT q
    · rw [e1]
      rw [e2] at q
      exact iteT q
end
end Kn
-- part SSum
set_option maxHeartbeats 8000000
namespace Kn
open PySem PySem.Spec PyProof.Rows L2 Err
abbrev sSum : Stmt := topS 17
abbrev NSu : List Str := ["variables", "value", "term", "one", "other"]
theorem scSu : FnScope NSu ["variables", "value"] (defScope sSum) := ⟨rfl, rfl, rfl, by decide +kernel, rfl, by decide +kernel, by decide +kernel⟩
def pairD (a : Str × Int) : PyData := .tuple [.str a.1, .int a.2]
/-- before: by name, then by power -/
def lt2 (a b : Str × Int) : Bool := PySem.W.dataLt (pairD a) (pairD b)
def key2 : W → Str × Int
  | .tup [.str x, .int p, _] => (x, p)
  | _ => ("", 0)
def ascW (ws : List W) : Bool := (ws.zip ws.tail).all fun p => lt2 (key2 p.1) (key2 p.2)
def isSumW (ks : List (Key × V)) : W → Bool
  | .tup ws => ws.all (isTermW ks) && ascW ws
  | _ => false
def SumIn : W → Prop
  | .tup ws => ∀ t ∈ ws, TermIn t
  | _ => True
def spSum : Sp := fun vs H Q _ => ∃ v w kd ks, vs = [.ref kd, v] ∧ Is H v w ∧ Rd H kd (.dK ks) ∧ SumIn w ∧ ∀ H', Same H H' → Q (.bl (isSumW ks w)) H'
theorem term_shape {ks : List (Key × V)} {w : W} (h : isTermW ks w = true) (t : TermIn w) : ∃ x p c, w = .tup [.str x, .int p, .int c] := by
  match w, h, t with
  | .tup [a, b, c], h, ⟨x, e⟩ =>
    subst e
    have h2 : ((isEmptyW (.str x) || isKeyOf ks (.str x)) && (withinW 0 2 b && (withinW (-9) 9 c && nzW c))) = true := h
    simp only [Bool.and_eq_true] at h2
    obtain ⟨_, hb, hc, _⟩ := h2
    cases b with
    | int p =>
      cases c with
      | int c => exact ⟨x, p, c, rfl⟩
      | _ => cases hc
    | _ => cases hb
theorem Is.three {H : Hp} {v : V} {x : Str} {p c : Int} (h : Is H v (.tup [.str x, .int p, .int c])) : ∃ a, v = .ref a ∧ Rd H a (.tup [.str x, .int p, .int c]) := by
  cases h with
  | @tup a xs _ hz e t =>
    cases t with
    | cons h1 t =>
    cases t with
    | cons h2 t =>
    cases t with
    | cons h3 t =>
    cases t
    cases h1
    cases h2
    cases h3
    exact ⟨a, rfl, e⟩
theorem dp_pair {K : PySem.W.Frag} {H : Hp} {a : Addr} {x : Str} {p : Int} (h : H a = some (.tup [.str x, .int p])) : Dp K H (.ref a) (pairD (x, p)) := .tup (.inl (.inl h)) (.cons (.str x) (.cons (.int p) .nil))
theorem alike_pair (a b : Str × Int) : PySem.W.alike (pairD a) (pairD b) = true := by kernel_rfl
theorem depth_pair (a : Str × Int) : (pairD a).depth = 1 := by kernel_rfl
/-- a tuple without its first, whether that is the tuple itself or a new one -/
theorem cut_both {H1 : Hp} {a : Addr} {xs : List V} {G : V → Hp → Prop} (e : Rd H1 a (.tup xs)) (key : ∀ (b : Addr) (H2 : Hp), Same H1 H2 → Rd H2 b (.tup xs.tail) → G (.ref b) H2) :
    (HT.sIx xs.length 0 (some 1) = 0 ∧ HT.sIx xs.length xs.length none = xs.length → G (.ref a) H1) ∧ (¬ (HT.sIx xs.length 0 (some 1) = 0 ∧ HT.sIx xs.length xs.length none = xs.length) → ∀ p, H1 p = none → G (.ref p) (upd H1 p (.tup (cutV xs (some 1) none)))) := by
  have e1 : HT.sIx xs.length 0 (some 1) = min 1 xs.length := HT.sIx_nat _ _ 1
  have e2 : HT.sIx xs.length xs.length none = xs.length := rfl
  refine ⟨fun h => ?_, fun _ p np => ?_⟩
  · have hz : xs = [] := List.eq_nil_of_length_eq_zero (by have := h.1; omega)
    subst hz
    exact key a H1 (Same.refl _) e
  · have e3 : cutV xs (some 1) none = xs.tail := by
      unfold cutV
      rw [e1, e2]
      cases xs with
      | nil => rfl
      | cons x r =>
        have e4 : min 1 (x :: r).length = 1 := by simp only [List.length_cons]; omega
        rw [e4]
        show (List.drop 1 (x :: r)).take _ = r
        rw [List.drop_one, List.tail_cons, List.take_of_length_le (by simp)]
    rw [e3]
    exact key p _ (same_new np) (.inl upd_same)
theorem sqt_tail {K : PySem.W.Frag} {H H' : Hp} {a : Addr} {xs : List V} (h : SqT K H a xs) (s : Same H H') : SqT K H' a xs := by
  rcases h with h | h
  · exact .inl (Rd.same h s)
  · exact .inr h
/-- t[1:] -/
def rSlRest (K : PySem.W.Frag) : V → Option Int → Option Int → Hp → VK → Prop := fun x lo hi H Q => lo = some 1 ∧ hi = none ∧ ∃ (a : Addr) (xs : List V), x = .ref a ∧ Rd H a (.tup xs) ∧ ∀ (b : Addr) (H2 : Hp), Same H H2 → Rd H2 b (.tup xs.tail) → Q (.ref b) H2
theorem sl_rest {X : Cx} : SlR X (rSlRest X.K) := by
  intro pins s σ H x v vl vu lo hi sl Q I rx hs pl pu h
  obtain ⟨rfl, rfl, a, xs, rfl, hx, q⟩ := h
  exact sl_tupA pins s σ H _ v vl vu _ _ sl Q I rx hs pl pu ⟨a, xs, rfl, .inl hx, cut_both (G := Q) hx q⟩
section
variable {P : Program} {w : World} {K : PySem.W.Frag} {mg : Str → Option Value} {base : Heap}
theorem ok_sum {f f1 : Addr} {fd fd1 : FuncData} (F : Fun K "is_sum" "is_sum" sSum f fd) (G1 : FnOk P w K mg base CX0 3 f1 fd1 ["variables", "value"] spTerm) (k1 : PySem.W.keepIn K (.ref f1) = true) (b1 : Binds K fd1 ["variables", "value"] []) (g1 : mg "is_term" = some (.ref f1))
    (mi : mg "isinstance" = none) (m1 : mg "tuple" = none) (ma : mg "all" = none) (mz : mg "zip" = none) : FnOk P w K mg base CX0 4 f fd ["variables", "value"] spSum := by
  have S := scSu
  refine F.ok S (fun vs H Q E h => ?_) (fun cdv A outer s H vs Q E hr h => ?_)
  · obtain ⟨v, w, kd, ks, rfl, _⟩ := h
    rfl
  · obtain ⟨v, u, kd, ks, rfl, hv, hk, ht, q⟩ := h
    have hu := hr.units
    refine ⟨_, pss_cons (ps_if (PW.pt (pw_or (pt_not (pt_val (pe_callB call_isi (by rfl) mi PyProof.Rows.boot_isinstance (pa_cons (pv 1) (pa_cons (pe_bltn (v := .ty "tuple") (by rfl) m1 (by decide +kernel) rfl) pa_nil)))))
        (pw_or1 (pt_not (pt_val (pe_callB (cr_all (by rfl)) (by rfl) ma (by decide +kernel) (pa_cons (pe_lc (own := [("term", 2)]) (g := gName 2) rfl S.nd (pi_tup (pv 1)) (blkOk_by (N := NSu) (sc := defScope sSum) (by decide +kernel)) (fun _ _ _ _ _ => pg_name (i := 2) S.nd rfl (.inl rfl)) (fun _ _ _ _ _ => pts_nil)
          (fun _ _ _ _ _ => pe_call G1 hr (by rfl) g1 k1 b1 .nil pass0 (pa_cons (pv 0) (pa_cons (pv 2) pa_nil)))) pa_nil))))))) (pss_one (ps_ret pe_bl)) pss_nil)
      (pss_one (ps_ret (pe_callB (cr_all (by rfl)) (by rfl) ma (by decide +kernel) (pa_cons (pe_lc (own := [("one", 3), ("other", 4)]) (g := gTup K 2 (gCons (gName 3) (gCons (gName 4) gNil))) rfl S.nd (RZ.pi_zipA (by rfl) mz (pa_cons (pv 1) (pa_cons (pe_slice sl_rest (pv 1) (po_some pe_int) po_none) pa_nil)))
        (blkOk_by (N := NSu) (sc := defScope sSum) (by decide +kernel)) (fun _ _ _ _ _ => pg_tup rfl (pgs_cons (pg_name (i := 3) S.nd rfl (.inl rfl)) (pgs_cons (pg_name (i := 4) S.nd rfl (.inl rfl)) pgs_nil))) (fun _ _ _ _ _ => pts_nil)
        (fun _ _ _ _ _ => pe_cmpR (show OpR _ (compareOp .Lt) (rLtDp K) from op_ltDp hu) (pe_slice (show SlR _ (rSlT K) from sl_tup) (pv 3) po_none (po_some pe_int)) (pe_slice (show SlR _ (rSlT K) from sl_tup) (pv 4) po_none (po_some pe_int)) (nomark _))) pa_nil)))), ?_⟩
    refine ⟨_, rfl, v, .ty "tuple", .type (tyN u), .type "tuple", isTy "tuple" u, rfl, .ty _, hv.ty, Is.kit (by decide), _, rfl, ?_⟩
    have hs : (∃ ws, u = .tup ws) ∨ (isTy "tuple" u = false ∧ isSumW ks u = false) := by
      cases u with
      | tup ws => exact .inl ⟨ws, rfl⟩
      | _ => exact .inr ⟨by kernel_rfl, rfl⟩
    rcases hs with ⟨ws, rfl⟩ | ⟨e1, e2⟩
    · cases hv with
      | @tup p xs _ hz e t =>
        have e1 : isTy "tuple" (.tup ws) = true := by kernel_rfl
        rw [e1]
        have el : ws.length = xs.length := t.len.symm
        have ev : isSumW ks (.tup ws) = (ws.all (isTermW ks) && ascW ws) := rfl
        have wk : Walk (Itt K p) xs.length (fun H' => Same H H') (YAt xs) := walk_tup.mono (fun H' s => .inl (Rd.same e s)) (fun _ _ _ _ _ _ y => y)
        refine iteF ⟨_, rfl, p, rfl, ⟨xs, .inl e⟩, fun D nD => lc_it (D := D) wk (PB H D (ws.map (isTermW ks))) (PB.zero nD) (fun _ _ _ p => p.1) ?_ ?_⟩
        · rintro i x H3 H4 hi pb ⟨rfl, hx⟩
          obtain ⟨wi, hwi, his⟩ := t.get hx
          refine ⟨rfl, ?_⟩
          dsimp only [tYes]
          rw [if_pos rfl]
          exact ⟨_, rfl, _, rfl, x, wi, kd, ks, rfl, his.same pb.1, Rd.same hk pb.1, ht wi (List.mem_of_getElem? hwi), pb.step (Same.refl _) nD (by omega) (by rw [List.getElem?_map, hwi]; rfl)⟩
        · intro H1 pb
          have hl : (ws.map (isTermW ks)).length = xs.length := by rw [List.length_map, el]
          rw [← hl] at pb
          refine ⟨D, _, rfl, SqL.of pb.all, ?_⟩
          rw [show (ws.map (isTermW ks)).all id = ws.all (isTermW ks) by rw [List.all_map]; rfl]
          have s1 := pb.1
          cases e2 : ws.all (isTermW ks) with
          | false =>
            have z := q H1 s1
            rw [ev, e2] at z
            exact ⟨_, rfl, iteT z⟩
          | true =>
            have sh : ∀ (i : Nat) (w : W), ws[i]? = some w → ∃ x p c, w = .tup [.str x, .int p, .int c] := fun i w hw => term_shape (List.all_eq_true.mp e2 w (List.mem_of_getElem? hw)) (ht w (List.mem_of_getElem? hw))
            have e' : Rd H1 p (.tup xs) := Rd.same e s1
            refine ⟨_, rfl, iteF ⟨_, rfl, _, rfl, _, rfl, rfl, rfl, p, xs, rfl, e', fun b H2 s2 hb => ⟨p, b, xs, xs.tail, rfl, .inr ⟨.inl (Rd.same e' s2), .inl hb, fun D2 n2 =>
              lc_it (D := D2) (walk_zipT (K := K) (a := p) (b := b) (n := min xs.length xs.tail.length) rfl) (PB H2 D2 ((ws.zip ws.tail).map fun p => lt2 (key2 p.1) (key2 p.2))) (PB.zero n2) (fun _ _ _ p => ⟨.inl (Rd.same (Rd.same e' s2) p.1), .inl (Rd.same hb p.1)⟩) ?_ ?_⟩⟩⟩⟩
            · rintro i x H3 H4 hi pb2 ⟨T, y1, y2, rfl, nT, rfl, ey1, ey2⟩
              have s3 : Same H H3 := s1.trans (s2.trans pb2.1)
              have s4 : Same H (upd H3 T (.tup [y1, y2])) := s3.trans (same_new nT)
              obtain ⟨w1, hw1, is1⟩ := t.get ey1
              have ey3 : xs[i + 1]? = some y2 := by rw [← List.getElem?_tail]; exact ey2
              obtain ⟨w2, hw2, is2⟩ := t.get ey3
              obtain ⟨x1, p1, c1, rfl⟩ := sh i w1 hw1
              obtain ⟨x2, p2, c2, rfl⟩ := sh (i + 1) w2 hw2
              obtain ⟨a1, rfl, r1⟩ := is1.three
              obtain ⟨a2, rfl, r2⟩ := is2.three
              refine ⟨T, _, rfl, .inl (.inl upd_same), rfl, _, _, rfl, _, _, rfl, rfl, rfl, ?_⟩
              dsimp only [tYes]
              rw [if_pos rfl]
              refine ⟨_, rfl, _, rfl, a1, _, rfl, .inl (Rd.same r1 s4), (show ¬ (HT.sIx 3 0 none = 0 ∧ HT.sIx 3 3 (some 2) = 3) by decide), fun q1 n1 => ?_⟩
              have s5 := s4.trans (same_new (o := .tup (cutV [V.str x1, V.int p1, V.int c1] none (some 2))) n1)
              refine ⟨_, rfl, _, rfl, a2, _, rfl, .inl (Rd.same r2 s5), (show ¬ (HT.sIx 3 0 none = 0 ∧ HT.sIx 3 3 (some 2) = 3) by decide), fun q2 n2' => ?_⟩
              refine ⟨pairD (x1, p1), pairD (x2, p2), dp_pair ?_, dp_pair upd_same, alike_pair _ _, (fun z => by cases z), by rw [depth_pair]; decide, ?_⟩
              · rw [upd_ne (fun z : q1 = q2 => by rw [← z, upd_same] at n2'; cases n2')]
                exact upd_same
              · refine pb2.step ((same_new nT).trans ((same_new n1).trans (same_new n2'))) n2 (by omega) ?_
                have ez : (ws.zip ws.tail)[i]? = some (.tup [.str x1, .int p1, .int c1], .tup [.str x2, .int p2, .int c2]) := List.getElem?_zip_eq_some.mpr ⟨hw1, by rw [List.getElem?_tail]; exact hw2⟩
                rw [List.getElem?_map, ez]
                rfl
            · intro H3 pb2
              have hl2 : ((ws.zip ws.tail).map fun p => lt2 (key2 p.1) (key2 p.2)).length = min xs.length xs.tail.length := by
                rw [List.length_map, List.length_zip, List.length_tail, List.length_tail, el]
              rw [← hl2] at pb2
              refine ⟨D2, _, rfl, SqL.of pb2.all, ?_⟩
              have z := q H3 (s1.trans (s2.trans pb2.1))
              rw [ev, e2] at z
              rw [show ((ws.zip ws.tail).map fun p => lt2 (key2 p.1) (key2 p.2)).all id = ascW ws by rw [List.all_map]; rfl]
              exact z
    · rw [e1]
      have z := q H (Same.refl _)
      rw [e2] at z
      exact iteT z
end
end Kn
-- part SStart
set_option maxHeartbeats 8000000
/-! Comprehensions over a dict's values and keys, the dict locked meanwhile; is_start. -/
namespace Kn
open PySem PySem.Spec PyProof.Rows L2 Err
/-- values put into a new list, one at a turn -/
def PV (H1 : Hp) (D : Addr) (vs : List V) (i : Nat) (H : Hp) : Prop := Same H1 H ∧ H D = some (.lst (vs.take i))
theorem PV.zero {H1 : Hp} {D : Addr} {vs : List V} (n : H1 D = none) : PV H1 D vs 0 (upd H1 D (.lst [])) := ⟨same_new n, upd_same⟩
theorem PV.step {H1 H H4 : Hp} {D : Addr} {vs : List V} {i : Nat} {v : V} (p : PV H1 D vs i H) (s : Same H H4) (n : H1 D = none) (hi : i ≤ 900) (hv : vs[i]? = some v) :
    ∃ acc, H4 D = some (.lst acc) ∧ acc.length < sizeLine ∧ PV H1 D vs (i + 1) (upd H4 D (.lst (acc ++ [v]))) := by
  refine ⟨_, s _ _ p.2, ?_, same_own n (p.1.trans s), ?_⟩
  · rw [List.length_take]
    exact small1000 (by omega)
  · rw [upd_same, List.take_add_one, hv]
    rfl
theorem PV.all {H1 H : Hp} {D : Addr} {vs : List V} (p : PV H1 D vs vs.length H) : H D = some (.lst vs) := by
  have z := p.2
  rw [List.take_length] at z
  exact z
theorem IsKV.val {H : Hp} : ∀ {ks : List (Key × V)} {kws : List (Option Key × W)} {i : Nat} {k : Key} {x : V}, IsKV H (ks.map fun p => (some p.1, p.2)) kws → ks[i]? = some (k, x) → ∃ w, kws[i]? = some (some k, w) ∧ Is H x w
  | (k0, v0) :: ks, _, 0, k, x, .cons _ h _, e => by
    cases e
    exact ⟨_, rfl, h⟩
  | (k0, v0) :: ks, _, i + 1, k, x, .cons _ _ t, e => by
    obtain ⟨w, e1, e2⟩ := IsKV.val (ks := ks) (i := i) t (by simpa using e)
    exact ⟨w, by simpa using e1, e2⟩
theorem IsKV.sm1 {H : Hp} {ks : List (Key × V)} {kws : List (Option Key × W)} {i : Nat} {k : Key} {x : V} (h : IsKV H (ks.map fun p => (some p.1, p.2)) kws) (e : ks[i]? = some (k, x)) : kSm (some k) :=
  h.sm (some k, x) (List.mem_map.mpr ⟨(k, x), List.mem_of_getElem? e, rfl⟩)
theorem is_key {H : Hp} {k : Key} (h : kSm (some k)) : Is H (kV k) (keyW k) := by
  cases k with
  | inl i => exact .int i
  | inr x => exact .str x h.1 h.2
/-- r([te for x in d.values()]), d locked meanwhile: te gives vs, one after the other -/
theorem vals_read {r : List V → Hp → VK → Prop} {te : TE} {σ : L2.St} {H : Hp} {Q : VK} {a : Addr} {ks : List (Key × V)} {kws : List (Option Key × W)} {vs : List V} {j n : Nat} (h0 : σ[j]? = some (some (.ref a))) (hd : H a = some (.dK ks))
    (hkv : IsKV H (ks.map fun p => (some p.1, p.2)) kws) (hz : ks.length ≤ 900) (hl : vs.length = ks.length)
    (step : ∀ (od : Obj) (i : Nat) (x v : V) (k : Key) (wi : W) (H4 : Hp), ks[i]? = some (k, x) → kws[i]? = some (some k, wi) → vs[i]? = some v → Same (upd H a (.frz od (.dK ks))) H4 → Is H4 x wi → ∀ R : VK, (∀ H5, Same H4 H5 → R v H5) → te ((wipe σ [n]).set n (some x)) H4 R)
    (fin : ∀ (od : Obj) (D : Addr) (H3 : Hp), Same (upd H a (.frz od (.dK ks))) H3 → H3 D = some (.lst vs) → r [.ref D] H3 (fun v H' => H' a = some (.frz od (.dK ks)) ∧ Q v (upd H' a (.dK ks))))
    (hw : ∀ x, wipe ((wipe σ [n]).set n (some x)) [n] = wipe σ [n]) : tLockE (tCB r (tCons (tLc (iVals (tVar j)) (gName n) tYes te [n]) tNil)) σ H Q := by
  refine ⟨a, _, hd, trivial, fun od => ?_⟩
  refine ⟨_, h0, a, od, ks, rfl, upd_same, fun D nD => lc_it (D := D) walk_values (PV (upd H a (.frz od (.dK ks))) D vs) (PV.zero nD) (fun i H' _ p => p.1 _ _ upd_same) ?_ ?_⟩
  · rintro i x H3 H4 hi p ⟨rfl, k, hk⟩
    obtain ⟨wi, hwi, his⟩ := hkv.val hk
    refine ⟨hw x, ?_⟩
    dsimp only [tYes]
    rw [if_pos rfl]
    have hv : vs[i]? = some (vs[i]'(by omega)) := List.getElem?_eq_getElem (by omega)
    exact step od i x _ k wi H4 hk hwi hv p.1 ((his.lock hd).same p.1) _ fun H5 s5 => p.step s5 nD (by omega) hv
  · intro H3 p
    rw [← hl] at p
    exact fin od D H3 p.1 p.all
/-- the same over the keys -/
theorem keys_read {r : List V → Hp → VK → Prop} {te : TE} {σ : L2.St} {H : Hp} {Q : VK} {a : Addr} {ks : List (Key × V)} {vs : List V} {j n : Nat} (h0 : σ[j]? = some (some (.ref a))) (hd : H a = some (.dK ks))
    (hz : ks.length ≤ 900) (hl : vs.length = ks.length)
    (step : ∀ (od : Obj) (i : Nat) (v x : V) (k : Key) (H4 : Hp), ks[i]? = some (k, x) → vs[i]? = some v → Same (upd H a (.frz od (.dK ks))) H4 → ∀ R : VK, (∀ H5, Same H4 H5 → R v H5) → te ((wipe σ [n]).set n (some (kV k))) H4 R)
    (fin : ∀ (od : Obj) (D : Addr) (H3 : Hp), Same (upd H a (.frz od (.dK ks))) H3 → H3 D = some (.lst vs) → r [.ref D] H3 (fun v H' => H' a = some (.frz od (.dK ks)) ∧ Q v (upd H' a (.dK ks))))
    (hw : ∀ x, wipe ((wipe σ [n]).set n (some x)) [n] = wipe σ [n]) : tLockE (tCB r (tCons (tLc (iKeys (tVar j)) (gName n) tYes te [n]) tNil)) σ H Q := by
  refine ⟨a, _, hd, trivial, fun od => ?_⟩
  refine ⟨_, h0, a, od, rfl, .inl ⟨ks, upd_same, fun D nD => lc_it (D := D) walk_keys (PV (upd H a (.frz od (.dK ks))) D vs) (PV.zero nD) (fun i H' _ p => p.1 _ _ upd_same) ?_ ?_⟩⟩
  · rintro i x H3 H4 hi p ⟨rfl, k, v0, hk, rfl⟩
    refine ⟨hw _, ?_⟩
    dsimp only [tYes]
    rw [if_pos rfl]
    have hv : vs[i]? = some (vs[i]'(by omega)) := List.getElem?_eq_getElem (by omega)
    exact step od i _ v0 k H4 hk hv p.1 _ fun H5 s5 => p.step s5 nD (by omega) hv
  · intro H3 p
    rw [← hl] at p
    exact fin od D H3 p.1 p.all
theorem NF.dict {H : Hp} {v : V} {kws : List (Option Key × W)} (h : Is H v (.dct kws)) (nf : NF H v) : ∃ a ks, v = .ref a ∧ H a = some (.dK ks) ∧ IsKV H (ks.map fun p => (some p.1, p.2)) kws ∧ ks.length ≤ 900 ∧ ks.length = kws.length := by
  cases h with
  | @dct a kvs _ hz hd hkv =>
    obtain ⟨ks, hd, rfl⟩ := hd
    rw [List.length_map] at hz
    have lk := hkv.len
    rw [List.length_map] at lk
    rcases hd with hd | ⟨o, hd⟩
    · exact ⟨a, ks, rfl, hd, hkv, hz, lk⟩
    · exact absurd hd (nf a o _ rfl)
abbrev sStart : Stmt := topS 18
abbrev NSr : List Str := ["value", "number"]
theorem scSr : FnScope NSr ["value"] (defScope sStart) := ⟨rfl, rfl, rfl, by decide +kernel, rfl, by decide +kernel, by decide +kernel⟩
def isStartW : W → Bool
  | .dct kws => isDctN 1 3 (.dct kws) && kws.all fun p => withinW (-99) 99 p.2
  | _ => false
def spStart : Sp := fun vs H Q _ => ∃ v w, vs = [v] ∧ Is H v w ∧ NF H v ∧ ∀ H', Same H H' → Q (.bl (isStartW w)) H'
section
variable {P : Program} {w : World} {K : PySem.W.Frag} {mg : Str → Option Value} {base : Heap}
theorem ok_start {f f1 f2 : Addr} {fd fd1 fd2 : FuncData} (F : Fun K "is_start" "is_start" sStart f fd) (G1 : FnOk P w K mg base CX0 2 f1 fd1 ["value", "fewest", "most"] spDctN) (k1 : PySem.W.keepIn K (.ref f1) = true) (b1 : Binds K fd1 ["value", "fewest", "most"] []) (g1 : mg "is_dict_of_names" = some (.ref f1))
    (G2 : FnOk P w K mg base CX0 2 f2 fd2 ["value", "least", "greatest"] spWithin) (k2 : PySem.W.keepIn K (.ref f2) = true) (b2 : Binds K fd2 ["value", "least", "greatest"] []) (g2 : mg "is_within" = some (.ref f2)) (ma : mg "all" = none) : FnOk P w K mg base CX0 3 f fd ["value"] spStart := by
  have S := scSr
  refine F.ok S (fun vs H Q E h => ?_) (fun cdv A outer s H vs Q E hr h => ?_)
  · obtain ⟨v, u, rfl, _⟩ := h
    rfl
  · obtain ⟨v, u, rfl, hv, nf, q⟩ := h
    refine ⟨_, pss_cons (ps_if (pt_not (pt_val (pe_call G1 hr (by rfl) g1 k1 b1 .nil pass0 (pa_cons (pv 0) (pa_cons pe_int (pa_cons pe_int pa_nil)))))) (pss_one (ps_ret pe_bl)) pss_nil)
      (pss_one (ps_ret (pe_lock (pe_callB (cr_all (by rfl)) (by rfl) ma (by decide +kernel) (pa_cons (pe_lc (own := [("number", 1)]) (g := gName 1) rfl S.nd (pi_values (pv 0)) (blkOk_by (N := NSr) (sc := defScope sStart) (by decide +kernel)) (fun _ _ _ _ _ => pg_name (i := 1) S.nd rfl (.inl rfl)) (fun _ _ _ _ _ => pts_nil)
        (fun _ _ _ _ _ => pe_call G2 hr (by rfl) g2 k2 b2 .nil pass0 (pa_cons (pv 1) (pa_cons (pe_un un_neg pe_int) (pa_cons pe_int pa_nil))))) pa_nil))))), ?_⟩
    refine ⟨_, rfl, v, u, 1, 3, rfl, hv, nf, fun H1 s1 => ⟨_, rfl, ?_⟩⟩
    have hs : (∃ kws, u = .dct kws ∧ isDctN 1 3 u = true) ∨ (isDctN 1 3 u = false ∧ isStartW u = false) := by
      cases u with
      | dct kws =>
        cases e : isDctN 1 3 (.dct kws) with
        | true => exact .inl ⟨kws, rfl, rfl⟩
        | false =>
          refine .inr ⟨rfl, ?_⟩
          show (isDctN 1 3 (.dct kws) && _) = false
          rw [e]
          rfl
      | _ => exact .inr ⟨rfl, rfl⟩
    rcases hs with ⟨kws, rfl, e⟩ | ⟨e1, e2⟩
    · rw [e]
      obtain ⟨a, ks, rfl, hd, hkv, hz, lk⟩ := NF.dict hv nf
      have ev : isStartW (.dct kws) = (isDctN 1 3 (.dct kws) && kws.all fun p => withinW (-99) 99 p.2) := rfl
      rw [e, Bool.true_and] at ev
      refine iteF ?_
      refine vals_read (vs := (kws.map fun p => withinW (-99) 99 p.2).map V.bl) rfl (s1 _ _ hd) (hkv.same s1) hz (by rw [List.length_map, List.length_map, lk]) ?_ ?_ (fun x => rfl)
      · intro od i x v k wi H4 hk hwi hv s4 his R hR
        refine ⟨_, rfl, _, rfl, x, wi, -99, 99, rfl, his, ?_⟩
        have z : v = .bl (withinW (-99) 99 wi) := by
          rw [List.getElem?_map, List.getElem?_map, hwi] at hv
          exact (Option.some.inj hv).symm
        rw [← z]
        exact hR H4 (Same.refl _)
      · intro od D H3 s3 hD
        refine ⟨D, _, rfl, SqL.of hD, s3 _ _ upd_same, ?_⟩
        rw [show (kws.map fun p => withinW (-99) 99 p.2).all id = kws.all fun p => withinW (-99) 99 p.2 by rw [List.all_map]; rfl, ← ev]
        exact q _ (s1.trans (same_unlock (s1 _ _ hd) s3))
    · rw [e1]
      have z := q H1 s1
      rw [e2] at z
      exact iteT z
end
end Kn
-- part SSteps
set_option maxHeartbeats 8000000
/-! are_sums, are_steps, is_last. -/
namespace Kn
open PySem PySem.Spec PyProof.Rows L2 Err
abbrev sSums : Stmt := topS 19
abbrev sSteps : Stmt := topS 20
abbrev sLast : Stmt := topS 21
abbrev NSm : List Str := ["variables", "value", "name", "terms"]
abbrev NSp : List Str := ["variables", "value", "sums"]
abbrev NLs : List Str := ["variables", "value", "term"]
theorem scSm : FnScope NSm ["variables", "value"] (defScope sSums) := ⟨rfl, rfl, rfl, by decide +kernel, rfl, by decide +kernel, by decide +kernel⟩
theorem scSp : FnScope NSp ["variables", "value"] (defScope sSteps) := ⟨rfl, rfl, rfl, by decide +kernel, rfl, by decide +kernel, by decide +kernel⟩
theorem scLs : FnScope NLs ["variables", "value"] (defScope sLast) := ⟨rfl, rfl, rfl, by decide +kernel, rfl, by decide +kernel, by decide +kernel⟩
def isKeyOfK (ks : List (Key × V)) : Option Key → Bool
  | some k => isKeyOf ks (keyW k)
  | none => false
def areSumsW (ks : List (Key × V)) : W → Bool
  | .dct kws => decide (kws.length = ks.length) && (kws.all (fun p => isKeyOfK ks p.1) && kws.all fun p => isSumW ks p.2)
  | _ => false
def areStepsW (ks : List (Key × V)) : W → Bool
  | .dct kws => isDctN 1 3 (.dct kws) && kws.all fun p => areSumsW ks p.2
  | _ => false
def pw0 : W → Bool
  | .tup [_, .int p, _] => decide (p = 0)
  | _ => false
def isLastW (ks : List (Key × V)) (w : W) : Bool := isSumW ks w && (items7 w).all pw0
where items7 : W → List W
  | .tup ws => ws
  | _ => []
def SumsIn : W → Prop
  | .dct kws => ∀ p ∈ kws, SumIn p.2
  | _ => True
def StepsIn : W → Prop
  | .dct kws => ∀ p ∈ kws, SumsIn p.2
  | _ => True
/-- the values within a dict are not locked, and none is the dict itself -/
def Deep (H : Hp) (v : V) : Prop := ∀ a ks, v = .ref a → H a = some (.dK ks) → ∀ p ∈ ks, NF H p.2 ∧ p.2 ≠ .ref a
theorem NF.same {H H' : Hp} {v : V} {w : W} (i : Is H v w) (nf : NF H v) (s : Same H H') : NF H' v := by
  intro a o u e z
  subst e
  cases i with
  | lst _ h _ =>
    rw [s _ _ h] at z
    cases z
  | tup _ h _ =>
    rcases h with h | ⟨o2, h⟩
    · rw [s _ _ h] at z
      cases z
    · exact nf a o2 _ rfl h
  | dct _ h _ =>
    obtain ⟨ks, h, _⟩ := h
    rcases h with h | ⟨o2, h⟩
    · rw [s _ _ h] at z
      cases z
    · exact nf a o2 _ rfl h
theorem NF.lock {H : Hp} {v : V} {d : Addr} {u : HO} (nf : NF H v) (ne : v ≠ .ref d) : NF (upd H d u) v := by
  intro a o x e z
  subst e
  rw [upd_ne (fun y => ne (by rw [y]))] at z
  exact nf a o x rfl z
def spSums : Sp := fun vs H Q _ => ∃ v w kd ks, vs = [.ref kd, v] ∧ Is H v w ∧ NF H v ∧ H kd = some (.dK ks) ∧ SumsIn w ∧ ∀ H', Same H H' → Q (.bl (areSumsW ks w)) H'
def spSteps : Sp := fun vs H Q _ => ∃ v w kd ks, vs = [.ref kd, v] ∧ Is H v w ∧ NF H v ∧ Deep H v ∧ v ≠ .ref kd ∧ H kd = some (.dK ks) ∧ StepsIn w ∧ ∀ H', Same H H' → Q (.bl (areStepsW ks w)) H'
def spLast : Sp := fun vs H Q _ => ∃ v w kd ks, vs = [.ref kd, v] ∧ Is H v w ∧ Rd H kd (.dK ks) ∧ SumIn w ∧ ∀ H', Same H H' → Q (.bl (isLastW ks w)) H'
theorem Rd.lockK {H : Hp} {a d : Addr} {od : Obj} {ks0 ks : List (Key × V)} (hd : H d = some (.dK ks0)) (h : Rd H a (.dK ks)) : Rd (upd H d (.frz od (.dK ks0))) a (.dK ks) := by
  by_cases hb : a = d
  · subst hb
    rcases h with h | ⟨o, h⟩
    · rw [hd] at h
      cases h
      exact .inr ⟨od, upd_same⟩
    · rw [hd] at h
      cases h
  · rcases h with h | ⟨o, h⟩
    · exact .inl (by rw [upd_ne hb]; exact h)
    · exact .inr ⟨o, by rw [upd_ne hb]; exact h⟩
theorem tnext_i {D : Ends} {σ : L2.St} {H : Hp} (h : D.nx σ H) : tNext D σ H := h
theorem tseq_i {a b : TS} {D : Ends} {σ : L2.St} {H : Hp} (h : a { D with nx := b D } σ H) : tSeq a b D σ H := h
theorem tif_i {t : TT} {a b : TS} {D : Ends} {σ : L2.St} {H : Hp} (h : t σ H fun c H1 => if c = true then a D σ H1 else b D σ H1) : tIfS t a b D σ H := h
theorem tnot_i {t : TT} {σ : L2.St} {H : Hp} {Q : Bool → Hp → Prop} (h : t σ H fun c H1 => Q (!c) H1) : tNot t σ H Q := h
theorem tb_i {t : TE} {σ : L2.St} {H : Hp} {Q : Bool → Hp → Prop} (h : t σ H fun x H1 => ∃ c, x = .bl c ∧ Q c H1) : tB t σ H Q := h
section
variable {P : Program} {w : World} {K : PySem.W.Frag} {mg : Str → Option Value} {base : Heap}
theorem ok_sums {f f1 f2 : Addr} {fd fd1 fd2 : FuncData} (F : Fun K "are_sums" "are_sums" sSums f fd) (G1 : FnOk P w K mg base CX0 1 f1 fd1 ["value", "names"] spKeyOf) (k1 : PySem.W.keepIn K (.ref f1) = true) (b1 : Binds K fd1 ["value", "names"] []) (g1 : mg "is_key_of" = some (.ref f1))
    (G2 : FnOk P w K mg base CX0 4 f2 fd2 ["variables", "value"] spSum) (k2 : PySem.W.keepIn K (.ref f2) = true) (b2 : Binds K fd2 ["variables", "value"] []) (g2 : mg "is_sum" = some (.ref f2)) (mi : mg "isinstance" = none) (m1 : mg "dict" = none) (ml : mg "len" = none) (ma : mg "all" = none) :
    FnOk P w K mg base CX0 5 f fd ["variables", "value"] spSums := by
  have S := scSm
  refine F.ok S (fun vs H Q E h => ?_) (fun cdv A outer s H vs Q E hr h => ?_)
  · obtain ⟨v, u, kd, ks, rfl, _⟩ := h
    rfl
  · obtain ⟨v, u, kd, ks, rfl, hv, nf, hk, hin, q⟩ := h
    have hr1 := hr.mono (show 1 ≤ 4 by decide)
    refine ⟨_, pss_cons (ps_if (PW.pt (pw_or (pt_not (pt_val (pe_callB call_isi (by rfl) mi PyProof.Rows.boot_isinstance (pa_cons (pv 1) (pa_cons (pe_bltn (v := .ty "dict") (by rfl) m1 (by decide +kernel) rfl) pa_nil)))))
        (pw_or1 (pt_cmpR op_ne (pe_callB call_lenD (by rfl) ml PySem.boot_len (pa_cons (pv 1) pa_nil)) (pe_callB call_lenD (by rfl) ml PySem.boot_len (pa_cons (pv 0) pa_nil)) (nomark _))))) (pss_one (ps_ret pe_bl)) pss_nil)
      (pss_cons (ps_if (pt_not (pt_val (pe_lock (pe_callB (cr_all (by rfl)) (by rfl) ma (by decide +kernel) (pa_cons (pe_lc (own := [("name", 2)]) (g := gName 2) rfl S.nd (pi_keys (pv 1)) (blkOk_by (N := NSm) (sc := defScope sSums) (by decide +kernel)) (fun _ _ _ _ _ => pg_name (i := 2) S.nd rfl (.inl rfl)) (fun _ _ _ _ _ => pts_nil)
          (fun _ _ _ _ _ => pe_call G1 hr1 (by rfl) g1 k1 b1 .nil pass0 (pa_cons (pv 2) (pa_cons (pv 0) pa_nil)))) pa_nil))))) (pss_one (ps_ret pe_bl)) pss_nil)
      (pss_one (ps_ret (pe_lock (pe_callB (cr_all (by rfl)) (by rfl) ma (by decide +kernel) (pa_cons (pe_lc (own := [("terms", 3)]) (g := gName 3) rfl S.nd (pi_values (pv 1)) (blkOk_by (N := NSm) (sc := defScope sSums) (by decide +kernel)) (fun _ _ _ _ _ => pg_name (i := 3) S.nd rfl (.inl rfl)) (fun _ _ _ _ _ => pts_nil)
          (fun _ _ _ _ _ => pe_call G2 hr (by rfl) g2 k2 b2 .nil pass0 (pa_cons (pv 0) (pa_cons (pv 3) pa_nil)))) pa_nil)))))), ?_⟩
    refine ⟨_, rfl, v, .ty "dict", .type (tyN u), .type "dict", isTy "dict" u, rfl, .ty _, hv.ty, Is.kit (by decide), _, rfl, ?_⟩
    have hs : (∃ kws, u = .dct kws) ∨ (isTy "dict" u = false ∧ areSumsW ks u = false) := by
      cases u with
      | dct kws => exact .inl ⟨kws, rfl⟩
      | _ => exact .inr ⟨by kernel_rfl, rfl⟩
    rcases hs with ⟨kws, rfl⟩ | ⟨e1, e2⟩
    · have e : isTy "dict" (.dct kws) = true := by kernel_rfl
      rw [e]
      obtain ⟨a, kv, rfl, hd, hkv, hz, lk⟩ := NF.dict hv nf
      have ev : areSumsW ks (.dct kws) = (decide (kws.length = ks.length) && (kws.all (fun p => isKeyOfK ks p.1) && kws.all fun p => isSumW ks p.2)) := rfl
      refine iteF ⟨_, rfl, a, kv, rfl, hd, _, rfl, kd, ks, rfl, hk, rfl, ?_⟩
      have e3 : decide (V.int (kv.length : Nat) = V.int (ks.length : Nat)) = decide (kws.length = ks.length) := by
        rw [lk]
        by_cases h : kws.length = ks.length
        · rw [decide_eq_true h, decide_eq_true (by rw [h])]
        · rw [decide_eq_false h, decide_eq_false fun z => h (by have := V.int.inj z; omega)]
      rw [e3]
      cases e4 : decide (kws.length = ks.length) with
      | false =>
        have z := q H (Same.refl _)
        rw [ev, e4] at z
        exact ⟨_, rfl, iteT z⟩
      | true =>
        rw [e4, Bool.true_and] at ev
        refine ⟨_, rfl, iteF (tnext_i ?_)⟩
        dsimp only
        refine tseq_i (tif_i (tnot_i (tb_i ?_)))
        refine keys_read (j := 1) (n := 2) (σ := L2.start NSm [V.ref kd, V.ref a]) (vs := (kws.map fun p => isKeyOfK ks p.1).map V.bl) rfl hd hz (by rw [List.length_map, List.length_map, lk]) ?_ ?_ (fun x => rfl)
        · intro od i v x k H4 hki hvi s4 R hR
          have hkw : (kws.map (·.1))[i]? = some (some k) := by
            rw [← hkv.keys, List.map_map, List.getElem?_map, hki]
            rfl
          refine ⟨_, rfl, _, rfl, kV k, keyW k, kd, ks, rfl, is_key (hkv.sm1 hki), Rd.same (Rd.lockK hd (.inl hk)) s4, ?_⟩
          have z : v = .bl (isKeyOf ks (keyW k)) := by
            have e5 : (kws.map fun p => isKeyOfK ks p.1) = (kws.map (·.1)).map (isKeyOfK ks) := by rw [List.map_map]; rfl
            rw [e5, List.getElem?_map, List.getElem?_map, hkw] at hvi
            exact (Option.some.inj hvi).symm
          rw [← z]
          exact hR H4 (Same.refl _)
        · intro od D H3 s3 hD
          refine ⟨D, _, rfl, SqL.of hD, s3 _ _ upd_same, ?_⟩
          rw [show (kws.map fun p => isKeyOfK ks p.1).all id = kws.all fun p => isKeyOfK ks p.1 by rw [List.all_map]; rfl]
          have s2 := same_unlock hd s3
          generalize upd H3 a (.dK kv) = H2 at s2 ⊢
          cases e5 : kws.all fun p => isKeyOfK ks p.1 with
          | false =>
            have z := q H2 s2
            rw [ev, e5] at z
            exact ⟨_, rfl, iteT z⟩
          | true =>
            rw [e5, Bool.true_and] at ev
            refine ⟨_, rfl, iteF ?_⟩
            refine vals_read (vs := (kws.map fun p => isSumW ks p.2).map V.bl) rfl (s2 _ _ hd) (hkv.same s2) hz (by rw [List.length_map, List.length_map, lk]) ?_ ?_ (fun x => rfl)
            · intro od2 i x v k wi H4 hki hwi hvi s4 his R hR
              refine ⟨_, rfl, _, rfl, x, wi, kd, ks, rfl, his, Rd.same (Rd.lockK (s2 _ _ hd) (.inl (s2 _ _ hk))) s4, hin _ (List.mem_of_getElem? hwi), fun H5 s5 => ?_⟩
              have z : v = .bl (isSumW ks wi) := by
                rw [List.getElem?_map, List.getElem?_map, hwi] at hvi
                exact (Option.some.inj hvi).symm
              rw [← z]
              exact hR H5 s5
            · intro od2 D2 H5 s5 hD2
              refine ⟨D2, _, rfl, SqL.of hD2, s5 _ _ upd_same, ?_⟩
              rw [show (kws.map fun p => isSumW ks p.2).all id = kws.all fun p => isSumW ks p.2 by rw [List.all_map]; rfl, ← ev]
              exact q _ (s2.trans (same_unlock (s2 _ _ hd) s5))
    · rw [e1]
      have z := q H (Same.refl _)
      rw [e2] at z
      exact iteT z
theorem ok_steps {f f1 f2 : Addr} {fd fd1 fd2 : FuncData} (F : Fun K "are_steps" "are_steps" sSteps f fd) (G1 : FnOk P w K mg base CX0 2 f1 fd1 ["value", "fewest", "most"] spDctN) (k1 : PySem.W.keepIn K (.ref f1) = true) (b1 : Binds K fd1 ["value", "fewest", "most"] []) (g1 : mg "is_dict_of_names" = some (.ref f1))
    (G2 : FnOk P w K mg base CX0 5 f2 fd2 ["variables", "value"] spSums) (k2 : PySem.W.keepIn K (.ref f2) = true) (b2 : Binds K fd2 ["variables", "value"] []) (g2 : mg "are_sums" = some (.ref f2)) (ma : mg "all" = none) :
    FnOk P w K mg base CX0 6 f fd ["variables", "value"] spSteps := by
  have S := scSp
  refine F.ok S (fun vs H Q E h => ?_) (fun cdv A outer s H vs Q E hr h => ?_)
  · obtain ⟨v, u, kd, ks, rfl, _⟩ := h
    rfl
  · obtain ⟨v, u, kd, ks, rfl, hv, nf, dp, ne, hk, hin, q⟩ := h
    have hr2 := hr.mono (show 2 ≤ 5 by decide)
    refine ⟨_, pss_cons (ps_if (pt_not (pt_val (pe_call G1 hr2 (by rfl) g1 k1 b1 .nil pass0 (pa_cons (pv 1) (pa_cons pe_int (pa_cons pe_int pa_nil)))))) (pss_one (ps_ret pe_bl)) pss_nil)
      (pss_one (ps_ret (pe_lock (pe_callB (cr_all (by rfl)) (by rfl) ma (by decide +kernel) (pa_cons (pe_lc (own := [("sums", 2)]) (g := gName 2) rfl S.nd (pi_values (pv 1)) (blkOk_by (N := NSp) (sc := defScope sSteps) (by decide +kernel)) (fun _ _ _ _ _ => pg_name (i := 2) S.nd rfl (.inl rfl)) (fun _ _ _ _ _ => pts_nil)
        (fun _ _ _ _ _ => pe_call G2 hr (by rfl) g2 k2 b2 .nil pass0 (pa_cons (pv 0) (pa_cons (pv 2) pa_nil)))) pa_nil))))), ?_⟩
    refine ⟨_, rfl, v, u, 1, 3, rfl, hv, nf, fun H1 s1 => ⟨_, rfl, ?_⟩⟩
    have hs : (∃ kws, u = .dct kws ∧ isDctN 1 3 u = true) ∨ (isDctN 1 3 u = false ∧ areStepsW ks u = false) := by
      cases u with
      | dct kws =>
        cases e : isDctN 1 3 (.dct kws) with
        | true => exact .inl ⟨kws, rfl, rfl⟩
        | false =>
          refine .inr ⟨rfl, ?_⟩
          show (isDctN 1 3 (.dct kws) && _) = false
          rw [e]
          rfl
      | _ => exact .inr ⟨rfl, rfl⟩
    rcases hs with ⟨kws, rfl, e⟩ | ⟨e1, e2⟩
    · rw [e]
      obtain ⟨a, kv, rfl, hd, hkv, hz, lk⟩ := NF.dict hv nf
      have nd := dp a kv rfl hd
      have ev : areStepsW ks (.dct kws) = (isDctN 1 3 (.dct kws) && kws.all fun p => areSumsW ks p.2) := rfl
      rw [e, Bool.true_and] at ev
      refine iteF ?_
      refine vals_read (vs := (kws.map fun p => areSumsW ks p.2).map V.bl) rfl (s1 _ _ hd) (hkv.same s1) hz (by rw [List.length_map, List.length_map, lk]) ?_ ?_ (fun x => rfl)
      · intro od i x v k wi H4 hki hwi hv s4 his R hR
        obtain ⟨nx, nxa⟩ := nd _ (List.mem_of_getElem? hki)
        obtain ⟨w0, hw0, is0⟩ := hkv.val hki
        have nf1 : NF H1 x := nx.same is0 s1
        have is1 : Is (upd H1 a (.frz od (.dK kv))) x w0 := (is0.same s1).lock (s1 _ _ hd)
        have nf4 : NF H4 x := (nf1.lock (u := .frz od (.dK kv)) nxa).same is1 s4
        have kda : kd ≠ a := fun z => ne (by rw [z])
        have hk4 : H4 kd = some (.dK ks) := s4 _ _ (by rw [upd_ne kda]; exact s1 _ _ hk)
        refine ⟨_, rfl, _, rfl, x, wi, kd, ks, rfl, his, nf4, hk4, hin _ (List.mem_of_getElem? hwi), fun H5 s5 => ?_⟩
        have z : v = .bl (areSumsW ks wi) := by
          rw [List.getElem?_map, List.getElem?_map, hwi] at hv
          exact (Option.some.inj hv).symm
        rw [← z]
        exact hR H5 s5
      · intro od D H3 s3 hD
        refine ⟨D, _, rfl, SqL.of hD, s3 _ _ upd_same, ?_⟩
        rw [show (kws.map fun p => areSumsW ks p.2).all id = kws.all fun p => areSumsW ks p.2 by rw [List.all_map]; rfl, ← ev]
        exact q _ (s1.trans (same_unlock (s1 _ _ hd) s3))
    · rw [e1]
      have z := q H1 s1
      rw [e2] at z
      exact iteT z
theorem ok_last {f f1 : Addr} {fd fd1 : FuncData} (F : Fun K "is_last" "is_last" sLast f fd) (G1 : FnOk P w K mg base CX0 4 f1 fd1 ["variables", "value"] spSum) (k1 : PySem.W.keepIn K (.ref f1) = true) (b1 : Binds K fd1 ["variables", "value"] []) (g1 : mg "is_sum" = some (.ref f1)) (ma : mg "all" = none) :
    FnOk P w K mg base CX0 5 f fd ["variables", "value"] spLast := by
  have S := scLs
  refine F.ok S (fun vs H Q E h => ?_) (fun cdv A outer s H vs Q E hr h => ?_)
  · obtain ⟨v, u, kd, ks, rfl, _⟩ := h
    rfl
  · obtain ⟨v, u, kd, ks, rfl, hv, hk, hin, q⟩ := h
    refine ⟨_, pss_one (ps_ret (pe_and (pe_call G1 hr (by rfl) g1 k1 b1 .nil pass0 (pa_cons (pv 0) (pa_cons (pv 1) pa_nil)))
      (pe_one (pe_callB (cr_all (by rfl)) (by rfl) ma (by decide +kernel) (pa_cons (pe_lc (own := [("term", 2)]) (g := gName 2) rfl S.nd (pi_tup (pv 1)) (blkOk_by (N := NLs) (sc := defScope sLast) (by decide +kernel)) (fun _ _ _ _ _ => pg_name (i := 2) S.nd rfl (.inl rfl)) (fun _ _ _ _ _ => pts_nil)
        (fun _ _ _ _ _ => pe_cmpR op_eq (pe_ix (show IxR _ (rIxT K) from ix_tup) (pv 2) pe_int (fun _ _ => rfl)) pe_int (nomark _))) pa_nil))))), ?_⟩
    refine ⟨_, rfl, _, rfl, v, u, kd, ks, rfl, hv, hk, hin, fun H1 s1 => ⟨_, rfl, ?_⟩⟩
    have ev : isLastW ks u = (isSumW ks u && (isLastW.items7 u).all pw0) := rfl
    cases e : isSumW ks u with
    | false =>
      have z := q H1 s1
      rw [ev, e] at z
      exact iteF z
    | true =>
      rw [e, Bool.true_and] at ev
      cases u with
      | tup ws =>
        cases hv with
        | @tup p xs _ hz e1 t =>
          have el : ws.length = xs.length := t.len.symm
          have e2 : (ws.all (isTermW ks) && ascW ws) = true := e
          have e3 := (Bool.and_eq_true_iff.mp e2).1
          have e4 : Rd H1 p (.tup xs) := Rd.same e1 s1
          refine iteT ⟨_, rfl, p, rfl, ⟨xs, .inl e4⟩, fun D nD => lc_it (D := D) (walk_tup (K := K) (a := p)) (PB H1 D (ws.map pw0)) (PB.zero nD) (fun _ _ _ pb => .inl (Rd.same e4 pb.1)) ?_ ?_⟩
          · rintro i x H3 H4 hi pb ⟨rfl, hx⟩
            obtain ⟨wi, hwi, his⟩ := t.get hx
            obtain ⟨nm, pp, cc, rfl⟩ := term_shape (List.all_eq_true.mp e3 wi (List.mem_of_getElem? hwi)) (hin wi (List.mem_of_getElem? hwi))
            obtain ⟨a1, rfl, r1⟩ := his.three
            refine ⟨rfl, ?_⟩
            dsimp only [tYes]
            rw [if_pos rfl]
            refine ⟨_, rfl, a1, _, 1, _, rfl, rfl, .inl (Rd.same (Rd.same r1 s1) pb.1), rfl, rfl, ?_⟩
            refine pb.step (Same.refl _) nD (by omega) ?_
            rw [List.getElem?_map, hwi]
            show some (decide (pp = 0)) = some (decide (V.int pp = V.int 0))
            congr 1
            by_cases h : pp = 0
            · rw [decide_eq_true h, decide_eq_true (by rw [h])]
            · rw [decide_eq_false h, decide_eq_false fun z => h (V.int.inj z)]
          · intro H3 pb
            have hl : (ws.map pw0).length = xs.length := by rw [List.length_map, el]
            rw [← hl] at pb
            refine ⟨D, _, rfl, SqL.of pb.all, ?_⟩
            have z := q H3 (s1.trans pb.1)
            rw [ev] at z
            rw [show (ws.map pw0).all id = ws.all pw0 by rw [List.all_map]; rfl]
            exact z
      | _ => cases (show false = true from e)
end
end Kn
-- part SWorth
set_option maxHeartbeats 8000000
/-! worth_of. -/
namespace Kn
open PySem PySem.Spec PyProof.Rows L2 Err
abbrev sWorth : Stmt := topS 22
abbrev NWo : List Str := ["terms", "values", "powers", "name", "power", "coefficient"]
theorem scWo : FnScope NWo ["terms", "values", "powers"] (defScope sWorth) := ⟨rfl, rfl, rfl, by decide +kernel, rfl, by decide +kernel, by decide +kernel⟩
/-- a term: name, power, coefficient -/
abbrev Tm : Type := Str × Int × Int
def tmW (m : Tm) : W := .tup [.str m.1, .int m.2.1, .int m.2.2]
def sumW (ts : List Tm) : W := .tup (ts.map tmW)
def worthF (ts : List Tm) (env : Str → Int) (pf : Int → Int) : Int := (ts.map fun m => m.2.2 * env m.1 * pf m.2.1).sum
/-- what may be reckoned with -/
structure TmOk (kv : List (Key × V)) (ps : List Int) (env : Str → Int) (pf : Int → Int) (m : Tm) : Prop where
  c : -9 ≤ m.2.2 ∧ m.2.2 ≤ 9
  v : valV kv (.inr m.1) = some (.int (env m.1))
  p : ∃ k : Nat, m.2.1 = k ∧ ps[k]? = some (pf m.2.1)
  b : -1000000 ≤ pf m.2.1 ∧ pf m.2.1 ≤ 1000000
def spWorth : Sp := fun vs H Q _ => ∃ (t vd pw : Addr) (ts : List Tm) (kv : List (Key × V)) (ps : List Int) (env : Str → Int) (pf : Int → Int), vs = [.ref t, .ref vd, .ref pw] ∧ Is H (.ref t) (sumW ts) ∧ Rd H vd (.dK kv) ∧ Rd H pw (.tup (ps.map V.int)) ∧
  (∀ m ∈ ts, TmOk kv ps env pf m) ∧ ∀ H', Same H H' → Q (.int (worthF ts env pf)) H'
theorem Is.sum {H : Hp} {t : Addr} {ts : List Tm} (h : Is H (.ref t) (sumW ts)) : ∃ xs, Rd H t (.tup xs) ∧ xs.length = ts.length ∧ xs.length ≤ 900 ∧ ∀ (i : Nat) (x : V), xs[i]? = some x → ∃ m a, ts[i]? = some m ∧ x = .ref a ∧ Rd H a (.tup [.str m.1, .int m.2.1, .int m.2.2]) := by
  cases h with
  | @tup a xs _ hz e t =>
    refine ⟨xs, e, by rw [t.len, List.length_map], hz, fun i x hx => ?_⟩
    obtain ⟨w, hw, his⟩ := t.get hx
    rw [List.getElem?_map] at hw
    cases hm : ts[i]? with
    | none =>
      rw [hm] at hw
      cases hw
    | some m =>
      rw [hm] at hw
      have e2 : tmW m = w := Option.some.inj hw
      subst e2
      obtain ⟨a, ea, ra⟩ := his.three
      exact ⟨m, a, rfl, ea, ra⟩
section
variable {P : Program} {w : World} {K : PySem.W.Frag} {mg : Str → Option Value} {base : Heap}
theorem ok_worth {f : Addr} {fd : FuncData} (F : Fun K "worth_of" "worth_of" sWorth f fd) (ms : mg "sum" = none) : FnOk P w K mg base CX0 1 f fd ["terms", "values", "powers"] spWorth := by
  have S := scWo
  refine F.ok S (fun vs H Q E h => ?_) (fun cdv A outer s H vs Q E hr h => ?_)
  · obtain ⟨t, vd, pw, ts, kv, ps, env, pf, rfl, _⟩ := h
    rfl
  · obtain ⟨t, vd, pw, ts, kv, ps, env, pf, rfl, ht, hv, hp, ok, q⟩ := h
    have hu := hu_of hr
    obtain ⟨xs, hx, el, hz, at_⟩ := ht.sum
    refine ⟨_, pss_one (ps_ret (pe_callB (show CallR _ (.builtin "sum") (rSum K) from cr_sum (by rfl)) (by rfl) ms (by decide +kernel) (pa_cons (pe_lc (own := [("name", 3), ("power", 4), ("coefficient", 5)]) (g := gTup K 3 (gCons (gName 3) (gCons (gName 4) (gCons (gName 5) gNil)))) rfl S.nd (pi_tup (pv 0))
        (blkOk_by (N := NWo) (sc := defScope sWorth) (by decide +kernel)) (fun _ _ _ _ _ => pg_tup rfl (pgs_cons (pg_name (i := 3) S.nd rfl (.inl rfl)) (pgs_cons (pg_name (i := 4) S.nd rfl (.inl rfl)) (pgs_cons (pg_name (i := 5) S.nd rfl (.inl rfl)) pgs_nil)))) (fun _ _ _ _ _ => pts_nil)
        (fun _ _ _ _ _ => pe_op op_mul (pe_op op_mul (pv 5) (pe_dget hu (pv 1) (pv 3) (fun _ _ => rfl))) (pe_ix (show IxR _ (rIxT K) from ix_tup) (pv 2) (pv 4) (fun _ _ => rfl)))) pa_nil))), ?_⟩
    refine ⟨_, rfl, t, rfl, ⟨xs, .inl hx⟩, fun D nD => lc_it (D := D) (walk_tup (K := K) (a := t)) (PV H D ((ts.map fun m => m.2.2 * env m.1 * pf m.2.1).map V.int)) (PV.zero nD) (fun _ _ _ pb => .inl (Rd.same hx pb.1)) ?_ ?_⟩
    · rintro i x H3 H4 hi pb ⟨rfl, hxi⟩
      obtain ⟨m, a, hm, rfl, ra⟩ := at_ i x hxi
      obtain ⟨hc, hval, ⟨k, hk, hpk⟩, hb⟩ := ok m (List.mem_of_getElem? hm)
      refine ⟨a, _, rfl, .inl (Rd.same ra pb.1), rfl, _, _, rfl, _, _, rfl, _, _, rfl, rfl, rfl, ?_⟩
      dsimp only [tYes]
      rw [if_pos rfl]
      refine ⟨_, rfl, _, rfl, _, rfl, vd, _, rfl, .inl ⟨kv, .inr m.1, Rd.same hv pb.1, rfl, hval.symm⟩, _, _, rfl, rfl, .inl ⟨by omega, by omega⟩, ?_⟩
      refine ⟨_, rfl, _, rfl, pw, _, _, V.int (pf m.2.1), rfl, rfl, .inl (Rd.same hp pb.1), ?_, ?_⟩
      · have z := atI_nat (xs := ps.map V.int) (j := k) (v := V.int (pf m.2.1)) (by rw [List.getElem?_map, hpk]; rfl)
        rw [← hk] at z
        exact z
      · refine ⟨_, _, rfl, rfl, .inr ⟨by omega, by omega⟩, ?_⟩
        refine pb.step (Same.refl _) nD (by omega) ?_
        rw [List.getElem?_map, List.getElem?_map, hm]
        rfl
    · intro H3 pb
      have hl : ((ts.map fun m => m.2.2 * env m.1 * pf m.2.1).map V.int).length = xs.length := by rw [List.length_map, List.length_map, el]
      rw [← hl] at pb
      exact ⟨D, _, rfl, SqL.of pb.all, q H3 pb.1⟩
end
end Kn
-- part SEq
set_option maxHeartbeats 4000000
/-! == of dicts whose values are data or such dicts, whatever it answers. -/
namespace L2
open PySem PySem.Spec PyProof.Rows
/-- what the values of one dict answer, looked up in the other -/
def HitsV (E : V → V → Bool → Prop) (ls : List (Key × V)) : List (Key × V) → Bool → Prop
  | [], r => r = true
  | p :: rest, r => (valV ls p.1 = none ∧ r = false) ∨ ∃ u b r', valV ls p.1 = some u ∧ E p.2 u b ∧ HitsV E ls rest r' ∧ r = (b && r')
def DicE (H : Hp) (E : V → V → Bool → Prop) (x y : V) (r : Bool) : Prop := ∃ a b ks ls q, x = .ref a ∧ y = .ref b ∧ (a = b → r = true) ∧ Rd H a (.dK ks) ∧ Rd H b (.dK ls) ∧ (ks.length = ls.length → HitsV E ls ks q) ∧ r = (decide (ks.length = ls.length) && q)
def EqB (K : PySem.W.Frag) (H : Hp) (x y : V) (r : Bool) : Prop := ∃ d e, Dp K H x d ∧ Dp K H y e ∧ d.canLay0 = true ∧ e.canLay0 = true ∧ d.depth ≤ 8 ∧ r = PyData.eqv d e
def EqN (K : PySem.W.Frag) (H : Hp) : Nat → V → V → Bool → Prop
  | 0 => EqB K H
  | n + 1 => fun x y r => EqB K H x y r ∨ DicE H (EqN K H n) x y r
theorem hitsV_run {P : Program} {w : World} {A : Around} {s : Shared} {F : V → V → Bool → Prop} (ih : ∀ x y v u r, F x y r → RelV x v → RelV y u → SeqAt.EqP P w A s v u r) {ls : List (Key × V)} {vb : List (Key × Value)} (rb : KV ls vb) {ks : List (Key × V)} {va : List (Key × Value)}
    (ra : KV ks va) : ∀ {r : Bool}, HitsV F ls ks r → PySem.W.KeqHitsP P w A s vb va r := by
  unfold KV at ra
  induction ra with
  | nil =>
    intro r h
    obtain rfl : r = true := h
    exact .nil
  | @cons p q ps qs h t k =>
    intro r hp
    obtain ⟨h1, h2⟩ := h
    obtain ⟨key, v⟩ := q
    have h1' : p.1 = key := h1
    rcases hp with ⟨e, rfl⟩ | ⟨u, b, r', e, f, hr, rfl⟩
    · refine .miss ?_
      have rr : RelO (valV ls p.1) (valueAt vb p.1) := rb.val p.1
      rw [e, h1'] at rr
      cases z : valueAt vb key with
      | none => rfl
      | some y =>
        rw [z] at rr
        exact rr.elim
    · have rr : RelO (some u) (valueAt vb p.1) := by rw [← e]; exact rb.val p.1
      obtain ⟨y, hy, ry⟩ := rr.some_of
      rw [h1'] at hy
      exact .hit hy (ih _ _ _ _ _ f h2 ry) (k hr)
section
variable {X : Cx} {pins : List (Addr × Obj)} {σ : St} {H : Hp} {s : Shared}
theorem dicE_run (I : Inv X pins σ H s) {A : Around} {F : V → V → Bool → Prop} (hu : A.units < cLine) (ih : ∀ x y v u r, F x y r → RelV x v → RelV y u → SeqAt.EqP X.prog X.w A.in1 s v u r) {x y : V} {v u : Value} {r : Bool} (h : DicE H F x y r) (rx : RelV x v) (ry : RelV y u)
    (E Q : Value → Shared → Prop) (q : Q (.bool r) s) : wpAny (model X.prog X.w) A (richCompare .Eq v u) Q E s := by
  obtain ⟨a, b, ks, ls, z, rfl, rfl, _, ha, hb, hp, rfl⟩ := h
  cases (show v = Value.ref a from rx)
  cases (show u = Value.ref b from ry)
  obtain ⟨_, ya, va, ra, da⟩ := dk_rd I.hok ha
  obtain ⟨_, yb, vb, rb, db⟩ := dk_rd I.hok hb
  have e : ks.length = va.length := ra.length
  have e2 : ls.length = vb.length := rb.length
  refine PySem.W.rcP_dicts (knd := mixKind X.prog X.w) (r := z) ya yb da db hu (fun hl => hitsV_run ih rb ra (hp (by omega))) E Q ?_
  rw [← e, ← e2]
  have e3 : (ks.length == ls.length) = decide (ks.length = ls.length) := by
    by_cases h : ks.length = ls.length
    · rw [decide_eq_true h]; exact beq_iff_eq.mpr h
    · rw [decide_eq_false h]; exact beq_eq_false_iff_ne.mpr h
  rw [e3]
  exact q
theorem eqN_run (I : Inv X pins σ H s) : ∀ (n : Nat) (A : Around), A.units + n + 10 < cLine → ∀ (x y : V) (v u : Value) (r : Bool), EqN X.K H n x y r → RelV x v → RelV y u → SeqAt.EqP X.prog X.w A s v u r := by
  have base : ∀ (A : Around), A.units + 10 < cLine → ∀ (x y : V) (v u : Value) (r : Bool), EqB X.K H x y r → RelV x v → RelV y u → SeqAt.EqP X.prog X.w A s v u r := by
    rintro A hu x y v u r ⟨d, e, h1, h2, l1, l2, dp, rfl⟩ rx ry
    obtain ⟨as, q1⟩ := Dp.reads I d x v h1 rx
    obtain ⟨bs, q2⟩ := Dp.reads I e y u h2 ry
    exact (SeqAt.eqAt_reads d e A s v u as bs q1 q2 l1 l2 (by omega)).eqP
  intro n
  induction n with
  | zero => exact fun A hu => base A (by omega)
  | succ n ih =>
    intro A hu x y v u r h rx ry
    rcases h with h | h
    · exact base A (by omega) x y v u r h rx ry
    · have step := dicE_run I (A := A) (by omega) (fun x y v u r h => ih A.in1 (by show A.units + 1 + n + 10 < cLine; omega) x y v u r h) h rx ry
      obtain ⟨a, b, ks, ls, z, rfl, rfl, ne, _⟩ := h
      cases (show v = Value.ref a from rx)
      cases (show u = Value.ref b from ry)
      by_cases e : a = b
      · rw [ne e, e]
        exact (SeqAt.EqAt.same _).eqP
      · exact SeqAt.eqP_refs e step
end
/-- x == y, two dicts -/
def rEqN (K : PySem.W.Frag) : R2 := fun x y H Q => ∃ n r, n ≤ 8 ∧ DicE H (EqN K H n) x y r ∧ Q (.bl r) H
theorem op_eqN {X : Cx} (hu : X.A.units + 64 < cLine) : OpR X (compareOp .Eq) (rEqN X.K) := by
  intro pins s σ H x y v u Q I rx ry h
  obtain ⟨n, r, hn, h, q⟩ := h
  exact dicE_run I (A := X.A) (by omega) (fun x y v u r h => eqN_run I n X.A.in1 (by show X.A.units + 1 + n + 10 < cLine; omega) x y v u r h) h rx ry _ _ ⟨.bl r, H, I, rfl, q⟩
end L2
-- part SLoop
set_option maxHeartbeats 4000000
/-! What a loop is, in words and on the heap. -/
namespace Kn
open PySem PySem.Spec PyProof.Rows L2 Err
abbrev sCls : Stmt := topS 23
abbrev sInit : Stmt := inClass sCls 0
abbrev sEqP : Stmt := inClass sCls 1
abbrev sStartP : Stmt := inClass sCls 2
abbrev sStepsP : Stmt := inClass sCls 3
abbrev sLastP : Stmt := inClass sCls 4
abbrev sKindsP : Stmt := inClass sCls 5
abbrev sVarsP : Stmt := inClass sCls 6
abbrev sAnswer : Stmt := inClass sCls 7
abbrev sHeld : Stmt := inClass sCls 8
abbrev sAlong : Stmt := inClass sCls 9
abbrev sBegunP : Stmt := inClass sCls 10
abbrev sBehind : Stmt := inClass sCls 11
abbrev sTold : Stmt := inClass sCls 12
abbrev Sums : Type := List (Str × List Tm)
abbrev Stps : Type := List (Str × Sums)
structure Lm where
  start : List (Str × Int)
  steps : Stps
  last : List Tm
def Lm.names (m : Lm) : List Str := m.start.map (·.1)
/-- key by key -/
inductive KvP {β : Type} (R : V → β → Prop) : List (Key × V) → List (Str × β) → Prop
  | nil : KvP R [] []
  | cons {ks : List (Key × V)} {l : List (Str × β)} {x : Str} {v : V} {b : β} (h : R v b) (r : KvP R ks l) : KvP R ((.inr x, v) :: ks) ((x, b) :: l)
namespace KvP
variable {β : Type} {R R' : V → β → Prop}
theorem mono (f : ∀ v b, R v b → R' v b) {ks : List (Key × V)} {l : List (Str × β)} (h : KvP R ks l) : KvP R' ks l := by
  induction h with
  | nil => exact .nil
  | cons h _ ih => exact .cons (f _ _ h) ih
theorem keys {ks : List (Key × V)} {l : List (Str × β)} (h : KvP R ks l) : ks.map (·.1) = (l.map (·.1)).map Sum.inr := by
  induction h with
  | nil => rfl
  | cons h r ih => rw [List.map_cons, List.map_cons, List.map_cons, ih]
theorem len {ks : List (Key × V)} {l : List (Str × β)} (h : KvP R ks l) : ks.length = l.length := by
  induction h with
  | nil => rfl
  | cons h r ih => rw [List.length_cons, List.length_cons, ih]
theorem snoc {ks : List (Key × V)} {l : List (Str × β)} {x : Str} {v : V} {b : β} (h : KvP R ks l) (r : R v b) : KvP R (ks ++ [(.inr x, v)]) (l ++ [(x, b)]) := by
  induction h with
  | nil => exact .cons r .nil
  | cons h _ ih => exact .cons h ih
theorem at_ : ∀ {ks : List (Key × V)} {l : List (Str × β)} {i : Nat} {k : Key} {v : V}, KvP R ks l → ks[i]? = some (k, v) → ∃ x b, l[i]? = some (x, b) ∧ k = .inr x ∧ R v b
  | _, _, 0, k, v, .cons h r, e => by
    cases e
    exact ⟨_, _, rfl, rfl, h⟩
  | _, _, i + 1, k, v, .cons h r, e => by
    obtain ⟨x, b, e1, e2, e3⟩ := at_ (i := i) r (by simpa using e)
    exact ⟨x, b, by simpa using e1, e2, e3⟩
theorem there : ∀ {ks : List (Key × V)} {l : List (Str × β)} {i : Nat} {x : Str} {b : β}, KvP R ks l → l[i]? = some (x, b) → ∃ v, ks[i]? = some (.inr x, v) ∧ R v b
  | _, _, 0, x, b, .cons h r, e => by
    cases e
    exact ⟨_, rfl, h⟩
  | _, _, i + 1, x, b, .cons h r, e => by
    obtain ⟨v, e1, e2⟩ := there (i := i) r (by simpa using e)
    exact ⟨v, by simpa using e1, e2⟩
end KvP
theorem valV_cons (k k2 : Key) (v : V) (kvs : List (Key × V)) : valV ((k, v) :: kvs) k2 = if k = k2 then some v else valV kvs k2 := by
  unfold valV
  by_cases h : k = k2
  · rw [List.find?_cons_of_pos (by simpa using h), if_pos h]; rfl
  · rw [List.find?_cons_of_neg (by simpa using h), if_neg h]
theorem look_cons {β : Type} (k k2 : Str) (v : β) (st : List (Str × β)) : ((k, v) :: st).lookup k2 = if k = k2 then some v else st.lookup k2 := by
  rw [List.lookup_cons]
  by_cases h : k = k2
  · rw [if_pos h, h]; simp
  · rw [if_neg h]
    have : (k2 == k) = false := by simpa using fun z => h z.symm
    rw [this]
theorem look_mem {β : Type} : ∀ {st : List (Str × β)} {t : Str} {b : β}, (st.map (·.1)).Nodup → (t, b) ∈ st → st.lookup t = some b
  | (k, v) :: st, t, b, nd, h => by
    rw [look_cons]
    obtain ⟨n1, n2⟩ := List.nodup_cons.mp (show (k :: st.map (·.1)).Nodup from nd)
    rcases List.mem_cons.mp h with e | e
    · cases e
      rw [if_pos rfl]
    · rw [if_neg fun z => n1 (by rw [z]; exact List.mem_map.mpr ⟨_, e, rfl⟩)]
      exact look_mem n2 e
theorem look_none {β : Type} : ∀ {st : List (Str × β)} {t : Str}, t ∉ st.map (·.1) → st.lookup t = none
  | [], _, _ => rfl
  | (k, v) :: st, t, h => by
    rw [look_cons, if_neg fun z => h (by rw [z]; exact List.mem_cons_self ..)]
    exact look_none fun z => h (List.mem_cons_of_mem _ z)
theorem look_in {β : Type} : ∀ {st : List (Str × β)} {t : Str}, t ∈ st.map (·.1) → ∃ b, st.lookup t = some b ∧ (t, b) ∈ st
  | (k, v) :: st, t, h => by
    rw [look_cons]
    by_cases e : k = t
    · subst e
      exact ⟨v, if_pos rfl, List.mem_cons_self ..⟩
    · obtain ⟨b, h1, h2⟩ := look_in ((List.mem_cons.mp h).resolve_left fun z => e z.symm)
      exact ⟨b, by rw [if_neg e]; exact h1, List.mem_cons_of_mem _ h2⟩
theorem KvP.get {β : Type} {R : V → β → Prop} {ks : List (Key × V)} {l : List (Str × β)} {x : Str} {b : β} (h : KvP R ks l) (e : l.lookup x = some b) : ∃ v, valV ks (.inr x) = some v ∧ R v b := by
  induction h with
  | nil => cases e
  | @cons ks l y v c h r ih =>
    rw [look_cons] at e
    rw [valV_cons]
    by_cases q : y = x
    · rw [if_pos q] at e
      cases e
      exact ⟨v, by rw [if_pos (by rw [q])], h⟩
    · rw [if_neg q] at e
      rw [if_neg fun z => q (Sum.inr.inj z)]
      exact ih e
theorem KvP.miss {β : Type} {R : V → β → Prop} {ks : List (Key × V)} {l : List (Str × β)} {x : Str} (h : KvP R ks l) (e : x ∉ l.map (·.1)) : valV ks (.inr x) = none := by
  induction h with
  | nil => rfl
  | @cons ks l y v c h r ih =>
    rw [valV_cons, if_neg fun z => e (by rw [← Sum.inr.inj z]; exact List.mem_cons_self ..)]
    exact ih fun z => e (List.mem_cons_of_mem _ z)
/-! ### on the heap -/
def IntR (v : V) (i : Int) : Prop := v = .int i
/-- a dict of whole numbers -/
def IntD (H : Hp) (a : Addr) (l : List (Str × Int)) : Prop := ∃ ks, H a = some (.dK ks) ∧ KvP IntR ks l
def SumR (H : Hp) (v : V) (ts : List Tm) : Prop := ∃ t, v = .ref t ∧ Is H (.ref t) (sumW ts)
/-- a dict of sums -/
def SumD (H : Hp) (a : Addr) (l : Sums) : Prop := ∃ ks, H a = some (.dK ks) ∧ KvP (SumR H) ks l
def StpR (H : Hp) (v : V) (l : Sums) : Prop := ∃ b, v = .ref b ∧ SumD H b l
/-- a dict of such dicts -/
def StpD (H : Hp) (a : Addr) (l : Stps) : Prop := ∃ ks, H a = some (.dK ks) ∧ KvP (StpR H) ks l
theorem IntD.same {H H' : Hp} {a : Addr} {l : List (Str × Int)} (h : IntD H a l) (s : Same H H') : IntD H' a l := by
  obtain ⟨ks, h1, h2⟩ := h
  exact ⟨ks, s _ _ h1, h2⟩
theorem SumR.same {H H' : Hp} {v : V} {ts : List Tm} (h : SumR H v ts) (s : Same H H') : SumR H' v ts := by
  obtain ⟨t, e, h⟩ := h
  exact ⟨t, e, h.same s⟩
theorem SumD.same {H H' : Hp} {a : Addr} {l : Sums} (h : SumD H a l) (s : Same H H') : SumD H' a l := by
  obtain ⟨ks, h1, h2⟩ := h
  exact ⟨ks, s _ _ h1, h2.mono fun _ _ r => r.same s⟩
theorem StpR.same {H H' : Hp} {v : V} {l : Sums} (h : StpR H v l) (s : Same H H') : StpR H' v l := by
  obtain ⟨b, e, h⟩ := h
  exact ⟨b, e, h.same s⟩
theorem StpD.same {H H' : Hp} {a : Addr} {l : Stps} (h : StpD H a l) (s : Same H H') : StpD H' a l := by
  obtain ⟨ks, h1, h2⟩ := h
  exact ⟨ks, s _ _ h1, h2.mono fun _ _ r => r.same s⟩
def lflds (sd st ls : Addr) : List (Str × V) := [("_start", .ref sd), ("_steps", .ref st), ("_last", .ref ls)]
theorem lf_start (sd st ls : Addr) : (lflds sd st ls).lookup ("_start" : Str) = some (.ref sd) := by kernel_rfl
theorem lf_steps (sd st ls : Addr) : (lflds sd st ls).lookup ("_steps" : Str) = some (.ref st) := by kernel_rfl
theorem lf_last (sd st ls : Addr) : (lflds sd st ls).lookup ("_last" : Str) = some (.ref ls) := by kernel_rfl
/-- a loop stands at p -/
structure LoopAt (C : Addr) (H : Hp) (p : Addr) (m : Lm) : Prop where
  ex : ∃ dx sd st ls, H p = some (.ins C dx (lflds sd st ls)) ∧ IntD H sd m.start ∧ StpD H st m.steps ∧ Is H (.ref ls) (sumW m.last)
theorem LoopAt.same {C : Addr} {H H' : Hp} {p : Addr} {m : Lm} (h : LoopAt C H p m) (s : Same H H') : LoopAt C H' p m := by
  obtain ⟨dx, sd, st, ls, h1, h2, h3, h4⟩ := h.ex
  exact ⟨dx, sd, st, ls, s _ _ h1, h2.same s, h3.same s, h4.same s⟩
/-! ### what is asked of it -/
def TmIn (names : List Str) (t : Tm) : Prop := (t.1 = "" ∨ t.1 ∈ names) ∧ 0 ≤ t.2.1 ∧ t.2.1 ≤ 2 ∧ -9 ≤ t.2.2 ∧ t.2.2 ≤ 9 ∧ t.2.2 ≠ 0
structure SumOk (names : List Str) (ts : List Tm) : Prop where
  t : ∀ t ∈ ts, TmIn names t
  asc : ((ts.zip ts.tail).all fun p => lt2 (p.1.1, p.1.2.1) (p.2.1, p.2.2.1)) = true
structure NmOk (names : List Str) : Prop where
  ti : Tis names
  n1 : 1 ≤ names.length
  n3 : names.length ≤ 3
structure LoopOk (m : Lm) : Prop where
  nm : NmOk m.names
  sv : ∀ p ∈ m.start, -99 ≤ p.2 ∧ p.2 ≤ 99
  kn : NmOk (m.steps.map (·.1))
  ss : ∀ p ∈ m.steps, p.2.map (·.1) = m.names ∧ ∀ q ∈ p.2, SumOk m.names q.2
  la : SumOk m.names m.last
  l0 : ∀ t ∈ m.last, t.2.1 = 0
/-- what the class's defs ask of the class -/
structure PTxt (K : PySem.W.Frag) (C : Addr) : Prop where
  cl : Cls K C
  nS : NoAttr K C "_start"
  nT : NoAttr K C "_steps"
  nL : NoAttr K C "_last"
/-! ### the judges say yes -/
theorem isNameTI : ∀ t ∈ TI, isName t = true ∧ t.cps.size ≤ 900 ∧ PyData.strOk t = true ∧ t ≠ "" ∧ t ≠ "t" ∧ t ≠ "q" := by decide +kernel
def startW (l : List (Str × Int)) : W := .dct (l.map fun p => (some (.inr p.1), .int p.2))
def sumsW (l : Sums) : W := .dct (l.map fun p => (some (.inr p.1), sumW p.2))
def stepsW (l : Stps) : W := .dct (l.map fun p => (some (.inr p.1), sumsW p.2))
theorem is_kv {β : Type} {H : Hp} {R : V → β → Prop} {f : β → W} {ks : List (Key × V)} {l : List (Str × β)} (h : KvP R ks l) : (∀ p ∈ l, ∀ v, R v p.2 → Is H v (f p.2)) → (∀ x ∈ l.map (·.1), x.cps.size ≤ 900 ∧ PyData.strOk x = true) →
    IsKV H (ks.map fun p => (some p.1, p.2)) (l.map fun p => (some (.inr p.1), f p.2)) := by
  induction h with
  | nil => exact fun _ _ => .nil
  | @cons ks l x v b h r ih => exact fun hR sm => .cons (sm _ (List.mem_cons_self ..)) (hR (x, b) (List.mem_cons_self ..) _ h) (ih (fun p hp => hR p (List.mem_cons_of_mem _ hp)) fun x hx => sm x (List.mem_cons_of_mem _ hx))
theorem sm_ti {l : List Str} (h : ∀ t ∈ l, t ∈ TI) : ∀ x ∈ l, x.cps.size ≤ 900 ∧ PyData.strOk x = true := fun x hx => ⟨(isNameTI x (h x hx)).2.1, (isNameTI x (h x hx)).2.2.1⟩
theorem NmOk.sm {l : List Str} (h : NmOk l) : ∀ x ∈ l, x.cps.size ≤ 900 ∧ PyData.strOk x = true := sm_ti h.ti.inT
theorem IntD.is {H : Hp} {a : Addr} {l : List (Str × Int)} (h : IntD H a l) (n : NmOk (l.map (·.1))) : Is H (.ref a) (startW l) := by
  obtain ⟨ks, h1, h2⟩ := h
  have hl := h2.len
  have := n.n3
  rw [List.length_map] at this
  exact .dct (by rw [List.length_map]; omega) ⟨ks, .inl h1, rfl⟩ (is_kv (f := fun i => .int i) h2 (fun p _ v r => by rw [show v = V.int p.2 from r]; exact .int _) n.sm)
theorem SumD.is {H : Hp} {a : Addr} {l : Sums} (h : SumD H a l) (n : NmOk (l.map (·.1))) : Is H (.ref a) (sumsW l) := by
  obtain ⟨ks, h1, h2⟩ := h
  have hl := h2.len
  have := n.n3
  rw [List.length_map] at this
  exact .dct (by rw [List.length_map]; omega) ⟨ks, .inl h1, rfl⟩ (is_kv (f := fun ts => sumW ts) h2 (fun p _ v ⟨t, e, i⟩ => by rw [e]; exact i) n.sm)
theorem StpD.is {H : Hp} {a : Addr} {l : Stps} (h : StpD H a l) (n : NmOk (l.map (·.1))) (n2 : ∀ p ∈ l, NmOk (p.2.map (·.1))) : Is H (.ref a) (stepsW l) := by
  obtain ⟨ks, h1, h2⟩ := h
  have hl := h2.len
  have := n.n3
  rw [List.length_map] at this
  exact .dct (by rw [List.length_map]; omega) ⟨ks, .inl h1, rfl⟩ (is_kv (f := fun ts => sumsW ts) h2 (fun p hp v ⟨t, e, i⟩ => by rw [e]; exact i.is (n2 p hp)) n.sm)
theorem isDctN_ok {β : Type} {f : β → W} {l : List (Str × β)} (n : NmOk (l.map (·.1))) : isDctN 1 3 (.dct (l.map fun p => (some (.inr p.1), f p.2))) = true := by
  have h1 := n.n1
  have h3 := n.n3
  rw [List.length_map] at h1 h3
  show (decide ((1 : Int) ≤ _) && (decide (_ ≤ (3 : Int)) && _)) = true
  rw [List.length_map, decide_eq_true (by omega), decide_eq_true (by omega), Bool.true_and, Bool.true_and, List.all_eq_true]
  intro p hp
  obtain ⟨q, hq, e⟩ := List.mem_map.mp hp
  rw [← e]
  exact (isNameTI _ (n.ti.inT _ (List.mem_map.mpr ⟨q, hq, rfl⟩))).1
theorem isStart_ok {l : List (Str × Int)} (n : NmOk (l.map (·.1))) (sv : ∀ p ∈ l, -99 ≤ p.2 ∧ p.2 ≤ 99) : isStartW (startW l) = true := by
  show (isDctN 1 3 (.dct (l.map fun p => (some (.inr p.1), .int p.2))) && _) = true
  rw [isDctN_ok (f := fun i => .int i) n, Bool.true_and, List.all_eq_true]
  intro p hp
  obtain ⟨q, hq, e⟩ := List.mem_map.mp hp
  rw [← e]
  have z := sv q hq
  show (decide (-99 ≤ q.2) && decide (q.2 ≤ 99)) = true
  rw [decide_eq_true z.1, decide_eq_true z.2]
  rfl
theorem key_in {ks : List (Key × V)} {names : List Str} (h : ks.map (·.1) = names.map Sum.inr) {x : Str} : isKeyOf ks (.str x) = decide (x ∈ names) := by
  show (valV ks (.inr x)).isSome = _
  induction ks generalizing names with
  | nil =>
    cases names with
    | nil => rfl
    | cons _ _ => cases h
  | cons p ks ih =>
    cases names with
    | nil => cases h
    | cons y names =>
      obtain ⟨e1, e2⟩ := List.cons.inj (show p.1 :: ks.map (·.1) = Sum.inr y :: names.map Sum.inr from h)
      obtain ⟨k, v⟩ := p
      obtain rfl : k = Sum.inr y := e1
      rw [valV_cons]
      by_cases q : y = x
      · subst q
        rw [if_pos rfl, decide_eq_true (List.mem_cons_self ..)]
        rfl
      · rw [if_neg fun z => q (Sum.inr.inj z), ih e2]
        exact decide_eq_decide.mpr ⟨List.mem_cons_of_mem _, fun z => (List.mem_cons.mp z).resolve_left fun y => q y.symm⟩
theorem isTerm_ok {ks : List (Key × V)} {names : List Str} (h : ks.map (·.1) = names.map Sum.inr) {t : Tm} (ht : TmIn names t) : isTermW ks (tmW t) = true := by
  obtain ⟨h1, h2, h3, h4, h5, h6⟩ := ht
  show ((isEmptyW (.str t.1) || isKeyOf ks (.str t.1)) && ((decide (0 ≤ t.2.1) && decide (t.2.1 ≤ 2)) && ((decide (-9 ≤ t.2.2) && decide (t.2.2 ≤ 9)) && !decide (t.2.2 = 0)))) = true
  rw [key_in h, decide_eq_true h2, decide_eq_true h3, decide_eq_true h4, decide_eq_true h5, decide_eq_false h6]
  have e : (isEmptyW (.str t.1) || decide (t.1 ∈ names)) = true := by
    show (decide (t.1 = "") || decide (t.1 ∈ names)) = true
    rcases h1 with z | z
    · rw [decide_eq_true z]
      rfl
    · rw [decide_eq_true z, Bool.or_true]
  rw [e]
  rfl
theorem asc_sum : ∀ ts : List Tm, ascW (ts.map tmW) = (ts.zip ts.tail).all fun p => lt2 (p.1.1, p.1.2.1) (p.2.1, p.2.2.1) := fun ts => by
  unfold ascW
  have e : (ts.map tmW).tail = ts.tail.map tmW := List.map_tail.symm
  rw [e, List.zip_map, List.all_map]
  rfl
theorem isSum_ok {ks : List (Key × V)} {names : List Str} (h : ks.map (·.1) = names.map Sum.inr) {ts : List Tm} (hs : SumOk names ts) : isSumW ks (sumW ts) = true := by
  show ((ts.map tmW).all (isTermW ks) && ascW (ts.map tmW)) = true
  rw [asc_sum, hs.asc, Bool.and_true, List.all_map, List.all_eq_true]
  exact fun t ht => isTerm_ok h (hs.t t ht)
theorem sumIn_ok (ts : List Tm) : SumIn (sumW ts) := fun w hw => by
  obtain ⟨t, _, e⟩ := List.mem_map.mp hw
  rw [← e]
  exact ⟨t.1, rfl⟩
theorem isLast_ok {ks : List (Key × V)} {names : List Str} (h : ks.map (·.1) = names.map Sum.inr) {ts : List Tm} (hs : SumOk names ts) (l0 : ∀ t ∈ ts, t.2.1 = 0) : isLastW ks (sumW ts) = true := by
  show (isSumW ks (sumW ts) && (ts.map tmW).all pw0) = true
  rw [isSum_ok h hs, Bool.true_and, List.all_map, List.all_eq_true]
  intro t ht
  exact decide_eq_true (l0 t ht)
theorem areSums_ok {ks : List (Key × V)} {names : List Str} (h : ks.map (·.1) = names.map Sum.inr) {l : Sums} (hn : l.map (·.1) = names) (hs : ∀ q ∈ l, SumOk names q.2) : areSumsW ks (sumsW l) = true := by
  show (decide ((l.map fun p => (some (Sum.inr p.1), sumW p.2)).length = ks.length) && ((l.map fun p => (some (Sum.inr p.1), sumW p.2)).all (fun p => isKeyOfK ks p.1) && (l.map fun p => (some (Sum.inr p.1), sumW p.2)).all fun p => isSumW ks p.2)) = true
  have hl : ks.length = l.length := by
    have z := congrArg List.length h
    rw [List.length_map, List.length_map, ← hn, List.length_map] at z
    exact z
  rw [List.length_map, decide_eq_true hl.symm, Bool.true_and, List.all_map, List.all_map, Bool.and_eq_true, List.all_eq_true, List.all_eq_true]
  refine ⟨fun p hp => ?_, fun p hp => isSum_ok h (hs p hp)⟩
  show isKeyOf ks (.str p.1) = true
  rw [key_in h, decide_eq_true]
  rw [← hn]
  exact List.mem_map.mpr ⟨p, hp, rfl⟩
theorem areSteps_ok {ks : List (Key × V)} {names : List Str} (h : ks.map (·.1) = names.map Sum.inr) {l : Stps} (n : NmOk (l.map (·.1))) (hs : ∀ p ∈ l, p.2.map (·.1) = names ∧ ∀ q ∈ p.2, SumOk names q.2) : areStepsW ks (stepsW l) = true := by
  show (isDctN 1 3 (.dct (l.map fun p => (some (.inr p.1), sumsW p.2))) && _) = true
  rw [isDctN_ok (f := fun i => sumsW i) n, Bool.true_and, List.all_map, List.all_eq_true]
  exact fun p hp => areSums_ok h (hs p hp).1 (hs p hp).2
theorem stepsIn_ok (l : Stps) : StepsIn (stepsW l) := fun p hp => by
  obtain ⟨q, _, e⟩ := List.mem_map.mp hp
  rw [← e]
  intro r hr
  obtain ⟨z, _, e2⟩ := List.mem_map.mp hr
  rw [← e2]
  exact sumIn_ok z.2
end Kn
-- part Td
set_option maxHeartbeats 4000000
/-! tuple of a dict: its keys. -/
namespace TupD
open PySem PySem.Spec PyProof.Rows
open AutoSeq1 (wpAny_loadPart')
section
variable {prog : Program} {w : World} {A : Around} {E : Value → Shared → Prop} {s : Shared} {T : String} {r d : Addr} {n : Nat} {P : Nat → Value → Prop} {OK : Heap → Prop}
theorem new_src {R : Value → Shared → Prop} (src : PySem.W.KdlSrc prog w T r d n P OK) (calm : A.handled = none) (ok : OK s.heap) (hn : n ≤ sizeLine)
    (fin : ∀ (g : Heap) (tk : Nat) (acc : Array Value), (∀ b o, s.heap.get? b = some o → g.get? b = some o) → ItemsOf P acc n → R (.ref g.objs.size) { s with heap := g.push { cls := .type "tuple", data := .seq acc }, toks := tk }) :
    codeAny (model prog w) A (.call (.builtin "tuple.__new__") ⟨[.type "tuple", .ref r], []⟩) (wants R E) s := by
  apply codeAny_of_tree
  change wpAny _ A.in1 (checkBuiltinCall "tuple.__new__" ⟨[.type "tuple", .ref r], []⟩ >>= fun _ => again (.builtin "tuple.__new__" ⟨[.type "tuple", .ref r], []⟩)) _ _ s
  apply wpAny_bind
  refine wpAny_of_eq (F.newCall_tuple_1 _) (wpAny_pure ⟨plainId_quiet F.plain_tuple_new _, ?_⟩)
  refine codeAny_builtin F.entry_tuple_new ?_
  rw [Around.under_plainId (A := A) F.plain_tuple_new _]
  have a1 := sub_tuple_self
  have a2 := init_tuple_lookup
  have a3 := madeHere_tuple
  have a4 := src.type s ok
  have a5 : (Value.type T == Value.type "tuple") = false := src.notTuple
  have a6 : A.in1.handled = none := by simpa using calm
  have cl : ∀ (Q' : List Value → Shared → Prop) (E' : Value → Shared → Prop), (∀ (h' : Heap) (tk : Nat) (acc : Array Value), (∀ b o, s.heap.get? b = some o → h'.get? b = some o) → ItemsOf P acc n → Q' acc.toList { s with heap := h', toks := tk }) → wpAny (model prog w) A.in1 (collect (.ref r)) Q' E' s := fun Q' E' h => PySem.W.kdu_collect src a6 ok hn h
  wp_walk using wpAny_typeOf a4, cl
  rintro g tk acc kp it
  apply wpAny_bind
  refine wpAny_pure ?_
  change wpAny _ _ (Builtin.Tuple.tupleExact acc.toList.toArray >>= fun v => ret v) _ _ _
  have e : acc.toList.toArray = acc := by simp
  rw [e]
  unfold Builtin.Tuple.tupleExact
  apply wpAny_bind
  refine wpAny_newObj_type ?_ (by show acc.size ≤ sizeLine; rw [it.1]; exact hn)
  exact wpAny_pure (fin g tk acc kp it)
theorem call_src {Q : Value → Shared → Prop} (src : PySem.W.KdlSrc prog w T r d n P OK) (calm : A.handled = none) (ok : OK s.heap) (hn : n ≤ sizeLine)
    (fin : ∀ (g : Heap) (tk : Nat) (acc : Array Value), (∀ b o, s.heap.get? b = some o → g.get? b = some o) → ItemsOf P acc n → Q (.ref g.objs.size) { s with heap := g.push { cls := .type "tuple", data := .seq acc }, toks := tk }) :
    wpAny (model prog w) A (call (.type "tuple") [.ref r]) Q E s := by
  refine callType_codes (Q₁ := fun x s₁ => s₁.TypeIs x "tuple" ∧ Q x s₁) F.called_tuple (F.typeCall_tuple_1 _) F.entry_object_init (new_src src (by simpa using calm) ok hn fun g tk acc kp it => ⟨⟨_, Heap.get?_push_size _ rfl, rfl⟩, fin g tk acc kp it⟩) ?_
  intro x s₁ h
  exact ⟨h.1, F.args_object_init_2 x _, object_init_meets F.called_tuple.init.lookup F.called_tuple.made (by decide) prog w A.in1 _ s₁ ⟨h.1, rfl, h.2⟩⟩
end
end TupD
namespace L2
open PySem PySem.Spec PyProof.Rows
/-- tuple(d): the keys -/
def rTupD : List V → Hp → VK → Prop := fun xs H Q => ∃ a kvs, xs = [.ref a] ∧ H a = some (.dK kvs) ∧ ∀ t, H t = none → Q (.ref t) (upd H t (.tup (kvs.map fun kv => kV kv.1)))
theorem call_tuple_dK {X : Cx} (hc : X.calm = true) : CallR X (.type "tuple") rTupD := by
  rintro pins s σ H xs us Q I r ⟨a, kvs, rfl, ha, q⟩
  obtain ⟨u, rfl, rx⟩ := vals1 r
  cases rx
  obtain ⟨z, lo, vs, rk, dof⟩ := (show ObjOk X.prog X.w H s.heap a (.dK kvs) from I.hok a _ ha)
  obtain ⟨ep, dat⟩ := dof.dictAt
  have hl : kvs.length = vs.length := Paired.length rk
  refine TupD.call_src (PySem.W.kdl_dict (knd := mixKind X.prog X.w) (ep := ep) lo) (I.ok.hd hc) dat (by rw [← hl]; exact z) fun g tk acc kp it => ?_
  have I1 : Inv X pins σ H { s with heap := g, toks := tk } := I.kept kp
  have al : acc.toList.length = vs.length := by rw [Array.length_toList, it.1]
  have rel : Vals (kvs.map fun kv => kV kv.1) acc.toList := by
    refine vals_of_at (by rw [List.length_map, al, hl]) fun j x v h1 h2 => ?_
    obtain ⟨k, y, e1, e2⟩ := it.2 j v (by rw [← Array.getElem?_toList]; exact h2)
    have e3 : (vs.map (·.1))[j]? = some k := by rw [List.getElem?_map, e1]; rfl
    rw [← KV.keys rk] at e3
    have e4 : ((kvs.map (·.1)).map kV)[j]? = some (kV k) := by rw [List.getElem?_map, e3]; rfl
    rw [List.map_map] at e4
    have e5 : some x = some (kV k) := h1.symm.trans e4
    cases e5
    exact keyIs_rel e2
  have new : ObjOk X.prog X.w (upd H g.objs.size (.tup (kvs.map fun kv => kV kv.1))) (g.push { cls := .type "tuple", data := .seq acc }) g.objs.size (.tup (kvs.map fun kv => kV kv.1)) := by
    refine ⟨by rw [List.length_map]; exact z, acc.toList, rel, ?_⟩
    rw [Array.toArray_toList]
    exact IsTup.new _ _
  exact ⟨.ref g.objs.size, _, I1.laid (t' := tk) (fun b o e => Heap.get?_push_of_some _ e) (Nat.le_refl _) new, rfl, q _ (I1.hok.fresh (Nat.le_refl _))⟩
end L2
-- part SInit
set_option maxHeartbeats 8000000
/-! Loop.__init__. -/
namespace Kn
open PySem PySem.Spec PyProof.Rows L2 Err
/-! ### sorted names are one -/
def idxT (t : Str) : Nat := TI.idxOf t
theorem idx_lt : ∀ a ∈ TI, ∀ b ∈ TI, ltCps b.cps.toList a.cps.toList = false → idxT a ≤ idxT b := by decide +kernel
theorem idx_back : ∀ a ∈ TI, TI.getD (idxT a) "" = a := by decide +kernel
theorem rising_idx : ∀ (r : List Str) (p : Str), p ∈ TI → (∀ t ∈ r, t ∈ TI) → risingS p r = true → ((p :: r).map idxT).Pairwise (· ≤ ·)
  | [], p, _, _, _ => List.pairwise_singleton _ _
  | x :: r, p, hp, hr, h => by
    obtain ⟨h1, h2⟩ := Bool.and_eq_true_iff.mp (show (!ltCps x.cps.toList p.cps.toList && risingS x r) = true from h)
    have hx := hr x (List.mem_cons_self ..)
    have ih := rising_idx r x hx (fun t ht => hr t (List.mem_cons_of_mem _ ht)) h2
    have l1 := idx_lt p hp x hx (by simpa using h1)
    refine List.Pairwise.cons (fun i hi => ?_) ih
    rw [List.map_cons] at hi ih
    rcases List.mem_cons.mp hi with e | e
    · rw [e]; exact l1
    · exact Nat.le_trans l1 ((List.pairwise_cons.mp ih).1 i e)
theorem sorted_one {a b : List Str} (h : a.Perm b) (ha : sortedS a = true) (hb : sortedS b = true) (inT : ∀ t ∈ b, t ∈ TI) : a = b := by
  have inA : ∀ t ∈ a, t ∈ TI := fun t ht => inT t (h.mem_iff.mp ht)
  have pw : ∀ l : List Str, (∀ t ∈ l, t ∈ TI) → sortedS l = true → (l.map idxT).Pairwise (· ≤ ·) := fun l hl hs => by
    cases l with
    | nil => exact List.Pairwise.nil
    | cons x r => exact rising_idx r x (hl x (List.mem_cons_self ..)) (fun t ht => hl t (List.mem_cons_of_mem _ ht)) hs
  have e : a.map idxT = b.map idxT := List.Perm.eq_of_pairwise (fun _ _ _ _ h1 h2 => Nat.le_antisymm h1 h2) (pw a inA ha) (pw b inT hb) (h.map _)
  have back : ∀ l : List Str, (∀ t ∈ l, t ∈ TI) → (l.map idxT).map (fun i => TI.getD i "") = l := fun l hl => by
    rw [List.map_map]
    conv => rhs; rw [← List.map_id l]
    exact List.map_congr_left fun t ht => idx_back t (hl t ht)
  rw [← back a inA, e, back b inT]
/-! ### dicts made over a walk -/
theorem dc_walk {J : It} {n : Nat} {G : Hp → Prop} {Y : Nat → Hp → V → Hp → Prop} (w : Walk J n G Y) {g : TG} {tt : TT} {tk tv : TE} {vs : List Nat} {σ : L2.St} {H1 : Hp} {D : Addr} {Qd : Hp → Prop} (Z : Nat → Hp → Prop) (z0 : Z 0 (upd H1 D (.dK []))) (zG : ∀ i H, i ≤ n → Z i H → G H)
    (turn : ∀ i x H H', i < n → Z i H → Y i H x H' → g x (wipe σ vs) H' fun σ2 H2 => wipe σ2 vs = wipe σ vs ∧ tt σ2 H2 fun b H3 => if b = true then tk σ2 H3 fun y H4 => tv σ2 H4 fun z H5 => ∃ kvs k, y = kV k ∧ H5 D = some (.dK kvs) ∧ kvs.length < sizeLine ∧ Z (i + 1) (upd H5 D (.dK (putK kvs k z))) else Z (i + 1) H3)
    (last : ∀ H, Z n H → Qd H) : ∃ W : Nat → Nat → Hp → Prop, (∃ m, W 0 m (upd H1 D (.dK []))) ∧ ∀ i m H, W i m H → (J.stop i H ∧ Qd H) ∨ (J.go i H ∧ ∃ Nx : Hp → Prop, (∀ H', Nx H' → ∃ m', m' < m ∧ W (i + 1) m' H') ∧
      ∀ x H', J.yld i H x H' → g x (wipe σ vs) H' fun σ2 H2 => wipe σ2 vs = wipe σ vs ∧ tt σ2 H2 fun b H3 => if b = true then tk σ2 H3 fun y H4 => tv σ2 H4 fun z H5 => ∃ kvs k, y = kV k ∧ H5 D = some (.dK kvs) ∧ kvs.length < sizeLine ∧ Nx (upd H5 D (.dK (putK kvs k z))) else Nx H3) := by
  refine ⟨fun i m H => m + i = n ∧ Z i H, ⟨n, Nat.add_zero _, z0⟩, fun i m H ⟨e, z⟩ => ?_⟩
  have gd := zG i H (by omega) z
  cases m with
  | zero =>
    obtain rfl : i = n := by omega
    exact .inl ⟨w.stops H gd, last H z⟩
  | succ m =>
    have lt : i < n := by omega
    exact .inr ⟨w.goes i H lt gd, Z (i + 1), fun H' z' => ⟨m, Nat.lt_succ_self _, by omega, z'⟩, fun x H' y => turn i x H H' lt z (w.yields i H x H' lt gd y)⟩
theorem same_dic {H H' : Hp} {D : Addr} {o : HO} (n : H D = none) (s : Same H H') : Same H (upd H' D o) := same_own n s
/-- a dict over names written in a list, its values of the heap ahead -/
theorem dc_names {K : PySem.W.Frag} {β : Type} {R : V → β → Prop} {l : List (Str × β)} {j : Nat} {σ : L2.St} {H2 : Hp} {lp D : Addr} {tv : TE} {Qd : Hp → Prop} (hlp : H2 lp = some (.lst ((l.map (·.1)).map V.str))) (nD : H2 D = none) (nd : (l.map (·.1)).Nodup) (hz : l.length ≤ 900)
    (hw : ∀ x, wipe ((wipe σ [j]).set j (some x)) [j] = wipe σ [j]) (hk : ∀ x, ((wipe σ [j]).set j (some x))[j]? = some (some x))
    (turn : ∀ (i : Nat) (x : Str) (b : β) (H4 : Hp), l[i]? = some (x, b) → Same H2 H4 → ∀ Qv : VK, (∀ v H5, Same H4 H5 → R v b → Qv v H5) → tv ((wipe σ [j]).set j (some (.str x))) H4 Qv)
    (last : ∀ kvs H3, Same H2 H3 → H3 D = some (.dK kvs) → KvP R kvs l → Qd H3) :
    ∃ W : Nat → Nat → Hp → Prop, (∃ m, W 0 m (upd H2 D (.dK []))) ∧ ∀ i m H, W i m H → ((Itl K lp).stop i H ∧ Qd H) ∨ ((Itl K lp).go i H ∧ ∃ Nx : Hp → Prop, (∀ H', Nx H' → ∃ m', m' < m ∧ W (i + 1) m' H') ∧
      ∀ x H', (Itl K lp).yld i H x H' → gName j x (wipe σ [j]) H' fun σ2 H2 => wipe σ2 [j] = wipe σ [j] ∧ tYes σ2 H2 fun b H3 => if b = true then tVar j σ2 H3 fun y H4 => tv σ2 H4 fun z H5 => ∃ kvs k, y = kV k ∧ H5 D = some (.dK kvs) ∧ kvs.length < sizeLine ∧ Nx (upd H5 D (.dK (putK kvs k z))) else Nx H3) := by
  refine dc_walk walk_list (fun i H' => Same H2 H' ∧ ∃ kvs, H' D = some (.dK kvs) ∧ KvP R kvs (l.take i)) ⟨same_new nD, [], upd_same, .nil⟩ (fun i H' _ z => SqL.of (z.1 _ _ hlp)) ?_ ?_
  · rintro i x H3 H4 hi ⟨s3, kvs, hD, hL⟩ ⟨rfl, hx⟩
    rw [List.length_map, List.length_map] at hi
    have hy : l[i]? = some l[i] := List.getElem?_eq_getElem hi
    generalize l[i] = q at hy
    obtain ⟨t, b⟩ := q
    obtain rfl : V.str t = x := by
      rw [List.getElem?_map, List.getElem?_map, hy] at hx
      exact Option.some.inj hx
    refine ⟨hw _, ?_⟩
    dsimp only [tYes]
    rw [if_pos rfl]
    refine ⟨_, hk _, turn i t b H4 hy s3 _ fun v H5 s5 hv => ⟨kvs, .inr t, rfl, s5 _ _ hD, ?_, same_own nD (s3.trans s5), _, upd_same, ?_⟩⟩
    · have z := hL.len
      rw [List.length_take] at z
      exact small1000 (by omega)
    · have nin : valV kvs (.inr t) = none := by
        refine hL.miss fun z => ?_
        obtain ⟨q, hq, e⟩ := List.mem_map.mp z
        obtain ⟨k, hk, e2⟩ := List.mem_take_iff_getElem.mp hq
        have hk2 : k < i := by omega
        have hk3 : k < l.length := by omega
        have z1 : (l.map (·.1))[k]'(by rw [List.length_map]; exact hk3) = t := by
          rw [List.getElem_map, e2]
          exact e
        have z2 : (l.map (·.1))[i]'(by rw [List.length_map]; exact hi) = t := by
          rw [List.getElem_map, (List.getElem?_eq_some_iff.mp hy).2]
        exact (List.pairwise_iff_getElem.mp (List.nodup_iff_pairwise_ne.mp nd)) k i _ _ hk2 (z1.trans z2.symm)
      have tk : l.take (i + 1) = l.take i ++ [(t, b)] := by rw [List.take_add_one, hy]; rfl
      rw [tk, putK_new _ nin]
      exact hL.snoc hv
  · rintro H3 ⟨s3, kvs, hD, hL⟩
    rw [List.length_map, List.length_map, List.take_length] at hL
    exact last kvs H3 s3 hD hL
end Kn
-- part SNoD
set_option maxHeartbeats 4000000
/-! The heap without the dicts that stood before. -/
namespace Kn
open PySem PySem.Spec PyProof.Rows L2 Err
/-- a sum leans on tuples alone -/
theorem is_tm_to {G G' : Hp} {v : V} {t : Tm} (k : ∀ a xs, Rd G a (.tup xs) → Rd G' a (.tup xs)) (h : Is G v (tmW t)) : Is G' v (tmW t) := by
  cases h with
  | @tup a xs _ hz e r =>
    refine .tup hz (k _ _ e) ?_
    cases r with
    | cons h1 r =>
      cases r with
      | cons h2 r =>
        cases r with
        | cons h3 r =>
          cases r
          cases h1
          cases h2
          cases h3
          exact .cons (.str _ (by assumption) (by assumption)) (.cons (.int _) (.cons (.int _) .nil))
theorem isA_tm_to {G G' : Hp} (k : ∀ a xs, Rd G a (.tup xs) → Rd G' a (.tup xs)) : ∀ {vs : List V} {ts : List Tm}, IsAll G vs (ts.map tmW) → IsAll G' vs (ts.map tmW)
  | _, [], .nil => .nil
  | _, _ :: _, .cons h t => .cons (is_tm_to k h) (isA_tm_to k t)
theorem is_sum_to {G G' : Hp} {v : V} {ts : List Tm} (k : ∀ a xs, Rd G a (.tup xs) → Rd G' a (.tup xs)) (h : Is G v (sumW ts)) : Is G' v (sumW ts) := by
  cases h with
  | tup hz e r => exact .tup hz (k _ _ e) (isA_tm_to k r)
def NoK (u : Option HO) : Prop := ∀ kvs, u ≠ some (.dK kvs)
open Classical in
noncomputable def noD (H0 H : Hp) : Hp := fun b => if NoK (H0 b) then H b else none
theorem noD_at {H0 H : Hp} {b : Addr} {o : HO} (e : H b = some o) (n : NoK (H0 b)) : noD H0 H b = some o := by
  unfold noD
  rw [if_pos n]
  exact e
theorem noD_ne {H0 H : Hp} {b : Addr} {o : HO} (e : noD H0 H b = some o) : NoK (H0 b) ∧ H b = some o := by
  unfold noD at e
  by_cases n : NoK (H0 b)
  · rw [if_pos n] at e
    exact ⟨n, e⟩
  · rw [if_neg n] at e
    cases e
theorem noD_le {H0 H : Hp} : Same (noD H0 H) H := fun b o e => (noD_ne e).2
theorem noK_none {u : Option HO} (e : u = none) : NoK u := fun _ z => by rw [e] at z; cases z
theorem noK_of {u : Option HO} {o : HO} (e : u = some o) (n : ∀ kvs, o ≠ .dK kvs) : NoK u := fun kvs z => by
  rw [e] at z
  exact n kvs (Option.some.inj z)
/-- what was written was a dict of old -/
theorem noD_step {H0 H H' : Hp} (k : ∀ b o, H b = some o → NoK (H0 b) → H' b = some o) : Same (noD H0 H) (noD H0 H') := fun b o e => by
  obtain ⟨n, e⟩ := noD_ne e
  exact noD_at (k b o e n) n
theorem noD_base {H0 H1 H : Hp} (k : ∀ b kvs, H1 b = some (.dK kvs) → H0 b = some (.dK kvs)) : Same (noD H0 H) (noD H1 H) := fun b o e => by
  obtain ⟨n, e⟩ := noD_ne e
  exact noD_at e fun kvs z => n kvs (k b kvs z)
/-- tuples are no dicts of old -/
theorem noD_tup {H0 H : Hp} (k : ∀ b kvs, H0 b = some (.dK kvs) → H b = some (.dK kvs)) (a : Addr) (xs : List V) (h : Rd H a (.tup xs)) : Rd (noD H0 H) a (.tup xs) := by
  have no : NoK (H0 a) := fun kvs z => by
    have q := k a kvs z
    rcases h with e | ⟨o, e⟩ <;> (rw [q] at e; cases e)
  rcases h with e | ⟨o, e⟩
  · exact .inl (noD_at e no)
  · exact .inr ⟨o, noD_at e no⟩
theorem sum_noD {H0 H : Hp} {v : V} {ts : List Tm} (k : ∀ b kvs, H0 b = some (.dK kvs) → H b = some (.dK kvs)) (h : Is H v (sumW ts)) : Is (noD H0 H) v (sumW ts) := is_sum_to (noD_tup k) h
end Kn
-- part SMake
set_option maxHeartbeats 8000000
/-! Loop.__init__, walked. -/
namespace Kn
open PySem PySem.Spec PyProof.Rows L2 Err
/-- what is no own instance stands -/
def SameD (H H' : Hp) : Prop := ∀ b o, H b = some o → (∀ C dx fs, o ≠ .ins C dx fs) → H' b = some o
theorem SameD.of {H H' : Hp} {p C dx : Addr} {fs : List (Str × V)} (hp : H p = some (.ins C dx fs)) (s : ∀ b o, H b = some o → b ≠ p → H' b = some o) : SameD H H' := fun b o e n => s b o e fun z => by
  rw [z, hp] at e
  exact n C dx fs (Option.some.inj e).symm
theorem Rd.data {H H' : Hp} {a : Addr} {u : HO} (h : Rd H a u) (n : ∀ C dx fs, u ≠ .ins C dx fs) (s : SameD H H') : Rd H' a u := by
  rcases h with e | ⟨o, e⟩
  · exact .inl (s _ _ e n)
  · exact .inr ⟨o, s _ _ e (fun _ _ _ z => by cases z)⟩
mutual
theorem Is.data {H H' : Hp} {v : V} {w : W} (s : SameD H H') : Is H v w → Is H' v w
  | .non => .non
  | .bl b => .bl b
  | .int i => .int i
  | .str x h ok => .str x h ok
  | .lst h e t => .lst h (s _ _ e (fun _ _ _ z => by cases z)) (t.data s)
  | .tup h e t => .tup h (Rd.data e (fun _ _ _ z => by cases z) s) (t.data s)
  | .dct h ⟨ks, e, q⟩ t => .dct h ⟨ks, Rd.data e (fun _ _ _ z => by cases z) s, q⟩ (t.data s)
theorem IsAll.data {H H' : Hp} {v : List V} {w : List W} (s : SameD H H') : IsAll H v w → IsAll H' v w
  | .nil => .nil
  | .cons h t => .cons (h.data s) (t.data s)
theorem IsKV.data {H H' : Hp} {v : List (Option Key × V)} {w : List (Option Key × W)} (s : SameD H H') : IsKV H v w → IsKV H' v w
  | .nil => .nil
  | .cons hk h t => .cons hk (h.data s) (t.data s)
end
theorem IntD.data {H H' : Hp} {a : Addr} {l : List (Str × Int)} (h : IntD H a l) (s : SameD H H') : IntD H' a l := by
  obtain ⟨ks, h1, h2⟩ := h
  exact ⟨ks, s _ _ h1 (fun _ _ _ z => by cases z), h2⟩
theorem SumR.data {H H' : Hp} {v : V} {ts : List Tm} (h : SumR H v ts) (s : SameD H H') : SumR H' v ts := by
  obtain ⟨t, e, h⟩ := h
  exact ⟨t, e, h.data s⟩
theorem SumD.data {H H' : Hp} {a : Addr} {l : Sums} (h : SumD H a l) (s : SameD H H') : SumD H' a l := by
  obtain ⟨ks, h1, h2⟩ := h
  exact ⟨ks, s _ _ h1 (fun _ _ _ z => by cases z), h2.mono fun _ _ r => r.data s⟩
theorem StpR.data {H H' : Hp} {v : V} {l : Sums} (h : StpR H v l) (s : SameD H H') : StpR H' v l := by
  obtain ⟨b, e, h⟩ := h
  exact ⟨b, e, h.data s⟩
theorem StpD.data {H H' : Hp} {a : Addr} {l : Stps} (h : StpD H a l) (s : SameD H H') : StpD H' a l := by
  obtain ⟨ks, h1, h2⟩ := h
  exact ⟨ks, s _ _ h1 (fun _ _ _ z => by cases z), h2.mono fun _ _ r => r.data s⟩
def Bp (p : Addr) (H H' : Hp) : Prop := ∀ b o, H b = some o → b ≠ p → H' b = some o
abbrev NIn : List Str := ["self", "start", "steps", "last", "name", "kind"]
theorem scIn : FnScope NIn ["self", "start", "steps", "last"] (defScope sInit) := ⟨rfl, rfl, rfl, by decide +kernel, rfl, by decide +kernel, by decide +kernel⟩
/-- of right parts -/
def spInitV (C : Addr) : Sp := fun vs H Q _ => ∃ p dx sd st ls m, vs = [.ref p, .ref sd, .ref st, .ref ls] ∧ H p = some (.ins C dx []) ∧ IntD H sd m.start ∧ StpD H st m.steps ∧ Is H (.ref ls) (sumW m.last) ∧ LoopOk m ∧ ∀ H', Bp p H H' → LoopAt C (noD H H') p m → Q .non H'
/-- of others -/
def spInitE (CB : Addr) : Sp := fun vs H _ E => ∃ p v u l wv wu wl part, vs = [.ref p, v, u, l] ∧ Is H v wv ∧ NF H v ∧ Is H u wu ∧ Is H l wl ∧ (∀ d H', Same H H' → H' d = none → E (.ref CB) (some d) (upd H' d (.xd [("part", .str part)]))) ∧
  ((isStartW wv = false ∧ part = "start") ∨ ∃ kd ks, v = .ref kd ∧ H kd = some (.dK ks) ∧ isStartW wv = true ∧ NF H u ∧ Deep H u ∧ u ≠ .ref kd ∧ StepsIn wu ∧
    ((areStepsW ks wu = false ∧ part = "steps") ∨ (areStepsW ks wu = true ∧ SumIn wl ∧ isLastW ks wl = false ∧ part = "last")))
theorem nf_of {H : Hp} {a : Addr} {u : HO} (h : H a = some u) (n : ∀ o x, u ≠ .frz o x) : NF H (.ref a) := fun b o x e z => by
  cases e
  rw [h] at z
  exact n o x (Option.some.inj z)
theorem StpD.ne_int {H : Hp} {a b : Addr} {l : Stps} {l2 : List (Str × Int)} (h : StpD H a l) (h2 : IntD H b l2) (n : l ≠ []) : a ≠ b := by
  rintro rfl
  obtain ⟨ks, e, r⟩ := h
  obtain ⟨ks2, e2, r2⟩ := h2
  rw [e] at e2
  cases e2
  cases r with
  | nil => exact n rfl
  | cons h _ =>
    cases r2 with
    | cons h2 _ =>
      obtain ⟨c, rfl, _⟩ := h
      cases h2
theorem StpD.ne_sum {H : Hp} {a b : Addr} {l : Stps} {l2 : Sums} (h : StpD H a l) (h2 : SumD H b l2) (n : l ≠ []) : a ≠ b := by
  rintro rfl
  obtain ⟨ks, e, r⟩ := h
  obtain ⟨ks2, e2, r2⟩ := h2
  rw [e] at e2
  cases e2
  cases r with
  | nil => exact n rfl
  | cons h _ =>
    cases r2 with
    | cons h2 _ =>
      obtain ⟨c, rfl, ks3, e3, _⟩ := h
      obtain ⟨t, e4, i⟩ := h2
      cases e4
      obtain ⟨xs, e5, _⟩ := i.sum
      rcases e5 with e5 | ⟨o, e5⟩
      · rw [e3] at e5
        cases e5
      · rw [e3] at e5
        cases e5
theorem StpD.deep {H : Hp} {a : Addr} {l : Stps} (h : StpD H a l) (n : l ≠ []) : Deep H (.ref a) := by
  intro b ks e e2 p hp
  cases e
  obtain ⟨ks2, e3, r⟩ := id h
  rw [e2] at e3
  cases e3
  obtain ⟨i, hi⟩ := List.getElem?_of_mem hp
  obtain ⟨k, v⟩ := p
  obtain ⟨x, sm, _, _, c, rfl, hs⟩ := r.at_ hi
  obtain ⟨ks3, e4, _⟩ := id hs
  exact ⟨nf_of e4 (fun _ _ z => by cases z), fun z => h.ne_sum hs n (V.ref.inj z).symm⟩
/-- sorted of a dict of few texts -/
def rSD : List V → Hp → VK → Prop := fun xs H Q => ∃ (a : Addr) (kvs : List (Key × V)) (ks : List Str), xs = [.ref a] ∧ Rd H a (.dK kvs) ∧ kvs.map (·.1) = ks.map Sum.inr ∧ ks.length < 64 ∧ ∀ ys p, ys.Perm ks → sortedS ys = true → H p = none → Q (.ref p) (upd H p (.lst (ys.map V.str)))
abbrev scKind : Scope := ⟨.function, [(".0", .local), ("kind", .cell), ("sorted", .globalImplicit), ("start", .cell), ("steps", .cell)], false, false, []⟩
theorem blkOk_in {N : List Str} {sc sc' scope : Scope} {own : List (Str × Nat)} (e : sc' = sc) (h : blkC N sc scope own = true) : BlkOk N sc' scope own := by
  subst e
  exact blkOk_by h
section
variable {P : Program} {w : World} {K : PySem.W.Frag} {mg : Str → Option Value} {base : Heap}
theorem ok_initE {f CB f1 f2 f3 : Addr} {fd fd1 fd2 fd3 : FuncData} {C : Addr} (F : Fun K "__init__" "Loop.__init__" sInit f fd) (T : PTxt K C) (G1 : FnOk P w K mg base CX0 3 f1 fd1 ["value"] spStart) (k1 : PySem.W.keepIn K (.ref f1) = true) (b1 : Binds K fd1 ["value"] []) (g1 : mg "is_start" = some (.ref f1))
    (G2 : FnOk P w K mg base CX0 6 f2 fd2 ["variables", "value"] spSteps) (k2 : PySem.W.keepIn K (.ref f2) = true) (b2 : Binds K fd2 ["variables", "value"] []) (g2 : mg "are_steps" = some (.ref f2))
    (G3 : FnOk P w K mg base CX0 5 f3 fd3 ["variables", "value"] spLast) (k3 : PySem.W.keepIn K (.ref f3) = true) (b3 : Binds K fd3 ["variables", "value"] []) (g3 : mg "is_last" = some (.ref f3))
    (TB : One P K CB "part") (ms : mg "super" = none) (gB : mg "BadLoop" = some (.ref CB)) (kB : PySem.W.keepIn K (.ref CB) = true) (m1 : mg "sorted" = none) :
    FnOk P w K mg base (L2.CX P w) 7 f fd ["self", "start", "steps", "last"] (spOr (spInitV C) (spInitE CB)) := by
  have S := scIn
  refine F.okX S (fun vs H Q E h => ?_) (fun cdv A outer s H vs Q E hr h => ?_)
  · rcases h with ⟨p, dx, sd, st, ls, m, rfl, _⟩ | ⟨p, v, u, l, wv, wu, wl, part, rfl, _⟩ <;> rfl
  · have hu := hu_of hr
    have hr1 := hr.mono (show 1 ≤ 6 by decide)
    have hr3 := hr.mono (show 3 ≤ 6 by decide)
    have hr5 := hr.mono (show 5 ≤ 6 by decide)
    have tk : Takes (cxOf (L2.CX P w) P w K mg base NIn "Loop.__init__" (defScope sInit) f cdv A outer s H E) (fun cls d _ H => E cls d H) := takes_of rfl rfl rfl rfl
    refine ⟨_, pss_cons (ps_if (pt_not (pt_val (pe_call G1 hr3 (by rfl) g1 k1 b1 .nil pass0 (pa_cons (pv 1) pa_nil)))) (pss_one (ps_raise rfl tk (pmk_err TB ms hr1 (by rfl) gB kB pe_str))) pss_nil)
      (pss_cons (ps_if (pt_not (pt_val (pe_call G2 hr (by rfl) g2 k2 b2 .nil pass0 (pa_cons (pv 1) (pa_cons (pv 2) pa_nil))))) (pss_one (ps_raise rfl tk (pmk_err TB ms hr1 (by rfl) gB kB pe_str))) pss_nil)
      (pss_cons (ps_if (pt_not (pt_val (pe_call G3 hr5 (by rfl) g3 k3 b3 .nil pass0 (pa_cons (pv 1) (pa_cons (pv 3) pa_nil))))) (pss_one (ps_raise rfl tk (pmk_err TB ms hr1 (by rfl) gB kB pe_str))) pss_nil)
      (pss_cons (ps_fld (pv 0) (pe_dc (own := [("name", 4)]) (g := gName 4) rfl S.nd (pi_list (pe_callB (call_sortedD rfl) (by rfl) m1 (by decide +kernel) (pa_cons (pv 1) pa_nil))) (blkOk_by (N := NIn) (sc := defScope sInit) (by decide +kernel)) (fun _ _ _ _ _ => pg_name (i := 4) S.nd rfl (.inl rfl)) (fun _ _ _ _ _ => pts_nil)
          (fun _ _ _ _ _ => pv 4) (fun _ _ _ _ _ => pe_dget hu (pv 1) (pv 4) (fun _ _ => rfl))) rfl)
      (pss_cons (ps_fld (pv 0) (pe_dc (own := [("kind", 5)]) (g := gName 5) rfl S.nd (pi_list (pe_callB (call_sortedD rfl) (by rfl) m1 (by decide +kernel) (pa_cons (pv 2) pa_nil))) (blkOk_by (N := NIn) (sc := defScope sInit) (by decide +kernel)) (fun _ _ _ _ _ => pg_name (i := 5) S.nd rfl (.inr rfl)) (fun _ _ _ _ _ => pts_nil)
          (fun _ _ _ _ _ => pv 5) (fun _ _ _ _ _ => pe_dc (own := [("name", 4)]) (g := gName 4) rfl S.nd (show PI _ _ _ (iList K (tCB rSD (tCons (tVar 1) tNil))) from pi_list (pe_callB (show CallR _ (.builtin "sorted") rSD from call_sortedD rfl) (by rfl) m1 (by decide +kernel) (pa_cons (pv 1) pa_nil))) (blkOk_in (N := NIn) (sc := scKind) (by kernel_rfl) (by decide +kernel)) (fun _ _ _ _ _ => pg_name (i := 4) S.nd rfl (.inl rfl)) (fun _ _ _ _ _ => pts_nil)
            (fun _ _ _ _ _ => pv 4) (fun _ _ _ _ _ => pe_dget hu (pe_dget hu (pv 2) (pv 5) (fun _ _ => rfl)) (pv 4) (fun _ _ => rfl)))) rfl)
      (pss_one (ps_fld (pv 0) (pv 3) rfl)))))), ?_⟩
    rcases h with ⟨p, dx, sd, st, ls, m, rfl, hp, hsd, hst, hls, ok, hQ⟩ | ⟨p, v, u, l, wv, wu, wl, part, rfl, hv, nf, hu2, hl, hE, h⟩
    · have nk := ok.nm
      have kne : m.steps ≠ [] := fun z => by
        have := ok.kn.n1
        rw [z] at this
        exact absurd this (by decide)
      have old : ∀ {Hx : Hp} {b : Addr}, Bp p H Hx → Hx b = none → NoK (H b) := fun {Hx b} bp n kvs z => by
        have q := bp b _ z fun y => by rw [y, hp] at z; cases z
        rw [n] at q
        cases q
      have isS := hsd.is nk
      have isT := hst.is ok.kn fun q hq => by rw [(ok.ss q hq).1]; exact nk
      obtain ⟨ks, hks, hkp⟩ := id hsd
      have hkeys : ks.map (·.1) = m.names.map Sum.inr := hkp.keys
      obtain ⟨kt, hkt, hktp⟩ := id hst
      have nfS : NF H (.ref sd) := nf_of hks (fun _ _ z => by cases z)
      have nfT : NF H (.ref st) := nf_of hkt (fun _ _ z => by cases z)
      have neST : V.ref st ≠ .ref sd := fun z => hst.ne_int hsd kne (V.ref.inj z)
      refine ⟨_, rfl, _, _, rfl, isS, nfS, fun H1 s1 => ⟨_, rfl, ?_⟩⟩
      rw [isStart_ok nk ok.sv]
      refine iteF ⟨_, rfl, _, rfl, _, _, sd, ks, rfl, isT.same s1, nfT.same isT s1, (hst.same s1).deep kne, neST, s1 _ _ hks, stepsIn_ok _, fun H2 s2 => ⟨_, rfl, ?_⟩⟩
      rw [areSteps_ok hkeys ok.kn ok.ss]
      have s12 := s1.trans s2
      refine iteF ⟨_, rfl, _, rfl, _, _, sd, ks, rfl, hls.same s12, .inl (s12 _ _ hks), sumIn_ok _, fun H3 s3 => ⟨_, rfl, ?_⟩⟩
      rw [isLast_ok hkeys ok.la ok.l0]
      have s123 := s12.trans s3
      refine iteF ⟨_, rfl, sd, ks, m.names, rfl, .inl (s123 _ _ hks), hkeys, by have := nk.n3; omega, fun ys lp perm srt nlp => ?_⟩
      obtain rfl : ys = m.names := sorted_one perm srt nk.ti.so nk.ti.inT
      have s4 : Same H (upd H3 lp (.lst (m.names.map V.str))) := s123.trans (same_new nlp)
      have hlp : (upd H3 lp (.lst (m.names.map V.str))) lp = some (.lst (m.names.map V.str)) := upd_same
      generalize upd H3 lp (.lst (m.names.map V.str)) = H4 at s4 hlp ⊢
      have lz : m.start.length ≤ 900 := by
        have := nk.n3
        unfold Lm.names at this
        rw [List.length_map] at this
        omega
      refine ⟨lp, rfl, ⟨_, SqL.of hlp⟩, fun D nD => dc_names (l := m.start) (R := IntR) (j := 4) hlp nD nk.ti.nd lz (fun _ => rfl) (fun _ => rfl) ?_ ?_⟩
      · intro i x b H5 hx s5 Qv hq
        obtain ⟨v, hv, rfl⟩ := hkp.get (look_mem nk.ti.nd (List.mem_of_getElem? hx))
        exact ⟨_, rfl, _, rfl, sd, _, rfl, hv ▸ DGet.k (k := Sum.inr x) ((s4.trans s5) _ _ hks), hq _ _ (Same.refl _) rfl⟩
      · intro kv H5 s5 hD hKv
        have s45 := s4.trans s5
        refine ⟨_, rfl, p, C, dx, _, rfl, s45 _ _ hp, T.cl, T.nS, by show 0 < 1000; decide, ?_⟩
        have fl1 : putF "_start" (V.ref D) ([] : List (Str × V)) = ([(("_start" : Str), V.ref D)] : List (Str × V)) := by kernel_rfl
        rw [fl1]
        have pD : D ≠ p := fun z => by
          rw [z, s45 _ _ hp] at hD
          cases hD
        have bp6 : Bp p H (upd H5 p (.ins C dx [("_start", V.ref D)])) := fun b o e ne => by rw [upd_ne ne]; exact s45 _ _ e
        have sd6 : SameD H (upd H5 p (.ins C dx [("_start", V.ref D)])) := SameD.of hp bp6
        have hp6 : (upd H5 p (.ins C dx [("_start", V.ref D)])) p = some (.ins C dx [("_start", V.ref D)]) := upd_same
        have hD6 : (upd H5 p (.ins C dx [("_start", V.ref D)])) D = some (.dK kv) := by rw [upd_ne pD]; exact hD
        generalize upd H5 p (.ins C dx [("_start", V.ref D)]) = H6 at bp6 sd6 hp6 hD6 ⊢
        have hsd6 := hsd.data sd6
        have hst6 := hst.data sd6
        have hls6 := hls.data sd6
        obtain ⟨ks6, hks6, hkp6⟩ := id hsd6
        obtain ⟨kt6, hkt6, hktp6⟩ := id hst6
        refine ⟨_, rfl, st, kt6, m.steps.map (·.1), rfl, .inl hkt6, hktp6.keys, by have := ok.kn.n3; omega, fun ys lp2 perm srt nlp2 => ?_⟩
        obtain rfl : ys = m.steps.map (·.1) := sorted_one perm srt ok.kn.ti.so ok.kn.ti.inT
        have s7 : Same H6 (upd H6 lp2 (.lst ((m.steps.map (·.1)).map V.str))) := same_new nlp2
        have hlp2 : (upd H6 lp2 (.lst ((m.steps.map (·.1)).map V.str))) lp2 = some (.lst ((m.steps.map (·.1)).map V.str)) := upd_same
        generalize upd H6 lp2 (.lst ((m.steps.map (·.1)).map V.str)) = H7 at s7 hlp2 ⊢
        refine ⟨lp2, rfl, ⟨_, SqL.of hlp2⟩, fun D2 nD2 => dc_walk walk_list (fun i H' => Same H7 H' ∧ ∃ kvs, H' D2 = some (.dK kvs) ∧ KvP (fun v l => ∃ b kv', v = .ref b ∧ b ≠ D2 ∧ H' b = some (.dK kv') ∧ KvP (SumR H7) kv' l ∧ NoK (H b)) kvs (m.steps.take i)) ⟨same_new nD2, [], upd_same, .nil⟩ (fun i H' _ z => SqL.of (z.1 _ _ hlp2)) ?_ ?_⟩
        · rintro i x H8 H9 hi ⟨s8, kvs, hD2, hL⟩ ⟨rfl, hx⟩
          rw [List.length_map, List.length_map] at hi
          have hy : m.steps[i]? = some m.steps[i] := List.getElem?_eq_getElem hi
          generalize m.steps[i] = qq at hy
          obtain ⟨kd, sm⟩ := qq
          obtain rfl : V.str kd = x := by
            rw [List.getElem?_map, List.getElem?_map, hy] at hx
            exact Option.some.inj hx
          have hmem := List.mem_of_getElem? hy
          have hs9 := hst6.same (s7.trans s8)
          obtain ⟨smn, smo⟩ := ok.ss _ hmem
          refine ⟨rfl, ?_⟩
          dsimp only [tYes]
          rw [if_pos rfl]
          refine ⟨_, rfl, _, rfl, sd, ks6, m.names, rfl, .inl ((s7.trans s8) _ _ hks6), hkp6.keys, by have := nk.n3; omega, fun ys lp3 perm srt nlp3 => ?_⟩
          obtain rfl : ys = m.names := sorted_one perm srt nk.ti.so nk.ti.inT
          have s10 : Same H9 (upd H9 lp3 (.lst (m.names.map V.str))) := same_new nlp3
          have hlp3 : (upd H9 lp3 (.lst (m.names.map V.str))) lp3 = some (.lst (m.names.map V.str)) := upd_same
          generalize upd H9 lp3 (.lst (m.names.map V.str)) = H10 at s10 hlp3 ⊢
          rw [← smn] at hlp3
          have ndk : (m.steps.map (·.1)).Nodup := ok.kn.ti.nd
          refine ⟨lp3, rfl, ⟨_, SqL.of hlp3⟩, fun D3 nD3 => dc_names (l := sm) (R := SumR H7) (j := 4) hlp3 nD3 (by rw [smn]; exact nk.ti.nd) (by have z : (sm.map (·.1)).length ≤ 3 := (by rw [smn]; exact nk.n3); rw [List.length_map] at z; omega) (fun _ => rfl) (fun _ => rfl) ?_ ?_⟩
          · intro i2 nmx ts H11 hx2 s11 Qv hq
            have hst7 := hst6.same s7
            obtain ⟨kt7, hkt7, hktp7⟩ := id hst7
            obtain ⟨vk, hvk, b, rfl, kb, hkb, hkbp⟩ := hktp7.get (look_mem ndk hmem)
            obtain ⟨vt, hvt, hvr⟩ := hkbp.get (look_mem (by rw [smn]; exact nk.ti.nd) (List.mem_of_getElem? hx2))
            have s711 : Same H7 H11 := s8.trans (s10.trans s11)
            exact ⟨_, rfl, _, rfl, st, _, rfl, hvk ▸ DGet.k (k := Sum.inr kd) (s711 _ _ hkt7), _, rfl, b, _, rfl, hvt ▸ DGet.k (k := Sum.inr nmx) (s711 _ _ hkb), hq _ _ (Same.refl _) hvr⟩
          · intro kv3 H11 s11 hD3 hK3
            have s911 := s10.trans s11
            have neD : D3 ≠ D2 := fun z => by
              rw [z] at nD3
              rw [s10 _ _ hD2] at nD3
              cases nD3
            refine ⟨kvs, .inr kd, rfl, s911 _ _ hD2, ?_, same_own nD2 (s8.trans s911), _, upd_same, ?_⟩
            · have z := hL.len
              rw [List.length_take] at z
              have := ok.kn.n3
              rw [List.length_map] at this
              exact small1000 (by omega)
            · have nin : valV kvs (.inr kd) = none := by
                refine hL.miss fun z => ?_
                obtain ⟨q, hq, e⟩ := List.mem_map.mp z
                obtain ⟨k, hk, e2⟩ := List.mem_take_iff_getElem.mp hq
                have hk2 : k < i := by omega
                have hk3 : k < m.steps.length := by omega
                have z1 : (m.steps.map (·.1))[k]'(by rw [List.length_map]; exact hk3) = kd := by
                  rw [List.getElem_map, e2]
                  exact e
                have z2 : (m.steps.map (·.1))[i]'(by rw [List.length_map]; exact hi) = kd := by
                  rw [List.getElem_map, (List.getElem?_eq_some_iff.mp hy).2]
                exact (List.pairwise_iff_getElem.mp (List.nodup_iff_pairwise_ne.mp ndk)) k i _ _ hk2 (z1.trans z2.symm)
              have tk : m.steps.take (i + 1) = m.steps.take i ++ [(kd, sm)] := by rw [List.take_add_one, hy]; rfl
              rw [tk, putK_new _ nin]
              refine KvP.snoc (hL.mono fun v l ⟨b, kv', e1, e2, e3, e4, e5⟩ => ⟨b, kv', e1, e2, by rw [upd_ne e2]; exact s911 _ _ e3, e4, e5⟩) ⟨D3, kv3, rfl, neD, by rw [upd_ne neD]; exact hD3, hK3, old (fun b o e ne => (s7.trans (s8.trans s10)) _ _ (bp6 b o e ne)) nD3⟩
        · rintro H8 ⟨s8, kvs, hD2, hL⟩
          rw [List.length_map, List.length_map, List.take_length] at hL
          have s78 := s7.trans s8
          have fl2 : putF "_steps" (V.ref D2) ([(("_start" : Str), V.ref D)] : List (Str × V)) = ([(("_start" : Str), V.ref D), (("_steps" : Str), V.ref D2)] : List (Str × V)) := by kernel_rfl
          refine ⟨_, rfl, p, C, dx, _, rfl, s78 _ _ hp6, T.cl, T.nT, by show 1 < 1000; decide, ?_⟩
          rw [fl2]
          have pD2 : D2 ≠ p := fun z => by
            rw [z, s78 _ _ hp6] at hD2
            cases hD2
          have fl3 : putF "_last" (V.ref ls) ([(("_start" : Str), V.ref D), (("_steps" : Str), V.ref D2)] : List (Str × V)) = lflds D D2 ls := by kernel_rfl
          refine ⟨_, rfl, _, rfl, p, C, dx, _, rfl, upd_same, T.cl, T.nL, by show 2 < 1000; decide, ?_⟩
          rw [fl3]
          have ke : ∀ b o, H8 b = some o → b ≠ p → (upd (upd H8 p (.ins C dx [("_start", V.ref D), ("_steps", V.ref D2)])) p (.ins C dx (lflds D D2 ls))) b = some o := fun b o e ne => by rw [upd_ne ne, upd_ne ne]; exact e
          have sd9 : SameD H8 (upd (upd H8 p (.ins C dx [("_start", V.ref D), ("_steps", V.ref D2)])) p (.ins C dx (lflds D D2 ls))) := SameD.of (s78 _ _ hp6) ke
          have bpG : Bp p H (upd (upd H8 p (.ins C dx [("_start", V.ref D), ("_steps", V.ref D2)])) p (.ins C dx (lflds D D2 ls))) := fun b o e ne => ke b o (s78 _ _ (bp6 b o e ne)) ne
          have kG : ∀ b kvs, H b = some (.dK kvs) → (upd (upd H8 p (.ins C dx [("_start", V.ref D), ("_steps", V.ref D2)])) p (.ins C dx (lflds D D2 ls))) b = some (.dK kvs) := fun b kvs e => bpG b _ e fun z => by rw [z, hp] at e; cases e
          refine hQ _ bpG ⟨dx, D, D2, ls, noD_at upd_same (noK_of hp fun _ z => by cases z), ⟨kv, noD_at (ke D _ (s78 _ _ hD6) pD) (old (fun b o e _ => s4 _ _ e) nD), hKv⟩, ⟨kvs, noD_at (ke D2 _ hD2 pD2) (old (fun b o e ne => s7 _ _ (bp6 b o e ne)) nD2), hL.mono fun v l ⟨b, kv', e1, e2, e3, e4, e5⟩ => ⟨b, e1, kv', noD_at (ke b _ e3 (fun z => by rw [z, s78 _ _ hp6] at e3; cases e3)) e5, e4.mono fun _ _ ⟨t, et, it⟩ => ⟨t, et, sum_noD kG (((it.same s8).data sd9))⟩⟩⟩, sum_noD kG ((hls6.same s78).data sd9)⟩
    · refine ⟨_, rfl, v, wv, rfl, hv, nf, fun H1 s1 => ⟨_, rfl, ?_⟩⟩
      rcases h with ⟨e1, rfl⟩ | ⟨kd, ks, rfl, hk, e1, nfu, dp, ne, hin, h⟩
      · rw [e1]
        exact iteT fun d nd => hE d H1 s1 nd
      · rw [e1]
        have dp1 : Deep H1 u := by
          intro a ks2 e2 e3 q hq
          subst e2
          cases hu2 with
          | lst _ h0 _ =>
            rw [s1 _ _ h0] at e3
            cases e3
          | tup _ h0 _ =>
            rcases h0 with h0 | ⟨o, h0⟩ <;> (rw [s1 _ _ h0] at e3; cases e3)
          | dct hz hd hkv =>
            obtain ⟨ks3, hd, rfl⟩ := hd
            rcases hd with hd | ⟨o, hd⟩
            · rw [s1 _ _ hd] at e3
              cases e3
              obtain ⟨i, hi⟩ := List.getElem?_of_mem hq
              obtain ⟨k, x⟩ := q
              obtain ⟨wi, _, his⟩ := hkv.val hi
              obtain ⟨n1, n2⟩ := dp a _ rfl hd _ hq
              exact ⟨n1.same his s1, n2⟩
            · exact absurd hd (nfu a o _ rfl)
        refine iteF ⟨_, rfl, _, rfl, u, wu, kd, ks, rfl, hu2.same s1, nfu.same hu2 s1, dp1, ne, s1 _ _ hk, hin, fun H2 s2 => ⟨_, rfl, ?_⟩⟩
        have s12 := s1.trans s2
        rcases h with ⟨e2, rfl⟩ | ⟨e2, hin2, e3, rfl⟩
        · rw [e2]
          exact iteT fun d nd => hE d H2 s12 nd
        · rw [e2]
          refine iteF ⟨_, rfl, _, rfl, l, wl, kd, ks, rfl, hl.same s12, .inl (s12 _ _ hk), hin2, fun H3 s3 => ⟨_, rfl, ?_⟩⟩
          rw [e3]
          exact iteT fun d nd => hE d H3 (s12.trans s3) nd
end
end Kn
-- part SSame
set_option maxHeartbeats 4000000
/-! When parts of loops are equal. -/
namespace Kn
open PySem PySem.Spec PyProof.Rows L2 Err
def tmD (t : Tm) : PyData := .tuple [.str t.1, .int t.2.1, .int t.2.2]
def sumD (ts : List Tm) : PyData := .tuple (ts.map tmD)
def SOk (ts : List Tm) : Prop := ∀ t ∈ ts, PyData.strOk t.1 = true
theorem sum_lay : ∀ ts : List Tm, SOk ts → PyData.canLayAll0 (ts.map tmD) = true ∧ PyData.depthAll (ts.map tmD) ≤ 1
  | [], _ => by simp [PyData.canLayAll0, PyData.depthAll]
  | t :: ts, h => by
    obtain ⟨a, b⟩ := sum_lay ts fun q hq => h q (List.mem_cons_of_mem _ hq)
    have e : (tmD t).canLay0 = true := by simp [tmD, PyData.canLay0, PyData.canLayAll0, h t (List.mem_cons_self ..)]
    have e2 : (tmD t).depth = 1 := by simp [tmD, PyData.depth, PyData.depthAll]
    simp [PyData.canLayAll0, PyData.depthAll, a, e, e2]
    omega
theorem sumD_lay {ts : List Tm} (h : SOk ts) : (sumD ts).canLay0 = true ∧ (sumD ts).depth ≤ 8 := by
  obtain ⟨a, b⟩ := sum_lay ts h
  unfold sumD
  simp [PyData.canLay0, PyData.depth, a]
  omega
theorem is_strs {H : Hp} {t : Addr} {ts : List Tm} (h : Is H (.ref t) (sumW ts)) : SOk ts := by
  cases h with
  | @tup a xs _ hz e r =>
    clear e hz
    induction ts generalizing xs with
    | nil => exact fun t ht => by cases ht
    | cons m ts ih =>
      cases r with
      | cons h1 r =>
        intro q hq
        rcases List.mem_cons.mp hq with e | e
        · rw [e]
          cases h1 with
          | tup _ _ r1 =>
            cases r1 with
            | cons g1 _ =>
              cases g1 with
              | str _ _ ok => exact ok
        · exact ih r q e
theorem sumR_ok {H : Hp} {v : V} {ts : List Tm} (h : SumR H v ts) : SOk ts := by
  obtain ⟨t, _, h⟩ := h
  exact is_strs h
theorem KvP.of_mem {β : Type} {R : V → β → Prop} {ks : List (Key × V)} {l : List (Str × β)} (h : KvP R ks l) : ∀ p ∈ l, ∃ v, R v p.2 := by
  induction h with
  | nil => exact fun p hp => by cases hp
  | cons h r ih =>
    intro p hp
    rcases List.mem_cons.mp hp with e | e
    · rw [e]; exact ⟨_, h⟩
    · exact ih p e
theorem dp_sum {K : PySem.W.Frag} {H : Hp} {t : Addr} {ts : List Tm} (h : Is H (.ref t) (sumW ts)) : Dp K H (.ref t) (sumD ts) := by
  cases h with
  | @tup a xs _ hz e r =>
    refine .tup (.inl e) ?_
    clear e hz
    induction ts generalizing xs with
    | nil =>
      cases r
      exact .nil
    | cons m ts ih =>
      cases r with
      | cons h1 r =>
        obtain ⟨b, rfl, rb⟩ := h1.three
        exact .cons (.tup (.inl rb) (.cons (.str _) (.cons (.int _) (.cons (.int _) .nil)))) (ih r)
def eqSum (a b : List Tm) : Bool := PyData.eqv (sumD a) (sumD b)
theorem eqSum_refl {a : List Tm} (h : SOk a) : eqSum a a = true := SeqAt.eqv_refl _ (sumD_lay h).1
def eqKV {β : Type} (E : β → β → Bool) (l l2 : List (Str × β)) : Bool := decide (l.length = l2.length) && l.all fun p => match l2.lookup p.1 with
  | some b => E p.2 b
  | none => false
theorem eqKV_refl {β : Type} {E : β → β → Bool} {l : List (Str × β)} (nd : (l.map (·.1)).Nodup) (h : ∀ p ∈ l, E p.2 p.2 = true) : eqKV E l l = true := by
  unfold eqKV
  rw [decide_eq_true rfl, Bool.true_and, List.all_eq_true]
  intro p hp
  obtain ⟨x, b⟩ := p
  rw [look_mem nd hp]
  exact h _ hp
theorem hits_kv {β : Type} {R R2 : V → β → Prop} {F : V → V → Bool → Prop} {E : β → β → Bool} {ls : List (Key × V)} {l2 : List (Str × β)} (h2 : KvP R2 ls l2) (f : ∀ v b u c, R v b → R2 u c → F v u (E b c)) {ks : List (Key × V)} {l : List (Str × β)} (h : KvP R ks l) :
    HitsV F ls ks (l.all fun p => match l2.lookup p.1 with
      | some b => E p.2 b
      | none => false) := by
  induction h with
  | nil => rfl
  | @cons ks l x v b hv r ih =>
    rw [List.all_cons]
    cases e : l2.lookup x with
    | none =>
      have z : x ∉ l2.map (·.1) := fun y => by
        obtain ⟨c, hc, _⟩ := look_in y
        rw [e] at hc
        cases hc
      refine .inl ⟨h2.miss z, ?_⟩
      show (false && _) = false
      rfl
    | some c =>
      obtain ⟨u, hu, ru⟩ := h2.get e
      exact .inr ⟨u, E b c, _, hu, f _ _ _ _ hv ru, ih, rfl⟩
theorem dicE_kv {β : Type} {H : Hp} {R R2 : V → β → Prop} {F : V → V → Bool → Prop} {E : β → β → Bool} {a b : Addr} {ks ls : List (Key × V)} {l l2 : List (Str × β)} (ha : Rd H a (.dK ks)) (hb : Rd H b (.dK ls)) (h : KvP R ks l) (h2 : KvP R2 ls l2) (f : ∀ v b u c, R v b → R2 u c → F v u (E b c))
    (ne : a = b → eqKV E l l2 = true) : DicE H F (.ref a) (.ref b) (eqKV E l l2) :=
  ⟨a, b, ks, ls, _, rfl, rfl, ne, ha, hb, fun _ => hits_kv h2 f h, by unfold eqKV; rw [h.len, h2.len]⟩
abbrev eqI (a b : Int) : Bool := decide (a = b)
abbrev eqStart : List (Str × Int) → List (Str × Int) → Bool := eqKV eqI
abbrev eqSums : Sums → Sums → Bool := eqKV eqSum
abbrev eqSteps : Stps → Stps → Bool := eqKV eqSums
theorem eqb_int {K : PySem.W.Frag} {H : Hp} (a b : Int) : EqB K H (.int a) (.int b) (eqI a b) := ⟨.int a, .int b, .int a, .int b, by kernel_rfl, by kernel_rfl, by show 0 ≤ 8; decide, by
  show decide (a = b) = (a == b)
  by_cases h : a = b
  · rw [decide_eq_true h]; exact (beq_iff_eq.mpr h).symm
  · rw [decide_eq_false h]; exact (beq_eq_false_iff_ne.mpr h).symm⟩
theorem eqb_sum {K : PySem.W.Frag} {H : Hp} {v u : V} {a b : List Tm} (h : SumR H v a) (h2 : SumR H u b) : EqB K H v u (eqSum a b) := by
  obtain ⟨t, rfl, h⟩ := h
  obtain ⟨t2, rfl, h2⟩ := h2
  exact ⟨_, _, dp_sum h, dp_sum h2, (sumD_lay (is_strs h)).1, (sumD_lay (is_strs h2)).1, (sumD_lay (is_strs h)).2, rfl⟩
theorem sumR_inj {H : Hp} {v : V} {a b : List Tm} (h : SumR H v a) (h2 : SumR H v b) : a = b := by
  obtain ⟨t, rfl, h⟩ := h
  obtain ⟨t2, e, h2⟩ := h2
  cases e
  obtain ⟨xs, r1, l1, _, f1⟩ := h.sum
  obtain ⟨ys, r2, l2, _, f2⟩ := h2.sum
  have rd : ∀ {c : Addr} {p q : List V}, Rd H c (.tup p) → Rd H c (.tup q) → p = q := fun {c p q} e1 e2 => by
    rcases e1 with e1 | ⟨o, e1⟩ <;> rcases e2 with e2 | ⟨o2, e2⟩ <;> (rw [e1] at e2; cases e2; try rfl)
  obtain rfl := rd r1 r2
  refine List.ext_getElem? fun i => ?_
  cases e : xs[i]? with
  | none =>
    have z := List.getElem?_eq_none_iff.mp e
    rw [List.getElem?_eq_none (by omega), List.getElem?_eq_none (by omega)]
  | some x =>
    obtain ⟨m, c, hm, rfl, rc⟩ := f1 i x e
    obtain ⟨m2, c2, hm2, e2, rc2⟩ := f2 i _ e
    cases e2
    have z := rd rc rc2
    rw [hm, hm2]
    obtain ⟨x1, p1, c1⟩ := m
    obtain ⟨x2, p2, c2⟩ := m2
    cases z
    rfl
theorem kvp_inj {β : Type} {R : V → β → Prop} (f : ∀ v a b, R v a → R v b → a = b) {ks : List (Key × V)} {l l2 : List (Str × β)} (h : KvP R ks l) (h2 : KvP R ks l2) : l = l2 := by
  induction h generalizing l2 with
  | nil =>
    cases h2
    rfl
  | cons h r ih =>
    cases h2 with
    | cons h2 r2 => rw [f _ _ _ h h2, ih r2]
theorem sumD_inj {H : Hp} {a : Addr} {l l2 : Sums} (h : SumD H a l) (h2 : SumD H a l2) : l = l2 := by
  obtain ⟨ks, e1, r1⟩ := h
  obtain ⟨ks2, e2, r2⟩ := h2
  rw [e1] at e2
  cases e2
  exact kvp_inj (R := SumR H) (fun _ _ _ => sumR_inj) r1 r2
theorem intD_inj {H : Hp} {a : Addr} {l l2 : List (Str × Int)} (h : IntD H a l) (h2 : IntD H a l2) : l = l2 := by
  obtain ⟨ks, e1, r1⟩ := h
  obtain ⟨ks2, e2, r2⟩ := h2
  rw [e1] at e2
  cases e2
  exact kvp_inj (fun v a b h1 h2 => by cases h1; cases h2; rfl) r1 r2
theorem stpD_inj {H : Hp} {a : Addr} {l l2 : Stps} (h : StpD H a l) (h2 : StpD H a l2) : l = l2 := by
  obtain ⟨ks, e1, r1⟩ := h
  obtain ⟨ks2, e2, r2⟩ := h2
  rw [e1] at e2
  cases e2
  refine kvp_inj (fun v a b h1 h2 => ?_) r1 r2
  obtain ⟨c, rfl, h1⟩ := h1
  obtain ⟨c2, e, h2⟩ := h2
  cases e
  exact sumD_inj h1 h2
/-- what the parts' ==s answer -/
theorem eq_start {K : PySem.W.Frag} {H : Hp} {a b : Addr} {l l2 : List (Str × Int)} (h : IntD H a l) (h2 : IntD H b l2) (nd : (l.map (·.1)).Nodup) {n : Nat} : DicE H (EqN K H n) (.ref a) (.ref b) (eqStart l l2) := by
  obtain ⟨ks, e1, r1⟩ := id h
  obtain ⟨ks2, e2, r2⟩ := id h2
  refine dicE_kv (.inl e1) (.inl e2) r1 r2 (fun v b u c h1 h2 => ?_) fun e => ?_
  · cases h1
    cases h2
    cases n with
    | zero => exact eqb_int _ _
    | succ n => exact .inl (eqb_int _ _)
  · subst e
    rw [intD_inj h h2]
    rw [intD_inj h h2] at nd
    exact eqKV_refl nd fun p _ => decide_eq_true rfl
theorem eq_sums {K : PySem.W.Frag} {H : Hp} {a b : Addr} {l l2 : Sums} (h : SumD H a l) (h2 : SumD H b l2) (nd : (l.map (·.1)).Nodup) {n : Nat} : DicE H (EqN K H n) (.ref a) (.ref b) (eqSums l l2) := by
  obtain ⟨ks, e1, r1⟩ := id h
  obtain ⟨ks2, e2, r2⟩ := id h2
  refine dicE_kv (.inl e1) (.inl e2) r1 r2 (fun v b u c h1 h2 => ?_) fun e => ?_
  · cases n with
    | zero => exact eqb_sum h1 h2
    | succ n => exact .inl (eqb_sum h1 h2)
  · subst e
    have z := sumD_inj h h2
    rw [← z]
    exact eqKV_refl nd fun p hp => eqSum_refl (sumR_ok (r1.of_mem p hp).choose_spec)
theorem eq_steps {K : PySem.W.Frag} {H : Hp} {a b : Addr} {l l2 : Stps} (h : StpD H a l) (h2 : StpD H b l2) (nd : (l.map (·.1)).Nodup) (nd2 : ∀ p ∈ l, (p.2.map (·.1)).Nodup) {n : Nat} : DicE H (EqN K H (n + 1)) (.ref a) (.ref b) (eqSteps l l2) := by
  obtain ⟨ks, e1, r1⟩ := id h
  obtain ⟨ks2, e2, r2⟩ := id h2
  have r1' : KvP (fun v b => StpR H v b ∧ (b.map (·.1)).Nodup) ks l := by
    clear h e1
    induction r1 with
    | nil => exact .nil
    | cons h r ih => exact .cons ⟨h, nd2 _ (List.mem_cons_self ..)⟩ (ih (List.nodup_cons.mp nd).2 fun p hp => nd2 p (List.mem_cons_of_mem _ hp))
  refine dicE_kv (.inl e1) (.inl e2) r1' r2 (fun v b u c h1 h2 => ?_) fun e => ?_
  · obtain ⟨⟨c1, rfl, h1⟩, n1⟩ := h1
    obtain ⟨c2, rfl, h2⟩ := h2
    exact .inr (eq_sums h1 h2 n1)
  · subst e
    have z := stpD_inj h h2
    rw [← z]
    refine eqKV_refl nd fun p hp => eqKV_refl (nd2 p hp) fun q hq => ?_
    obtain ⟨v, c, _, ks3, _, r3⟩ := r1.of_mem p hp
    obtain ⟨v2, r4⟩ := r3.of_mem q hq
    exact eqSum_refl (sumR_ok r4)
/-- the loops' own == -/
def eqLoop (m m2 : Lm) : Bool := eqStart m.start m2.start && (eqSteps m.steps m2.steps && eqSum m.last m2.last)
theorem SumOk.strs {names : List Str} {ts : List Tm} (h : SumOk names ts) (n : NmOk names) : SOk ts := fun t ht => by
  rcases (h.t t ht).1 with e | e
  · rw [e]
    decide +kernel
  · exact (n.sm _ e).2
theorem eqLoop_refl {m : Lm} (ok : LoopOk m) : eqLoop m m = true := by
  have e1 : eqStart m.start m.start = true := eqKV_refl ok.nm.ti.nd fun p _ => decide_eq_true rfl
  have e2 : eqSteps m.steps m.steps = true := eqKV_refl ok.kn.ti.nd fun p hp => eqKV_refl (by rw [(ok.ss p hp).1]; exact ok.nm.ti.nd) fun q hq => eqSum_refl (((ok.ss p hp).2 q hq).strs ok.nm)
  unfold eqLoop
  rw [e1, e2, eqSum_refl (ok.la.strs ok.nm)]
  rfl
end Kn
-- part SProps
set_option maxHeartbeats 8000000
/-! The properties of a loop, and its ==. -/
namespace Kn
open PySem PySem.Spec PyProof.Rows L2 Err
abbrev NPs : List Str := ["self", "kind"]
theorem scP1 : FnScope ["self"] ["self"] (defScope sStartP) := ⟨rfl, rfl, rfl, by decide +kernel, rfl, by decide +kernel, by decide +kernel⟩
theorem scP2 : FnScope NPs ["self"] (defScope sStepsP) := ⟨rfl, rfl, rfl, by decide +kernel, rfl, by decide +kernel, by decide +kernel⟩
theorem scP3 : FnScope ["self"] ["self"] (defScope sLastP) := ⟨rfl, rfl, rfl, by decide +kernel, rfl, by decide +kernel, by decide +kernel⟩
theorem scP4 : FnScope ["self"] ["self"] (defScope sKindsP) := ⟨rfl, rfl, rfl, by decide +kernel, rfl, by decide +kernel, by decide +kernel⟩
theorem scP5 : FnScope ["self"] ["self"] (defScope sVarsP) := ⟨rfl, rfl, rfl, by decide +kernel, rfl, by decide +kernel, by decide +kernel⟩
theorem scEq : FnScope ["self", "other"] ["self", "other"] (defScope sEqP) := ⟨rfl, rfl, rfl, by decide +kernel, rfl, by decide +kernel, by decide +kernel⟩
def spP1 (C : Addr) : Sp := fun vs H Q _ => ∃ p m, vs = [.ref p] ∧ LoopAt C H p m ∧ ∀ q kvs, H q = none → KvP IntR kvs m.start → Q (.ref q) (upd H q (.dK kvs))
/-- a new dict of new dicts -/
def StpNew (H H' : Hp) (q : Addr) (l : Stps) : Prop := ∃ kvs, H' q = some (.dK kvs) ∧ KvP (fun v l => ∃ b, v = .ref b ∧ H b = none ∧ b ≠ q ∧ SumD H' b l) kvs l
def spP2 (C : Addr) : Sp := fun vs H Q _ => ∃ p m, vs = [.ref p] ∧ LoopAt C H p m ∧ LoopOk m ∧ ∀ q H', Same H H' → H q = none → StpNew H H' q m.steps → Q (.ref q) H'
def spP3 (C : Addr) : Sp := fun vs H Q _ => ∃ p m, vs = [.ref p] ∧ LoopAt C H p m ∧ ∀ ls, Is H (.ref ls) (sumW m.last) → Q (.ref ls) H
def spP4 (C : Addr) : Sp := fun vs H Q _ => ∃ p m, vs = [.ref p] ∧ LoopAt C H p m ∧ ∀ q, H q = none → Q (.ref q) (upd H q (.tup ((m.steps.map (·.1)).map V.str)))
def spP5 (C : Addr) : Sp := fun vs H Q _ => ∃ p m, vs = [.ref p] ∧ LoopAt C H p m ∧ ∀ q, H q = none → Q (.ref q) (upd H q (.tup (m.names.map V.str)))
def spEqL (K : PySem.W.Frag) (C : Addr) : Sp := fun vs H Q _ => ∃ p m v, vs = [.ref p, v] ∧ LoopAt C H p m ∧ LoopOk m ∧
  ((∃ t, TyX K H v t ∧ PySem.W.kitOne K t (.ref C) = some false ∧ Q (.bl false) H) ∨ ∃ p2 m2, v = .ref p2 ∧ LoopAt C H p2 m2 ∧ Q (.bl (eqLoop m m2)) H)
/-- what isinstance asks of the class -/
structure PIs (K : PySem.W.Frag) (C : Addr) : Prop where
  ha : PySem.W.findIn K (.ref C) "__class__" = some (some (.builtin "object.__class__"))
  hn : PySem.W.specialIn K (.builtin "object.__class__") "__get__" = some (some (.builtin "getset_descriptor.__get__"))
  htk : PySem.W.takesIn K (.builtin "object.__class__") = some true
  hm : PySem.W.mroIn K C (.type "object") = some true
  own : PySem.W.kitOne K (.ref C) (.ref C) = some true
theorem sum_shaped {ts : List Tm} (h : SOk ts) : SeqAt.shaped (sumD ts) = true := by
  obtain ⟨a, b⟩ := sumD_lay h
  unfold SeqAt.shaped
  rw [a, decide_eq_true (by omega)]
  rfl
theorem kvp_keys {β : Type} {R : V → β → Prop} {kvs : List (Key × V)} {l : List (Str × β)} (h : KvP R kvs l) : (kvs.map fun kv => kV kv.1) = (l.map (·.1)).map V.str := by
  have z : (kvs.map (·.1)).map kV = ((l.map (·.1)).map Sum.inr).map kV := by rw [h.keys]
  rw [List.map_map, List.map_map] at z
  exact z
section
variable {P : Program} {w : World} {K : PySem.W.Frag} {mg : Str → Option Value} {base : Heap}
theorem ok_p1 {f C : Addr} {fd : FuncData} (F : Fun K "start" "Loop.start" sStartP f fd) (T : PTxt K C) (md : mg "dict" = none) : FnOk P w K mg base CX0 1 f fd ["self"] (spP1 C) := by
  refine F.ok scP1 (fun vs H Q E h => ?_) (fun cdv A outer s H vs Q E hr h => ?_)
  · obtain ⟨p, m, rfl, _⟩ := h
    rfl
  · obtain ⟨p, m, rfl, hp, q⟩ := h
    refine ⟨_, pss_one (ps_ret (pe_callTy call_dictD (by rfl) md (by decide +kernel) (pa_cons (pe_fld (pv 0) rfl) pa_nil))), ?_⟩
    obtain ⟨dx, sd, st, ls, h1, ⟨ks, h2, h2'⟩, h3, h4⟩ := hp.ex
    exact ⟨_, rfl, p, C, dx, _, _, rfl, h1, T.cl, T.nS, lf_start _ _ _, sd, ks, rfl, .inl h2, fun r nr => q r ks nr h2'⟩
theorem ok_p3 {f C : Addr} {fd : FuncData} (F : Fun K "last" "Loop.last" sLastP f fd) (T : PTxt K C) : FnOk P w K mg base CX0 1 f fd ["self"] (spP3 C) := by
  refine F.ok scP3 (fun vs H Q E h => ?_) (fun cdv A outer s H vs Q E hr h => ?_)
  · obtain ⟨p, m, rfl, _⟩ := h
    rfl
  · obtain ⟨p, m, rfl, hp, q⟩ := h
    refine ⟨_, pss_one (ps_ret (pe_fld (pv 0) rfl)), ?_⟩
    obtain ⟨dx, sd, st, ls, h1, _, h3, h4⟩ := hp.ex
    exact ⟨_, rfl, p, C, dx, _, _, rfl, h1, T.cl, T.nL, lf_last _ _ _, q ls h4⟩
theorem ok_p4 {f C : Addr} {fd : FuncData} (F : Fun K "kinds" "Loop.kinds" sKindsP f fd) (T : PTxt K C) (mt : mg "tuple" = none) : FnOk P w K mg base CX0 1 f fd ["self"] (spP4 C) := by
  refine F.ok scP4 (fun vs H Q E h => ?_) (fun cdv A outer s H vs Q E hr h => ?_)
  · obtain ⟨p, m, rfl, _⟩ := h
    rfl
  · obtain ⟨p, m, rfl, hp, q⟩ := h
    refine ⟨_, pss_one (ps_ret (pe_callTy (call_tuple_dK rfl) (by rfl) mt (by decide +kernel) (pa_cons (pe_fld (pv 0) rfl) pa_nil))), ?_⟩
    obtain ⟨dx, sd, st, ls, h1, _, ⟨ks, h3, h3'⟩, h4⟩ := hp.ex
    refine ⟨_, rfl, p, C, dx, _, _, rfl, h1, T.cl, T.nT, lf_steps _ _ _, st, ks, rfl, h3, fun t nt => ?_⟩
    rw [kvp_keys h3']
    exact q t nt
theorem ok_p5 {f C : Addr} {fd : FuncData} (F : Fun K "variables" "Loop.variables" sVarsP f fd) (T : PTxt K C) (mt : mg "tuple" = none) : FnOk P w K mg base CX0 1 f fd ["self"] (spP5 C) := by
  refine F.ok scP5 (fun vs H Q E h => ?_) (fun cdv A outer s H vs Q E hr h => ?_)
  · obtain ⟨p, m, rfl, _⟩ := h
    rfl
  · obtain ⟨p, m, rfl, hp, q⟩ := h
    refine ⟨_, pss_one (ps_ret (pe_callTy (call_tuple_dK rfl) (by rfl) mt (by decide +kernel) (pa_cons (pe_fld (pv 0) rfl) pa_nil))), ?_⟩
    obtain ⟨dx, sd, st, ls, h1, ⟨ks, h3, h3'⟩, _, h4⟩ := hp.ex
    refine ⟨_, rfl, p, C, dx, _, _, rfl, h1, T.cl, T.nS, lf_start _ _ _, sd, ks, rfl, h3, fun t nt => ?_⟩
    rw [kvp_keys h3']
    exact q t nt
theorem ok_eq {f C : Addr} {fd : FuncData} (F : Fun K "__eq__" "Loop.__eq__" sEqP f fd) (T : PTxt K C) (J : PIs K C) (mi : mg "isinstance" = none) (gP : mg "Loop" = some (.ref C)) : FnOk P w K mg base CX0 1 f fd ["self", "other"] (spEqL K C) := by
  refine F.ok scEq (fun vs H Q E h => ?_) (fun cdv A outer s H vs Q E hr h => ?_)
  · obtain ⟨p, m, v, rfl, _⟩ := h
    rfl
  · obtain ⟨p, m, v, rfl, hp, ok, h⟩ := h
    refine ⟨_, pss_cons (ps_if (pt_not (pt_val (pe_callB call_isi (by rfl) mi PyProof.Rows.boot_isinstance (pa_cons (pv 1) (pa_cons (pe_glob (v := .ref C) (by rfl) gP rfl) pa_nil))))) (pss_one (ps_ret pe_bl)) pss_nil)
      (pss_one (ps_ret (pe_and (pe_cmpR (op_eqN hr.units) (pe_fld (pv 0) rfl) (pe_fld (pv 1) rfl) (nomark _)) (pe_and (pe_cmpR (op_eqN hr.units) (pe_fld (pv 0) rfl) (pe_fld (pv 1) rfl) (nomark _)) (pe_one (pe_cmpR (op_eqD hr.units) (pe_fld (pv 0) rfl) (pe_fld (pv 1) rfl) (nomark _))))))), ?_⟩
    rcases h with ⟨t, ht, hk, q⟩ | ⟨p2, m2, rfl, hp2, q⟩
    · exact ⟨_, rfl, v, .ref C, t, .ref C, false, rfl, .own C, ht, hk, _, rfl, iteT q⟩
    · obtain ⟨dx, sd, st, ls, h1, h2, h3, h4⟩ := hp.ex
      obtain ⟨dx2, sd2, st2, ls2, i1, i2, i3, i4⟩ := hp2.ex
      refine ⟨_, rfl, _, .ref C, .ref C, .ref C, true, rfl, .own C, .base (.ins i1 T.cl J.ha J.hn J.htk J.hm), J.own, _, rfl, iteF ?_⟩
      unfold eqLoop at q
      refine ⟨_, rfl, p, C, dx, _, _, rfl, h1, T.cl, T.nS, lf_start _ _ _, _, rfl, p2, C, dx2, _, _, rfl, i1, T.cl, T.nS, lf_start _ _ _, 0, _, by decide, eq_start h2 i2 ok.nm.ti.nd, _, rfl, ?_⟩
      cases e : eqStart m.start m2.start with
      | false =>
        rw [e] at q
        exact iteF q
      | true =>
        rw [e] at q
        refine iteT ⟨_, rfl, p, C, dx, _, _, rfl, h1, T.cl, T.nT, lf_steps _ _ _, _, rfl, p2, C, dx2, _, _, rfl, i1, T.cl, T.nT, lf_steps _ _ _, 1, _, by decide, eq_steps h3 i3 ok.kn.ti.nd (fun r hr => by rw [(ok.ss r hr).1]; exact ok.nm.ti.nd), _, rfl, ?_⟩
        cases e2 : eqSteps m.steps m2.steps with
        | false =>
          rw [e2] at q
          exact iteF q
        | true =>
          rw [e2] at q
          exact iteT ⟨_, rfl, p, C, dx, _, _, rfl, h1, T.cl, T.nL, lf_last _ _ _, _, rfl, p2, C, dx2, _, _, rfl, i1, T.cl, T.nL, lf_last _ _ _, _, _, dp_sum h4, dp_sum i4, sum_shaped (is_strs h4), sum_shaped (is_strs i4), q⟩
theorem ok_p2 {f C : Addr} {fd : FuncData} (F : Fun K "steps" "Loop.steps" sStepsP f fd) (T : PTxt K C) (md : mg "dict" = none) : FnOk P w K mg base CX0 1 f fd ["self"] (spP2 C) := by
  have S := scP2
  refine F.ok S (fun vs H Q E h => ?_) (fun cdv A outer s H vs Q E hr h => ?_)
  · obtain ⟨p, m, rfl, _⟩ := h
    rfl
  · obtain ⟨p, m, rfl, hp, ok, q⟩ := h
    have hu := hu_of hr
    refine ⟨_, pss_one (ps_ret (pe_lock (pe_dc (own := [("kind", 1)]) (g := gName 1) rfl S.nd (pi_keys (pe_fld (pv 0) rfl)) (blkOk_by (N := NPs) (sc := defScope sStepsP) (by decide +kernel)) (fun _ _ _ _ _ => pg_name (i := 1) S.nd rfl (.inl rfl)) (fun _ _ _ _ _ => pts_nil)
      (fun _ _ _ _ _ => pv 1) (fun _ _ _ _ _ => pe_callTy (show CallR _ (.type "dict") (fun xs H Q => ∃ (a : Addr) (kvs : List (Key × V)), xs = [V.ref a] ∧ Rd H a (.dK kvs) ∧ ∀ p, H p = none → Q (.ref p) (upd H p (.dK kvs))) from call_dictD) (by rfl) md (by decide +kernel) (pa_cons (pe_dget hu (show PE _ _ (tFld K (tVar 0) "_steps") from pe_fld (pv 0) rfl) (pv 1) (fun _ _ => rfl)) pa_nil))))), ?_⟩
    obtain ⟨dx, sd, st, ls, h1, h2, hst, h4⟩ := hp.ex
    obtain ⟨kt, hkt, hkp⟩ := id hst
    have lz : kt.length ≤ 900 := by
      have := ok.kn.n3
      rw [List.length_map] at this
      have := hkp.len
      omega
    have ps : p ≠ st := fun z => by
      rw [z, hkt] at h1
      cases h1
    refine ⟨st, _, hkt, trivial, fun od => ?_⟩
    have hp0 : (upd H st (.frz od (.dK kt))) p = some (.ins C dx (lflds sd st ls)) := by rw [upd_ne ps]; exact h1
    refine ⟨_, rfl, p, C, dx, _, _, rfl, hp0, T.cl, T.nT, lf_steps _ _ _, st, od, rfl, .inl ⟨kt, upd_same, fun D nD => dc_walk walk_keys (fun i H' => Same (upd H st (.frz od (.dK kt))) H' ∧ ∃ kvs, H' D = some (.dK kvs) ∧ KvP (fun v l => ∃ b kv', v = .ref b ∧ H b = none ∧ b ≠ D ∧ b ≠ st ∧ H' b = some (.dK kv') ∧ KvP (SumR H) kv' l) kvs (m.steps.take i))
      ⟨same_new nD, [], upd_same, .nil⟩ (fun i H' _ z => z.1 _ _ upd_same) ?_ ?_⟩⟩
    · rintro i x H3 H4 hi ⟨s3, kvs, hD, hL⟩ ⟨rfl, k, v0, hk, rfl⟩
      obtain ⟨kd, sm, hsm, rfl, b0, rfl, kb, hb0, hbp⟩ := hkp.at_ hk
      refine ⟨rfl, ?_⟩
      dsimp only [tYes]
      rw [if_pos rfl]
      have b0s : b0 ≠ st := fun z => (hst.ne_sum ⟨kb, hb0, hbp⟩ (fun y => by rw [y] at hsm; simp at hsm)) z.symm
      have hb4 : H4 b0 = some (.dK kb) := s3 _ _ (by rw [upd_ne b0s]; exact hb0)
      have nd : (m.steps.map (·.1)).Nodup := ok.kn.ti.nd
      obtain ⟨vk, hvk, b1, rfl, kb1, hb1, _⟩ := hkp.get (look_mem nd (List.mem_of_getElem? hsm))
      have e1 : b1 = b0 := by
        have z : valV kt (.inr kd) = some (.ref b0) := val_nodup (by rw [hkp.keys]; exact List.pairwise_map.mpr (nd.imp fun h z => h (Sum.inr.inj z))) _ (List.mem_of_getElem? hk)
        rw [hvk] at z
        exact V.ref.inj (Option.some.inj z)
      subst e1
      refine ⟨_, rfl, _, rfl, p, C, dx, _, _, rfl, s3 _ _ hp0, T.cl, T.nT, lf_steps _ _ _, _, rfl, st, _, rfl, .inl ⟨kt, .inr kd, .inr ⟨od, s3 _ _ upd_same⟩, rfl, hvk.symm⟩, b1, kb, rfl, .inl hb4, fun l nl => ?_⟩
      have hD4 := hD
      have lD : l ≠ D := fun z => by rw [z, hD] at nl; cases nl
      have hl0 : H l = none := by
        by_cases z : l = st
        · rw [z, s3 _ _ upd_same] at nl
          cases nl
        · cases y : H l with
          | none => rfl
          | some o =>
            rw [s3 l o (by rw [upd_ne z]; exact y)] at nl
            cases nl
      have ls' : l ≠ st := fun z => by
        rw [z, s3 _ _ upd_same] at nl
        cases nl
      refine ⟨kvs, .inr kd, rfl, by rw [upd_ne lD.symm]; exact hD, ?_, same_own nD (s3.trans (same_new nl)), _, upd_same, ?_⟩
      · have z := hL.len
        rw [List.length_take] at z
        exact small1000 (by omega)
      · have nin : valV kvs (.inr kd) = none := by
          refine hL.miss fun z => ?_
          obtain ⟨q, hq, e⟩ := List.mem_map.mp z
          obtain ⟨j, hj, e2⟩ := List.mem_take_iff_getElem.mp hq
          have hi2 := (List.getElem?_eq_some_iff.mp hsm).1
          have hj2 : j < i := by omega
          have z1 : (m.steps.map (·.1))[j]'(by rw [List.length_map]; omega) = kd := by
            rw [List.getElem_map, e2]
            exact e
          have z2 : (m.steps.map (·.1))[i]'(by rw [List.length_map]; exact hi2) = kd := by
            rw [List.getElem_map, (List.getElem?_eq_some_iff.mp hsm).2]
          exact (List.pairwise_iff_getElem.mp (List.nodup_iff_pairwise_ne.mp nd)) j i _ _ hj2 (z1.trans z2.symm)
        have tk : m.steps.take (i + 1) = m.steps.take i ++ [(kd, sm)] := by rw [List.take_add_one, hsm]; rfl
        rw [tk, putK_new _ nin]
        refine KvP.snoc (hL.mono fun v l2 ⟨b, kv', e1, e2, e3, e4, e5, e6⟩ => ⟨b, kv', e1, e2, e3, e4, ?_, e6⟩) ⟨l, kb, rfl, hl0, lD, ls', ?_, hbp⟩
        · rw [upd_ne lD]
          exact upd_same
        · have bl : b ≠ l := fun z => by rw [z, nl] at e5; cases e5
          rw [upd_ne e3, upd_ne bl]
          exact e5
    · rintro H3 ⟨s3, kvs, hD, hL⟩
      have e : m.steps.take kt.length = m.steps := by rw [hkp.len]; exact List.take_length
      rw [e] at hL
      refine ⟨s3 _ _ upd_same, ?_⟩
      have s4 : Same H (upd H3 st (.dK kt)) := same_unlock hkt s3
      have nDs : D ≠ st := fun z => by
        rw [z, upd_same] at nD
        cases nD
      have hD0 : H D = none := by
        rw [upd_ne nDs] at nD
        exact nD
      refine q D _ s4 hD0 ⟨kvs, by rw [upd_ne nDs]; exact hD, hL.mono fun v l ⟨b, kv', e1, e2, e3, e4, e5, e6⟩ => ⟨b, e1, e2, e3, kv', by rw [upd_ne e4]; exact e5, e6.mono fun _ _ r => r.same s4⟩⟩
end
end Kn
-- part SStar
set_option maxHeartbeats 4000000
/-! {"": 1, **d}: a display with a dict put in. -/
namespace StarD
open PySem PySem.Spec PyProof.Rows L2
section
variable {prog : Program} {w : World} {K : Type} [DecidableEq K] {knd : KeyKind prog w K} {A : Around} {E : Value → Shared → Prop} {s : Shared}
theorem display_star (k v m : Sem Value) : dictDisplay [(some k, v), (none, m)] = (do
    let d ← subDict [(k, v)]
    let x ← holding [.ref d] m
    (((holding [.ref d, x] (mergeMapping d x false)).onRaise fun y => do let _ ← holding [.ref d, x, y] (runValue (.builtin "proto.let_go" {}))).tryCatch fun e => do
        if ← isInstance e (.type "AttributeError") then
          rule "dict.display.not-a-mapping"; raiseError "TypeError" s!"'{← typeNameOf x}' object is not a mapping"
        throw e).onRaise fun y => do let _ ← holding [.ref d, y] (runValue (.builtin "proto.let_go" {}))
    pure (.ref d)) := by
  unfold dictDisplay
  simp
/-- one more entry -/
theorem put_new {d : Addr} {kvs : List (K × Value)} {k : K} {key v : Value} {Q : Unit → Shared → Prop} (hkey : knd.is k key = true) (hm : s.heap.DictOf knd d kvs) (hz : kvs.length ≤ sizeLine) (hn : k ∉ kvs.map (·.1))
    (hQ : ∀ h', h'.DictOf knd d (kvs ++ [(k, v)]) → Heap.SameBut d s.heap h' → Q () { s with heap := h' }) : wpAny (model prog w) A (dictPut d (knd.hash k) key v) Q E s := by
  obtain ⟨o, es, ep, ho, hc, hd, hk, hp, nd⟩ := hm
  have hno : (es.findIdx? fun e => knd.is k e.key) = none := by
    have z := hp.findIdx k
    rw [show (kvs.findIdx? fun kv => decide (kv.1 = k)) = none from List.findIdx?_eq_none_iff.mpr fun p hp2 => decide_eq_false fun y => hn (y ▸ List.mem_map.mpr ⟨p, hp2, rfl⟩)] at z
    refine Array.findIdx?_eq_none_iff.mpr fun e he => ?_
    exact List.findIdx?_eq_none_iff.mp z e (Array.mem_toList_iff.mpr he)
  unfold dictPut
  refine wpAny_bind (wpAny_dictFind_of hkey ho hd hk ?_)
  rw [hno]
  have hs : es.size ≤ sizeLine := by
    have z := hp.length
    rw [Array.length_toList] at z
    omega
  refine wpAny_updateDictKeys (hz := hs) ho hd (hQ _ ⟨_, _, ep + 1, Heap.get?_update_self _ ho (Obj.isFreed_of_dict (Obj.data_mapDictKeys hd _)), hc.mapDictKeys _, Obj.data_mapDictKeys hd _, hk.push hkey _, ?_, ?_⟩ (Heap.SameBut.update ..))
  · rw [Array.toList_push]
    exact hp.append hkey _ v
  · rw [List.map_append]
    refine List.nodup_append.mpr ⟨nd, by simp, fun x hx y hy e => ?_⟩
    simp only [List.map_cons, List.map_nil, List.mem_singleton] at hy
    rw [e, hy] at hx
    exact hn hx
theorem merge_new {d a : Addr} {kv0 kvs : List (K × Value)} {Q : Unit → Shared → Prop} (hd : s.heap.DictOf knd d kv0) (ha : s.heap.DictOf knd a kvs) (ne : a ≠ d) (hm : (a == sysModules) = false) (h0 : kv0 ≠ []) (hz : kv0.length + kvs.length ≤ sizeLine) (hn : ∀ p ∈ kvs, p.1 ∉ kv0.map (·.1))
    (hQ : ∀ h', h'.DictOf knd d (kv0 ++ kvs) → Heap.SameBut d s.heap h' → Q () { s with heap := h' }) : wpAny (model prog w) A (mergeMapping d (.ref a) false) Q E s := by
  obtain ⟨oa, ea, pa, hoa, hca, hda, hka, hpa, nda⟩ := ha
  have tyA : s.TypeIs (.ref a) "dict" := ⟨oa, hoa, hca.1⟩
  unfold mergeMapping
  refine wpAny_bind (wpAny_isInstance (T := "dict") tyA PySem.F.sub_dict_dict ?_)
  simp only [if_true]
  refine wpAny_bind (wpAny_specialOf (name := Str.ofString "__iter__") tyA PySem.F.slot_dict_iter.lookup ?_)
  refine wpAny_bind (wpAny_pure ?_)
  simp only [beq_self_eq_true]
  rw [if_neg (by rw [hm]; exact Bool.false_ne_true)]
  obtain ⟨od, ed, pd, hod, hcd, hdd, hkd, hpd, ndd⟩ := id hd
  refine wpAny_bind (wpAny_dictEntries hod hdd ?_)
  have hne : ed.isEmpty = false := by
    have z := hpd.length
    rw [Array.length_toList] at z
    cases y : ed.isEmpty with
    | false => rfl
    | true =>
      have e0 := Array.isEmpty_iff.mp y
      rw [e0] at z
      exact absurd (List.eq_nil_of_length_eq_zero (by simpa using z.symm)) h0
  rw [if_neg (by rw [hne]; exact Bool.false_ne_true)]
  refine wpAny_bind (wpAny_dictEntries hoa hda (wpAny_bind (wpAny_dictEpoch hoa hda ?_)))
  have hsz : ea.size = kvs.length := by
    have z := hpa.length
    rw [Array.length_toList] at z
    exact z
  refine wpAny_bind (wpAny_forIn_list _ (fun rest b s' => ∃ (i : Nat) (h' : Heap), i ≤ ea.size ∧ rest = (List.range ea.size).drop i ∧ s' = { s with heap := h' } ∧ h'.DictOf knd d (kv0 ++ kvs.take i) ∧ Heap.SameBut d s.heap h') _ ?_ ?_ _ _
    ⟨0, s.heap, Nat.zero_le _, rfl, rfl, by rw [List.take_zero, List.append_nil]; exact hd, Heap.SameBut.refl _ _⟩)
  · rintro x rest b s' ⟨i, h', hi, hr, rfl, hd', sb⟩
    have hlt : i < ea.size := by
      rcases Nat.lt_or_ge i ea.size with y | y
      · exact y
      · rw [List.drop_of_length_le (by rw [List.length_range]; exact y)] at hr
        cases hr
    rw [List.drop_eq_getElem_cons (by rw [List.length_range]; exact hlt)] at hr
    obtain ⟨e1, e2⟩ := List.cons.inj hr
    rw [List.getElem_range] at e1
    subst e1
    have hoa' : h'.get? a = some oa := (sb.2 a ne).trans hoa
    refine wpAny_bind (wpAny_dictEntries (s := { s with heap := h' }) hoa' hda ?_)
    have hlt2 : x < kvs.length := by omega
    have pz : ∀ {es : List DictEntry} {kvs : List (K × Value)}, Pairs knd es kvs → ∀ (j : Nat) (h1 : j < es.length) (h2 : j < kvs.length), knd.is kvs[j].1 es[j].key = true ∧ es[j].val = kvs[j].2 := by
      intro es kvs h
      induction h with
      | nil => intro j h1; exact absurd h1 (Nat.not_lt_zero _)
      | cons g1 g2 _ ih =>
        intro j h1 h2
        cases j with
        | zero => exact ⟨g1, g2⟩
        | succ j => exact ih j (Nat.lt_of_succ_lt_succ h1) (Nat.lt_of_succ_lt_succ h2)
    obtain ⟨g1, g2⟩ := pz hpa x (by rw [Array.length_toList]; exact hlt) hlt2
    rw [Array.getElem_toList] at g1 g2
    rw [Array.getElem?_eq_getElem hlt]
    dsimp only
    obtain ⟨k', hk', hh⟩ := hka ea[x] (Array.getElem_mem hlt)
    obtain rfl : k' = kvs[x].1 := knd.inj _ _ _ hk' g1
    rw [if_neg Bool.false_ne_true, hh]
    have hnin : kvs[x].1 ∉ (kv0 ++ kvs.take x).map (·.1) := by
      rw [List.map_append, List.mem_append]
      rintro (z | z)
      · exact hn _ (List.getElem_mem hlt2) z
      · obtain ⟨q, hq, e⟩ := List.mem_map.mp z
        obtain ⟨j, hj, e2⟩ := List.mem_take_iff_getElem.mp hq
        have hj2 : j < x := by omega
        have z1 : (kvs.map (·.1))[j]'(by rw [List.length_map]; omega) = kvs[x].1 := by
          rw [List.getElem_map, e2]
          exact e
        have z2 : (kvs.map (·.1))[x]'(by rw [List.length_map]; exact hlt2) = kvs[x].1 := List.getElem_map _
        exact (List.pairwise_iff_getElem.mp (List.nodup_iff_pairwise_ne.mp nda)) j x _ _ hj2 (z1.trans z2.symm)
    refine wpAny_bind (wpAny_holding (put_new (s := { s with heap := h' }) g1 hd' (by rw [List.length_append, List.length_take]; omega) hnin fun h2 hd2 sb2 => ?_))
    have hoa2 : h2.get? a = some oa := (sb2.2 a ne).trans hoa'
    refine wpAny_bind (wpAny_dictEpoch (s := { s with heap := h2 }) hoa2 hda ?_)
    rw [if_neg (by simp)]
    refine wpAny_pure ⟨x + 1, h2, hlt, e2, rfl, ?_, sb.trans sb2⟩
    have e3 : kvs.take (x + 1) = kvs.take x ++ [(kvs[x].1, ea[x].val)] := by
      rw [List.take_succ_eq_append_getElem hlt2, g2]
    rw [e3, ← List.append_assoc]
    exact hd2
  · rintro b s' ⟨i, h', hi, hr, rfl, hd', sb⟩
    have hge : ea.size ≤ i := by
      rcases Nat.lt_or_ge i ea.size with y | y
      · rw [List.drop_eq_getElem_cons (by rw [List.length_range]; exact y)] at hr
        cases hr
      · exact y
    rw [List.take_of_length_le (by omega)] at hd'
    exact wpAny_pure (hQ h' hd' sb)
end
end StarD
namespace L2
open PySem PySem.Spec PyProof.Rows
theorem kv_app {a b : List (Key × V)} {c d : List (Key × Value)} (h : KV a c) (h2 : KV b d) : KV (a ++ b) (c ++ d) := by
  unfold KV at h ⊢
  induction h with
  | nil => exact h2
  | cons x _ ih => exact .cons x ih
/-- {z: i, **e} -/
def tDStar (z : Str) (i : Int) (te : TE) : TE := fun σ H Q => ∀ d, H d = none → te σ (upd H d (.dK [(.inr z, .int i)])) fun x H1 => ∃ (a : Addr) (ks : List (Key × V)), x = .ref a ∧ a ≠ d ∧ Rd H1 a (.dK ks) ∧ H1 d = some (.dK [(.inr z, .int i)]) ∧ (∀ p ∈ ks, p.1 ≠ .inr z) ∧ ks.length ≤ 900 ∧
  Q (.ref d) (upd H1 d (.dK ((.inr z, .int i) :: ks)))
theorem pe_dstar {X : Cx} {z : Str} {i : Int} {e : Expr} {te : TE} {k1 k2 : Nat} {p1 p2 pos : Pos} (he : PE X e te) : PE X (.Dict [some (.Constant (.str z) k1 p1), none] [.Constant (.int i) k2 p2, e] pos) (tDStar z i te) := by
  refine ⟨fun pins s σ H Q I q => ?_⟩
  have hn := I.hok.fresh (Nat.le_refl s.heap.objs.size)
  have I1 := I.laid (a := s.heap.objs.size) (o := .dK []) (h' := s.heap.push { cls := .type "dict", data := .dict #[] }) (t' := s.toks) (fun _ _ q => Heap.get?_push_of_some _ q) (Nat.le_refl _) (dk_empty s.heap I.big)
  have hshape : (evalEachOpt [some (.Constant (.str z) k1 p1), none] X.env).zip ((evalEach [.Constant (.int i) k2 p2, e] X.env).map fun v => do let x ← v; standAt pos; pure x) =
    [(some (eval (.Constant (.str z) k1 p1) X.env), do let x ← eval (.Constant (.int i) k2 p2) X.env; standAt pos; pure x), (none, do let x ← eval e X.env; standAt pos; pure x)] := rfl
  rw [arm_eval_Dict, hshape, StarD.display_star]
  refine wpAny_bind (wpAny_standAt (wpAny_bind (wpAny_subDict (knd := mixKind X.prog X.w) (by simp) (evalPairs_cons ?_))))
  refine thn ((pe_str (X := X) (x := z) (j := k1) (pos := p1)).run pins _ σ _ (fun v H1 => v = .str z ∧ H1 = upd H s.heap.objs.size (.dK [])) I1 ⟨rfl, rfl⟩) fun u s1 ⟨x, H1, I2, rx, ex, eh⟩ => ?_
  subst ex eh
  refine wpAny_bind (thn ((pe_int (X := X) (i := i) (j := k2) (pos := p2)).run pins _ σ _ (fun v H1 => v = .int i ∧ H1 = upd H s.heap.objs.size (.dK [])) I2 ⟨rfl, rfl⟩) fun u2 s2 ⟨x, H1, I3, rx2, ex, eh⟩ => ?_)
  subst ex eh
  refine wpAny_bind (wpAny_standAt (wpAny_pure (evalPairs_nil ?_)))
  obtain ⟨rs, c, rk⟩ := carries_of (P := X.prog) (w := X.w) (kvs := [(.inr z, .int i)]) (ws := [(u, u2)]) (.cons ⟨rx, rx2⟩ .nil)
  obtain ⟨_, hd0, vs0, r0, dd⟩ := dk_of I3.hok (upd_same : (upd H s.heap.objs.size (.dK [])) s.heap.objs.size = some (.dK []))
  cases r0
  refine ⟨rs, c, dd, fun h' dd' hs => ?_⟩
  have hp : ∃ q, h'.get? s.heap.objs.size = some q := let ⟨q, _, _, hq, _⟩ := dd'; ⟨q, hq⟩
  have I4 := d_write (t' := s2.toks + [(u, u2)].length) I3 (by rw [upd_same]; exact True.intro) hs hp (dk_new (kvs := mergeK [] [(Sum.inr z, V.int i)]) (show 1 ≤ sizeLine by decide) hd0 (rk.merge .nil) dd')
  rw [upd_upd] at I4
  have em : mergeK [] [(Sum.inr z, V.int i)] = [(Sum.inr z, V.int i)] := rfl
  rw [em] at I4
  refine wpAny_bind (wpAny_holding (wpAny_bind (thn (he.run pins _ σ _ _ I4 (q _ hn)) fun xv s5 ⟨x, H5, I5, rx5, a, ks, ex, ne, hra, hd5, hk, hz, q5⟩ => wpAny_bind (wpAny_standAt (wpAny_pure ?_)))))
  subst ex
  obtain rfl : xv = Value.ref a := rx5
  obtain ⟨_, ya, va, ra, da⟩ := dk_rd I5.hok hra
  obtain ⟨_, yd, vd, rd, dd5⟩ := dk_of I5.hok hd5
  have lv : va.length = ks.length := ra.length.symm
  have ld : vd.length = 1 := rd.length.symm
  refine wpAny_bind (wpAny_onRaise (wpAny_tryCatch (wpAny_onRaise (wpAny_holding (StarD.merge_new dd5 da ne ya (fun y => by rw [y] at ld; cases ld) (by rw [lv, ld, sizeLine_eq]; omega) (fun p hp => ?_) fun h6 dd6 sb6 => wpAny_pure ?_)))))
  · have e1 : va.map (·.1) = ks.map (·.1) := ra.keys.symm
    have e2 : vd.map (·.1) = [Sum.inr z] := rd.keys.symm
    rw [e2]
    intro y
    have y2 := List.mem_singleton.mp y
    have hm : p.1 ∈ ks.map (·.1) := by rw [← e1]; exact List.mem_map.mpr ⟨p, hp, rfl⟩
    obtain ⟨r, hr, er⟩ := List.mem_map.mp hm
    exact hk r hr (er.trans y2)
  · have hp6 : ∃ q, h6.get? s.heap.objs.size = some q := let ⟨q, _, _, hq, _⟩ := dd6; ⟨q, hq⟩
    have kv6 : KV ((Sum.inr z, V.int i) :: ks) (vd ++ va) := kv_app rd ra
    exact ⟨.ref s.heap.objs.size, _, d_write (t' := s5.toks) I5 (by rw [hd5]; exact True.intro) sb6 hp6 (dk_new (by rw [List.length_cons, sizeLine_eq]; omega) yd kv6 dd6), rfl, q5⟩
end L2
-- part SBehind
set_option maxHeartbeats 8000000
/-! _begun, _told, _behind: the values of a loop's variables. -/
namespace Kn
open PySem PySem.Spec PyProof.Rows L2 Err
abbrev NBh : List Str := ["self", "values", "row", "kind", "number", "powers", "sums", "after", "name"]
theorem scBg : FnScope ["self"] ["self"] (defScope sBegunP) := ⟨rfl, rfl, rfl, by decide +kernel, rfl, by decide +kernel, by decide +kernel⟩
theorem scTd : FnScope ["self", "values"] ["self", "values"] (defScope sTold) := ⟨rfl, rfl, rfl, by decide +kernel, rfl, by decide +kernel, by decide +kernel⟩
theorem scBh : FnScope NBh ["self", "values", "row"] (defScope sBehind) := ⟨rfl, rfl, rfl, by decide +kernel, rfl, by decide +kernel, by decide +kernel⟩
/-- values by name, "" stands for 1 -/
abbrev Env1 : Type := Str → Int
def VD (H : Hp) (a : Addr) (env : Env1) (names : List Str) : Prop := ∃ ks, H a = some (.dK ks) ∧ (∀ t : Str, t = "" ∨ t ∈ names → valV ks (.inr t) = some (.int (env t))) ∧ ks.length ≤ 900
theorem VD.same {H H' : Hp} {a : Addr} {env : Env1} {names : List Str} (h : VD H a env names) (s : Same H H') : VD H' a env names := by
  obtain ⟨ks, h1, h2, h3⟩ := h
  exact ⟨ks, s _ _ h1, h2, h3⟩
def env0 (m : Lm) : Env1 := fun t => if t = "" then 1 else (m.start.lookup t).getD 0
def pwF (n : Int) : Int → Int := fun p => if p = 0 then 1 else if p = 1 then n else n * n
def stepE (m : Lm) (env : Env1) (r : Str × Int) : Env1 := fun t => if t = "" then 1 else worthF ((((m.steps.lookup r.1).getD []).lookup t).getD []) env (pwF r.2)
def goE (m : Lm) (rows : List (Str × Int)) : Env1 := rows.foldl (stepE m) (env0 m)
def toldE (m : Lm) (env : Env1) : Int := worthF m.last env fun _ => 1
theorem ti_ne {l : List Str} (h : NmOk l) : ∀ t ∈ l, t ≠ "" := fun t ht => (isNameTI t (h.ti.inT t ht)).2.2.2.1
def spBg (C : Addr) : Sp := fun vs H Q _ => ∃ p m, vs = [.ref p] ∧ LoopAt C H p m ∧ LoopOk m ∧ ∀ q H', Same H H' → VD H' q (env0 m) m.names → Q (.ref q) H'
def spTd (C : Addr) : Sp := fun vs H Q _ => ∃ p m vd env, vs = [.ref p, .ref vd] ∧ LoopAt C H p m ∧ LoopOk m ∧ VD H vd env m.names ∧ ∀ H', Same H H' → Q (.int (toldE m env)) H'
def spBh (C : Addr) : Sp := fun vs H Q _ => ∃ p m vd env rw kd n, vs = [.ref p, .ref vd, .ref rw] ∧ LoopAt C H p m ∧ LoopOk m ∧ VD H vd env m.names ∧ Rd H rw (.tup [.str kd, .int n]) ∧ kd ∈ m.steps.map (·.1) ∧ -1000 ≤ n ∧ n ≤ 1000 ∧
  ∀ q H', Same H H' → VD H' q (stepE m env (kd, n)) m.names → Q (.ref q) H'
section
variable {P : Program} {w : World} {K : PySem.W.Frag} {mg : Str → Option Value} {base : Heap}
theorem ok_bg {f C : Addr} {fd : FuncData} (F : Fun K "_begun" "Loop._begun" sBegunP f fd) (T : PTxt K C) : FnOk P w K mg base CX0 1 f fd ["self"] (spBg C) := by
  refine F.ok scBg (fun vs H Q E h => ?_) (fun cdv A outer s H vs Q E hr h => ?_)
  · obtain ⟨p, m, rfl, _⟩ := h
    rfl
  · obtain ⟨p, m, rfl, hp, ok, q⟩ := h
    refine ⟨_, pss_one (ps_ret (pe_dstar (pe_fld (pv 0) rfl))), ?_⟩
    obtain ⟨dx, sd, st, ls, h1, ⟨ks, h2, h2'⟩, h3, h4⟩ := hp.ex
    intro d nd
    have s1 : Same H (upd H d (.dK [(.inr "", .int 1)])) := same_new nd
    have ne : sd ≠ d := fun z => by
      rw [← z, h2] at nd
      cases nd
    have kz : ∀ p ∈ ks, p.1 ≠ .inr "" := fun r hr e => by
      have z : r.1 ∈ ks.map (·.1) := List.mem_map.mpr ⟨r, hr, rfl⟩
      rw [h2'.keys, e] at z
      obtain ⟨t, ht, e2⟩ := List.mem_map.mp z
      exact ti_ne ok.nm t ht (Sum.inr.inj e2)
    have lz : ks.length ≤ 3 := by
      have := ok.nm.n3
      unfold Lm.names at this
      rw [List.length_map] at this
      have := h2'.len
      omega
    refine ⟨_, rfl, p, C, dx, _, _, rfl, s1 _ _ h1, T.cl, T.nS, lf_start _ _ _, sd, ks, rfl, ne, .inl (s1 _ _ h2), upd_same, kz, by omega, q d _ (same_own nd s1) ⟨_, upd_same, fun t ht => ?_, by rw [List.length_cons]; omega⟩⟩
    rw [valV_cons]
    by_cases e : t = ""
    · subst e
      rw [if_pos rfl]
      rfl
    · rw [if_neg fun z => e (Sum.inr.inj z).symm]
      obtain ⟨b, hb, _⟩ := look_in (ht.resolve_left e)
      obtain ⟨v, hv, rfl⟩ := h2'.get hb
      rw [hv]
      unfold env0
      rw [if_neg e, hb]
      rfl
theorem ok_td {f C f1 : Addr} {fd fd1 : FuncData} (F : Fun K "_told" "Loop._told" sTold f fd) (T : PTxt K C) (G1 : FnOk P w K mg base CX0 1 f1 fd1 ["terms", "values", "powers"] spWorth) (k1 : PySem.W.keepIn K (.ref f1) = true) (b1 : Binds K fd1 ["terms", "values", "powers"] []) (g1 : mg "worth_of" = some (.ref f1)) :
    FnOk P w K mg base CX0 2 f fd ["self", "values"] (spTd C) := by
  refine F.ok scTd (fun vs H Q E h => ?_) (fun cdv A outer s H vs Q E hr h => ?_)
  · obtain ⟨p, m, vd, env, rfl, _⟩ := h
    rfl
  · obtain ⟨p, m, vd, env, rfl, hp, ok, ⟨kv, hv, hval, hz⟩, q⟩ := h
    refine ⟨_, pss_one (ps_ret (pe_call G1 hr (by rfl) g1 k1 b1 .nil pass0 (pa_cons (pe_fld (pv 0) rfl) (pa_cons (pv 1) (pa_cons (pe_tup (pa_cons pe_int pa_nil)) pa_nil))))), ?_⟩
    obtain ⟨dx, sd, st, ls, h1, h2, h3, h4⟩ := hp.ex
    refine ⟨_, rfl, p, C, dx, _, _, rfl, h1, T.cl, T.nL, lf_last _ _ _, _, rfl, by show 1 ≤ sizeLine; decide, fun t nt => ?_⟩
    have s1 : Same H (upd H t (.tup [.int 1])) := same_new nt
    refine ⟨ls, vd, t, m.last, kv, [1], env, fun _ => 1, rfl, h4.same s1, .inl (s1 _ _ hv), .inl upd_same, fun x hx => ⟨?_, ?_, ⟨0, ok.l0 x hx, rfl⟩, by decide, by decide⟩, fun H' s2 => q H' (s1.trans s2)⟩
    · obtain ⟨_, _, _, a, b, _⟩ := ok.la.t x hx
      exact ⟨a, b⟩
    · exact hval _ (ok.la.t x hx).1
theorem pw_at {n p : Int} (h0 : 0 ≤ p) (h2 : p ≤ 2) : ∃ k : Nat, p = k ∧ ([1, n, n * n] : List Int)[k]? = some (pwF n p) := by
  have h : p = 0 ∨ p = 1 ∨ p = 2 := by omega
  rcases h with rfl | rfl | rfl
  · exact ⟨0, rfl, rfl⟩
  · exact ⟨1, rfl, rfl⟩
  · exact ⟨2, rfl, rfl⟩
theorem pw_b {n p : Int} (h0 : -1000 ≤ n) (h1 : n ≤ 1000) : -1000000 ≤ pwF n p ∧ pwF n p ≤ 1000000 := by
  have e : n * n = (n.natAbs : Int) * (n.natAbs : Int) := by rw [← Int.natAbs_mul_self' n]
  have l : n.natAbs ≤ 1000 := by omega
  have l2 : n.natAbs * n.natAbs ≤ 1000 * 1000 := Nat.mul_le_mul l l
  have l3 : ((n.natAbs * n.natAbs : Nat) : Int) ≤ ((1000 * 1000 : Nat) : Int) := Int.ofNat_le.mpr l2
  have l4 : (0 : Int) ≤ (n.natAbs : Int) * (n.natAbs : Int) := Int.mul_nonneg (Int.natCast_nonneg _) (Int.natCast_nonneg _)
  rw [Int.natCast_mul, ← e] at l3
  rw [← e] at l4
  unfold pwF
  by_cases e1 : p = 0
  · rw [if_pos e1]
    omega
  · rw [if_neg e1]
    by_cases e2 : p = 1
    · rw [if_pos e2]
      omega
    · rw [if_neg e2]
      omega
theorem ok_bh {f C f1 : Addr} {fd fd1 : FuncData} (F : Fun K "_behind" "Loop._behind" sBehind f fd) (T : PTxt K C) (G1 : FnOk P w K mg base CX0 1 f1 fd1 ["terms", "values", "powers"] spWorth) (k1 : PySem.W.keepIn K (.ref f1) = true) (b1 : Binds K fd1 ["terms", "values", "powers"] []) (g1 : mg "worth_of" = some (.ref f1)) :
    FnOk P w K mg base CX0 2 f fd ["self", "values", "row"] (spBh C) := by
  have S := scBh
  refine F.ok S (fun vs H Q E h => ?_) (fun cdv A outer s H vs Q E hr h => ?_)
  · obtain ⟨p, m, vd, env, rw, kd, n, rfl, _⟩ := h
    rfl
  · obtain ⟨p, m, vd, env, rw, kd, n, rfl, hp, ok, ⟨kv, hv, hval, hz⟩, hrw, hkd, n0, n1, q⟩ := h
    have hu := hu_of hr
    refine ⟨_, pss_cons (ps_asg (pv 2) (pg_tup rfl (pgs_cons (pg_name (i := 3) S.nd rfl (.inl rfl)) (pgs_cons (pg_name (i := 4) S.nd rfl (.inl rfl)) pgs_nil))))
      (pss_cons (ps_set (i := 5) S.nd rfl (.inr rfl) (pe_tup (pa_cons pe_int (pa_cons (pv 4) (pa_cons (pe_op op_mul (pv 4) (pv 4)) pa_nil)))))
      (pss_cons (ps_set (i := 6) S.nd rfl (.inr rfl) (pe_dget hu (pe_fld (pv 0) rfl) (pv 3) (fun _ _ => rfl)))
      (pss_cons (ps_lock (ps_setDc (i := 7) (own := [("name", 8)]) (g := gName 8) rfl S.nd rfl rfl (sw_trueD rfl rfl rfl (by decide +kernel)) (pi_keys (pv 6)) (blkOk_by (N := NBh) (sc := defScope sBehind) (by decide +kernel)) (fun _ _ _ _ _ => pg_name (i := 8) S.nd rfl (.inl rfl)) (fun _ _ _ _ _ => pts_nil)
        (fun _ _ _ _ _ => pv 8) (fun _ _ _ _ _ => pe_call G1 hr (by rfl) g1 k1 b1 .nil pass0 (pa_cons (pe_dget hu (pv 6) (pv 8) (fun _ _ => rfl)) (pa_cons (pv 1) (pa_cons (pv 5) pa_nil))))))
      (pss_cons (ps_dput hu (pv 7) pe_str pe_int rfl) (pss_one (ps_ret (pv 7))))))), ?_⟩
    obtain ⟨dx, sd, st, ls, h1, h2, hst, h4⟩ := hp.ex
    refine ⟨_, rfl, rw, _, rfl, .inl hrw, rfl, _, _, rfl, _, _, rfl, rfl, ?_⟩
    refine ⟨_, rfl, _, rfl, _, rfl, _, _, rfl, rfl, .inl ⟨by omega, by omega⟩, by show 3 ≤ sizeLine; decide, fun pw npw => ?_⟩
    have s1 : Same H (upd H pw (.tup [.int 1, .int n, .int (n * n)])) := same_new npw
    have hpw : (upd H pw (.tup [.int 1, .int n, .int (n * n)])) pw = some (.tup [.int 1, .int n, .int (n * n)]) := upd_same
    generalize upd H pw (.tup [.int 1, .int n, .int (n * n)]) = H1 at s1 hpw ⊢
    obtain ⟨sm, hsm, hmem⟩ := look_in hkd
    obtain ⟨kt, hkt, hktp⟩ := id hst
    obtain ⟨vk, hvk, b, rfl, kb, hb, hbp⟩ := hktp.get hsm
    obtain ⟨smn, smo⟩ := ok.ss _ hmem
    have hb1 := s1 _ _ hb
    have lz : kb.length ≤ 900 := by
      have z : (sm.map (·.1)).length ≤ 3 := by rw [smn]; exact ok.nm.n3
      rw [List.length_map] at z
      have := hbp.len
      omega
    have nds : (sm.map (·.1)).Nodup := by rw [smn]; exact ok.nm.ti.nd
    refine ⟨_, rfl, p, C, dx, _, _, rfl, s1 _ _ h1, T.cl, T.nT, lf_steps _ _ _, _, rfl, st, _, rfl, hvk ▸ DGet.k (k := Sum.inr kd) (s1 _ _ hkt), ?_⟩
    refine ⟨b, _, hb1, trivial, fun od => ?_⟩
    refine ⟨_, rfl, b, od, rfl, .inl ⟨kb, upd_same, fun D nD => dc_walk walk_keys (fun i H' => Same (upd H1 b (.frz od (.dK kb))) H' ∧ ∃ kvs, H' D = some (.dK kvs) ∧ KvP (fun v ts => v = .int (worthF ts env (pwF n))) kvs (sm.take i)) ⟨same_new nD, [], upd_same, .nil⟩ (fun i H' _ z => z.1 _ _ upd_same) ?_ ?_⟩⟩
    · rintro i x H3 H4 hi ⟨s3, kvs, hD, hL⟩ ⟨rfl, k, v0, hk, rfl⟩
      obtain ⟨nm, ts, hts, rfl, t, rfl, ht⟩ := hbp.at_ hk
      have hval2 : valV kb (.inr nm) = some (.ref t) := val_nodup (by rw [hbp.keys]; exact List.pairwise_map.mpr (nds.imp fun h z => h (Sum.inr.inj z))) _ (List.mem_of_getElem? hk)
      refine ⟨rfl, ?_⟩
      dsimp only [tYes]
      rw [if_pos rfl]
      have tso := smo _ (List.mem_of_getElem? hts)
      refine ⟨_, rfl, _, rfl, _, rfl, b, _, rfl, .inl ⟨kb, .inr nm, .inr ⟨od, s3 _ _ upd_same⟩, rfl, hval2.symm⟩, _, rfl, _, rfl, ?_⟩
      refine ⟨t, vd, pw, ts, kv, [1, n, n * n], env, pwF n, rfl, ((ht.same s1).lock hb1).same s3, Rd.same (Rd.lockK hb1 (.inl (s1 _ _ hv))) s3, Rd.same (Rd.lock hb1 (.inl hpw)) s3, fun x hx => ?_, fun H5 s5 => ⟨kvs, .inr nm, rfl, s5 _ _ hD, ?_, same_own nD (s3.trans s5), _, upd_same, ?_⟩⟩
      · obtain ⟨a1, a2, a3, a4, a5, _⟩ := tso.t x hx
        exact ⟨⟨a4, a5⟩, hval _ a1, pw_at a2 a3, pw_b n0 n1⟩
      · have z := hL.len
        rw [List.length_take] at z
        exact small1000 (by omega)
      · have nin : valV kvs (.inr nm) = none := by
          refine hL.miss fun z => ?_
          obtain ⟨q, hq, e⟩ := List.mem_map.mp z
          obtain ⟨j, hj, e2⟩ := List.mem_take_iff_getElem.mp hq
          have hi2 := (List.getElem?_eq_some_iff.mp hts).1
          have hj2 : j < i := by omega
          have z1 : (sm.map (·.1))[j]'(by rw [List.length_map]; omega) = nm := by
            rw [List.getElem_map, e2]
            exact e
          have z2 : (sm.map (·.1))[i]'(by rw [List.length_map]; exact hi2) = nm := by
            rw [List.getElem_map, (List.getElem?_eq_some_iff.mp hts).2]
          exact (List.pairwise_iff_getElem.mp (List.nodup_iff_pairwise_ne.mp nds)) j i _ _ hj2 (z1.trans z2.symm)
        have tk : sm.take (i + 1) = sm.take i ++ [(nm, ts)] := by rw [List.take_add_one, hts]; rfl
        rw [tk, putK_new _ nin]
        exact hL.snoc rfl
    · rintro H3 ⟨s3, kvs, hD, hL⟩
      have e : sm.take kb.length = sm := by rw [hbp.len]; exact List.take_length
      rw [e] at hL
      have nDb : D ≠ b := fun z => by
        rw [z, upd_same] at nD
        cases nD
      have s4 : Same H1 (upd H3 b (.dK kb)) := same_unlock hb1 s3
      have hD4 : (upd H3 b (.dK kb)) D = some (.dK kvs) := by rw [upd_ne nDb]; exact hD
      have nD1 : H1 D = none := by
        rw [upd_ne nDb] at nD
        exact nD
      refine ⟨s3 _ _ upd_same, ?_⟩
      have kl : kvs.length ≤ 900 := by
        have z := hL.len
        have := hbp.len
        omega
      refine ⟨_, rfl, D, _, rfl, DPut.k (k := Sum.inr "") hD4 (small1000 (by omega)), ?_⟩
      refine ⟨_, rfl, q D _ (s1.trans (same_own nD1 s4)) ⟨_, upd_same, fun t ht => ?_, ?_⟩⟩
      · rw [valV_put]
        by_cases e1 : t = ""
        · subst e1
          rw [if_pos rfl]
          rfl
        · rw [if_neg fun z => e1 (Sum.inr.inj z)]
          have ht2 : t ∈ sm.map (·.1) := by rw [smn]; exact ht.resolve_left e1
          obtain ⟨ts, hts, _⟩ := look_in ht2
          obtain ⟨v, hv2, rfl⟩ := hL.get hts
          rw [hv2]
          unfold stepE
          rw [if_neg e1, hsm]
          show _ = some (V.int (worthF ((sm.lookup t).getD []) env (pwF n)))
          rw [hts]
          rfl
      · have := length_putK kvs (Sum.inr "") (V.int 1)
        have z := hL.len
        have z2 : (sm.map (·.1)).length ≤ 3 := by rw [smn]; exact ok.nm.n3
        rw [List.length_map] at z2
        omega
end
end Kn
-- part SHeld
set_option maxHeartbeats 8000000
/-! answers_along, answer, held. -/
namespace Kn
open PySem PySem.Spec PyProof.Rows L2 Err
abbrev NAl : List Str := ["self", "rows", "values", "answers", "row"]
abbrev NAn : List Str := ["self", "rows"]
abbrev NHl : List Str := ["self", "rows", "values", "row", "name"]
theorem scAl : FnScope NAl ["self", "rows"] (defScope sAlong) := ⟨rfl, rfl, rfl, by decide +kernel, rfl, by decide +kernel, by decide +kernel⟩
theorem scAn : FnScope NAn ["self", "rows"] (defScope sAnswer) := ⟨rfl, rfl, rfl, by decide +kernel, rfl, by decide +kernel, by decide +kernel⟩
theorem scHl : FnScope NHl ["self", "rows"] (defScope sHeld) := ⟨rfl, rfl, rfl, by decide +kernel, rfl, by decide +kernel, by decide +kernel⟩
/-- rows: tuples of a kind and a number -/
inductive RowT (H : Hp) : List V → List (Str × Int) → Prop
  | nil : RowT H [] []
  | cons {rs : List V} {ts : List (Str × Int)} {a : Addr} {r : Str × Int} (h : Rd H a (.tup [.str r.1, .int r.2])) (t : RowT H rs ts) : RowT H (.ref a :: rs) (r :: ts)
theorem RowT.same {H H' : Hp} {rs : List V} {ts : List (Str × Int)} (h : RowT H rs ts) (s : Same H H') : RowT H' rs ts := by
  induction h with
  | nil => exact .nil
  | cons h r ih => exact .cons (Rd.same h s) ih
theorem RowT.len {H : Hp} {rs : List V} {ts : List (Str × Int)} (h : RowT H rs ts) : rs.length = ts.length := by
  induction h with
  | nil => rfl
  | cons h r ih => rw [List.length_cons, List.length_cons, ih]
theorem RowT.get {H : Hp} : ∀ {rs : List V} {ts : List (Str × Int)} {i : Nat} {x : V}, RowT H rs ts → rs[i]? = some x → ∃ a r, x = .ref a ∧ ts[i]? = some r ∧ Rd H a (.tup [.str r.1, .int r.2])
  | _, _, 0, x, .cons (a := a) (r := r) h _, e => ⟨a, r, (Option.some.inj e).symm, rfl, h⟩
  | _, _, i + 1, x, .cons h r, e => by
    obtain ⟨a, t, e1, e2, e3⟩ := r.get (i := i) (by simpa using e)
    exact ⟨a, t, e1, by simpa using e2, e3⟩
/-- rows of the loop's kinds, of small numbers -/
def RowsIn (m : Lm) (rows : List (Str × Int)) : Prop := ∀ r ∈ rows, r.1 ∈ m.steps.map (·.1) ∧ -1000 ≤ r.2 ∧ r.2 ≤ 1000
def ansL (m : Lm) (rows : List (Str × Int)) (i : Nat) : List V := (List.range (i + 1)).map fun j => V.int (toldE m (goE m (rows.take j)))
theorem goE_succ {m : Lm} {rows : List (Str × Int)} {i : Nat} {r : Str × Int} (e : rows[i]? = some r) : goE m (rows.take (i + 1)) = stepE m (goE m (rows.take i)) r := by
  unfold goE
  rw [List.take_add_one, e]
  simp
theorem ansL_succ (m : Lm) (rows : List (Str × Int)) (i : Nat) : ansL m rows (i + 1) = ansL m rows i ++ [V.int (toldE m (goE m (rows.take (i + 1))))] := by
  unfold ansL
  rw [List.range_succ, List.map_append]
  rfl
def spAl (C : Addr) : Sp := fun vs H Q _ => ∃ p m l rs rows, vs = [.ref p, .ref l] ∧ LoopAt C H p m ∧ LoopOk m ∧ H l = some (.lst rs) ∧ RowT H rs rows ∧ rs.length ≤ 900 ∧ RowsIn m rows ∧ ∀ a H', Same H H' → H' a = some (.lst (ansL m rows rows.length)) → Q (.ref a) H'
/-- what both of answer and held do about rows -/
def spRw (C CR : Addr) (good : Lm → List (Str × Int) → Hp → VK → Prop) : Sp := fun vs H Q E => ∃ p m v, vs = [.ref p, v] ∧ LoopAt C H p m ∧ LoopOk m ∧
  ((∃ (r : V), (∀ ks : List (Key × V), ks.map (·.1) = (m.steps.map (·.1)).map Sum.inr → ∃ w, Is H v w ∧ badAt ks w = some r) ∧ ∀ d H', Same H H' → H' d = none → E (.ref CR) (some d) (upd H' d (.xd [("at", r)]))) ∨
   (∃ a rs rows, v = .ref a ∧ SqA H a rs ∧ RowT H rs rows ∧ rs.length ≤ 900 ∧ RowsIn m rows ∧ (∀ ks : List (Key × V), ks.map (·.1) = (m.steps.map (·.1)).map Sum.inr → ∃ w, Is H v w ∧ badAt ks w = none) ∧ good m rows H Q))
def goodA : Lm → List (Str × Int) → Hp → VK → Prop := fun m rows H Q => ∀ H', Same H H' → Q (.int (toldE m (goE m rows))) H'
def heldL (m : Lm) (rows : List (Str × Int)) : List (Str × Int) := m.names.map fun t => (t, goE m rows t)
def goodH : Lm → List (Str × Int) → Hp → VK → Prop := fun m rows H Q => ∀ q H', Same H H' → IntD H' q (heldL m rows) → Q (.ref q) H'
theorem sqA_inj {H : Hp} {a : Addr} {xs ys : List V} (h : SqA H a xs) (h2 : SqA H a ys) : xs = ys := by
  rcases h with z | z <;> rcases h2 with y | y
  · rw [z] at y; cases y; rfl
  · rcases y with y | ⟨_, y⟩ <;> (rw [z] at y; cases y)
  · rcases z with z | ⟨_, z⟩ <;> (rw [z] at y; cases y)
  · rcases z with z | ⟨_, z⟩ <;> rcases y with y | ⟨_, y⟩ <;> (rw [z] at y; cases y) <;> rfl
section
variable {P : Program} {w : World} {K : PySem.W.Frag} {mg : Str → Option Value} {base : Heap}
theorem ok_al {f C fb fh ft : Addr} {fd fdb fdh fdt : FuncData} (F : Fun K "answers_along" "Loop.answers_along" sAlong f fd) (T : PTxt K C)
    (GB : FnOk P w K mg base CX0 1 fb fdb ["self"] (spBg C)) (bB : Binds K fdb ["self"] []) (mB : Meth K C "_begun" fb)
    (GH : FnOk P w K mg base CX0 2 fh fdh ["self", "values", "row"] (spBh C)) (bH : Binds K fdh ["self", "values", "row"] []) (mH : Meth K C "_behind" fh)
    (GT : FnOk P w K mg base CX0 2 ft fdt ["self", "values"] (spTd C)) (bT : Binds K fdt ["self", "values"] []) (mT : Meth K C "_told" ft) : FnOk P w K mg base CX0 3 f fd ["self", "rows"] (spAl C) := by
  have S := scAl
  refine F.ok S (fun vs H Q E h => ?_) (fun cdv A outer s H vs Q E hr h => ?_)
  · obtain ⟨p, m, l, rs, rows, rfl, _⟩ := h
    rfl
  · obtain ⟨p, m, l, rs, rows, rfl, hp, ok, hl, hrs, hz, hin, q⟩ := h
    have hr1 := hr.mono (show 1 ≤ 2 by decide)
    refine ⟨_, pss_cons (ps_set (i := 2) S.nd rfl (.inl rfl) (pe_meth0 (pv 0) T.cl mB GB hr1 bB .nil pass0))
      (pss_cons (ps_set (i := 3) S.nd rfl (.inl rfl) (pe_lst (pa_cons (pe_meth (pv 0) T.cl mT GT hr bT .nil pass0 (pa_cons (pv 2) pa_nil)) pa_nil)))
      (pss_cons (ps_for PassesOwn.never rfl (pi_list (pv 1)) (pg_name (i := 4) S.nd rfl (.inl rfl))
        (pss_cons (ps_set (i := 2) S.nd rfl (.inl rfl) (pe_meth (pv 0) T.cl mH GH hr bH .nil pass0 (pa_cons (pv 2) (pa_cons (pv 4) pa_nil))))
        (pss_one (ps_expr (pe_bm PySem.F.plainAttrs_list PySem.F.slot_list_append PySem.F.type_list_append mt_append (pv 3) (pa_cons (pe_meth (pv 0) T.cl mT GT hr bT .nil pass0 (pa_cons (pv 2) pa_nil)) pa_nil))))))
      (pss_one (ps_ret (pv 3))))), ?_⟩
    obtain ⟨dx, sd, st, ls, h1, h2, h3, h4⟩ := id hp.ex
    refine ⟨_, rfl, p, dx, _, rfl, h1, by kernel_rfl, p, m, rfl, hp, ok, fun v0 H1 s1 hv0 => ?_⟩
    refine ⟨_, rfl, p, dx, _, rfl, s1 _ _ h1, by kernel_rfl, _, rfl, p, m, v0, env0 m, rfl, hp.same s1, ok, hv0, fun H2 s2 => ?_⟩
    have s12 := s1.trans s2
    refine ⟨by show 1 ≤ sizeLine; decide, fun an nan => ?_⟩
    have e0 : [V.int (toldE m (env0 m))] = ansL m rows 0 := rfl
    rw [e0]
    have s3 : Same H (upd H2 an (.lst (ansL m rows 0))) := s12.trans (same_new nan)
    have han : (upd H2 an (.lst (ansL m rows 0))) an = some (.lst (ansL m rows 0)) := upd_same
    have hv3 : VD (upd H2 an (.lst (ansL m rows 0))) v0 (env0 m) m.names := (hv0.same s2).same (same_new nan)
    have nanH : H an = none := by
      cases z : H an with
      | none => rfl
      | some o =>
        rw [s12 _ _ z] at nan
        cases nan
    generalize upd H2 an (.lst (ansL m rows 0)) = H3 at s3 han hv3 ⊢
    refine ⟨_, rfl, l, rfl, ⟨_, SqL.of (s3 _ _ hl)⟩, for_list (xs := rs) (fun i σ H4 => ∃ vd y4, σ = [some (.ref p), some (.ref l), some (.ref vd), some (.ref an), y4] ∧ Same H H4 ∧ VD H4 vd (goE m (rows.take i)) m.names ∧ H4 an = some (.lst (ansL m rows i)))
      ⟨_, _, rfl, s3, hv3, han⟩ (fun i σ H4 _ ⟨_, _, _, s4, _⟩ => SqL.of (s4 _ _ hl)) ?_ ?_⟩
    · rintro i x σ H4 hx ⟨vd, y4, rfl, s4, hvd, han4⟩
      obtain ⟨a, r, rfl, hrow, hra⟩ := hrs.get hx
      obtain ⟨i1, i2, i3⟩ := hin r (List.mem_of_getElem? hrow)
      have hi := (List.getElem?_eq_some_iff.mp hx).1
      refine ⟨_, rfl, p, dx, _, rfl, s4 _ _ h1, by kernel_rfl, _, rfl, _, rfl, p, m, vd, goE m (rows.take i), a, r.1, r.2, rfl, hp.same s4, ok, hvd, Rd.same hra s4, i1, i2, i3, fun v5 H5 s5 hv5 => ?_⟩
      rw [← goE_succ (r := r) hrow] at hv5
      have s45 := s4.trans s5
      refine ⟨_, rfl, .inl ⟨rfl, _, SqL.of (s5 _ _ han4)⟩, _, rfl, p, dx, _, rfl, s45 _ _ h1, by kernel_rfl, _, rfl, p, m, v5, _, rfl, hp.same s45, ok, hv5, fun H6 s6 => ?_⟩
      have han6 : H6 an = some (.lst (ansL m rows i)) := s6 _ _ (s5 _ _ han4)
      refine ⟨an, _, _, rfl, rfl, han6, ?_, v5, _, rfl, same_own nanH (s45.trans s6), ?_, ?_⟩
      · unfold ansL
        rw [List.length_map, List.length_range]
        exact small1000 (by omega)
      · obtain ⟨ks, g1, g2, g3⟩ := hv5.same s6
        have ne : v5 ≠ an := fun z => by
          rw [z, han6] at g1
          cases g1
        exact ⟨ks, by rw [upd_ne ne]; exact g1, g2, g3⟩
      · rw [upd_same, ansL_succ]
    · rintro σ H4 ⟨vd, y4, rfl, s4, hvd, han4⟩
      rw [hrs.len] at han4
      exact ⟨_, rfl, q an H4 s4 han4⟩
theorem ok_an {f C CR f1 f2 : Addr} {fd fd1 fd2 : FuncData} (F : Fun K "answer" "Loop.answer" sAnswer f fd) (T : PTxt K C) (G1 : FnOk P w K mg base (L2.CX P w) 3 f1 fd1 ["kinds", "rows"] (spRows CR)) (k1 : PySem.W.keepIn K (.ref f1) = true) (b1 : Binds K fd1 ["kinds", "rows"] []) (g1 : mg "checked_rows" = some (.ref f1))
    (G2 : FnOk P w K mg base CX0 3 f2 fd2 ["self", "rows"] (spAl C)) (b2 : Binds K fd2 ["self", "rows"] []) (m2 : Meth K C "answers_along" f2) : FnOk P w K mg base (L2.CX P w) 4 f fd ["self", "rows"] (spRw C CR goodA) := by
  have S := scAn
  refine F.okX S (fun vs H Q E h => ?_) (fun cdv A outer s H vs Q E hr h => ?_)
  · obtain ⟨p, m, v, rfl, _⟩ := h
    rfl
  · obtain ⟨p, m, v, rfl, hp, ok, h⟩ := h
    have tk : Takes (cxOf (L2.CX P w) P w K mg base NAn "Loop.answer" (defScope sAnswer) f cdv A outer s H E) (fun cls d _ H => E cls d H) := takes_of rfl rfl rfl rfl
    refine ⟨_, pss_one (ps_ret (pe_ix ix_list (pe_meth (pv 0) T.cl m2 G2 hr b2 .nil pass0 (pa_cons (pe_call G1 hr (by rfl) g1 k1 b1 .nil (passes_call tk fun _ _ _ _ h => h) (pa_cons (pe_fld (pv 0) rfl) (pa_cons (pv 1) pa_nil))) pa_nil)) (pe_un un_neg pe_int) (fun _ _ => rfl))), ?_⟩
    obtain ⟨dx, sd, st, ls, h1, h2, hst, h4⟩ := id hp.ex
    obtain ⟨kt, hkt, hktp⟩ := id hst
    refine ⟨_, rfl, p, dx, _, rfl, h1, by kernel_rfl, _, rfl, p, C, dx, _, _, rfl, h1, T.cl, T.nT, lf_steps _ _ _, _, rfl, ?_⟩
    rcases h with ⟨r, hw, hE⟩ | ⟨a, rs, rows, rfl, hsq, hrs, hz, hin, hw, hQ⟩
    · obtain ⟨u, hu, hb⟩ := hw kt hktp.keys
      refine ⟨v, u, st, kt, rfl, hu, hkt, fun r2 h d H' s' nd => ?_, fun h => by rw [hb] at h; cases h⟩
      rw [hb] at h
      cases h
      exact hE d H' s' nd
    · obtain ⟨u, hu, hb⟩ := hw kt hktp.keys
      refine ⟨_, u, st, kt, rfl, hu, hkt, fun r2 h => (by rw [hb] at h; cases h), fun _ a2 xs l H' ea hsq2 s' nl => ?_⟩
      cases ea
      obtain rfl := sqA_inj hsq hsq2
      have s2 : Same H (upd H' l (.lst rs)) := s'.trans (same_new nl)
      refine ⟨p, m, l, rs, rows, rfl, hp.same s2, ok, upd_same, hrs.same s2, hz, hin, fun an H3 s3 ha => ?_⟩
      refine ⟨1, rfl, an, _, -1, _, rfl, rfl, SqL.of ha, ?_, hQ H3 (s2.trans s3)⟩
      have e1 : ansL m rows rows.length = (List.range rows.length).map (fun j => V.int (toldE m (goE m (rows.take j)))) ++ [V.int (toldE m (goE m rows))] := by
        unfold ansL
        rw [List.range_succ, List.map_append, List.map_singleton, List.take_length]
      rw [e1]
      exact atI_last _ _
theorem ok_hl {f C CR f1 fb fh : Addr} {fd fd1 fdb fdh : FuncData} (F : Fun K "held" "Loop.held" sHeld f fd) (T : PTxt K C) (G1 : FnOk P w K mg base (L2.CX P w) 3 f1 fd1 ["kinds", "rows"] (spRows CR)) (k1 : PySem.W.keepIn K (.ref f1) = true) (b1 : Binds K fd1 ["kinds", "rows"] []) (g1 : mg "checked_rows" = some (.ref f1))
    (GB : FnOk P w K mg base CX0 1 fb fdb ["self"] (spBg C)) (bB : Binds K fdb ["self"] []) (mB : Meth K C "_begun" fb)
    (GH : FnOk P w K mg base CX0 2 fh fdh ["self", "values", "row"] (spBh C)) (bH : Binds K fdh ["self", "values", "row"] []) (mH : Meth K C "_behind" fh) : FnOk P w K mg base (L2.CX P w) 4 f fd ["self", "rows"] (spRw C CR goodH) := by
  have S := scHl
  refine F.okX S (fun vs H Q E h => ?_) (fun cdv A outer s H vs Q E hr h => ?_)
  · obtain ⟨p, m, v, rfl, _⟩ := h
    rfl
  · obtain ⟨p, m, v, rfl, hp, ok, h⟩ := h
    have hu := hu_of hr
    have hr1 := hr.mono (show 1 ≤ 3 by decide)
    have hr2 := hr.mono (show 2 ≤ 3 by decide)
    have tk : Takes (cxOf (L2.CX P w) P w K mg base NHl "Loop.held" (defScope sHeld) f cdv A outer s H E) (fun cls d _ H => E cls d H) := takes_of rfl rfl rfl rfl
    refine ⟨_, pss_cons (ps_set (i := 2) S.nd rfl (.inr rfl) (pe_meth0 (pv 0) T.cl mB GB hr1 bB .nil pass0))
      (pss_cons (ps_for (passes_of rfl) rfl (pi_list (pe_call G1 hr (by rfl) g1 k1 b1 .nil (passes_call tk fun _ _ _ _ h => h) (pa_cons (pe_fld (pv 0) rfl) (pa_cons (pv 1) pa_nil)))) (pg_name (i := 3) S.nd rfl (.inl rfl))
        (pss_one (ps_set (i := 2) S.nd rfl (.inr rfl) (pe_meth (pv 0) T.cl mH GH hr2 bH .nil pass0 (pa_cons (pv 2) (pa_cons (pv 3) pa_nil))))))
      (pss_one (ps_lock (ps_ret (pe_dc (own := [("name", 4)]) (g := gName 4) rfl S.nd (pi_keys (pe_fld (pv 0) rfl)) (blkOk_by (N := NHl) (sc := defScope sHeld) (by decide +kernel)) (fun _ _ _ _ _ => pg_name (i := 4) S.nd rfl (.inl rfl)) (fun _ _ _ _ _ => pts_nil)
        (fun _ _ _ _ _ => pv 4) (fun _ _ _ _ _ => pe_dget hu (pv 2) (pv 4) (fun _ _ => rfl))))))), ?_⟩
    obtain ⟨dx, sd, st, ls, h1, hsd, hst, h4⟩ := id hp.ex
    obtain ⟨kt, hkt, hktp⟩ := id hst
    refine ⟨_, rfl, p, dx, _, rfl, h1, by kernel_rfl, p, m, rfl, hp, ok, fun v0 H1 s1 hv0 => ?_⟩
    refine ⟨_, rfl, p, C, dx, _, _, rfl, s1 _ _ h1, T.cl, T.nT, lf_steps _ _ _, _, rfl, ?_⟩
    rcases h with ⟨r, hw, hE⟩ | ⟨a, rs, rows, rfl, hsq, hrs, hz, hin, hw, hQ⟩
    · obtain ⟨u, hu, hb⟩ := hw kt hktp.keys
      refine ⟨v, u, st, kt, rfl, hu.same s1, s1 _ _ hkt, fun r2 h d H' s' nd => ?_, fun h => by rw [hb] at h; cases h⟩
      rw [hb] at h
      cases h
      exact hE d H' (s1.trans s') nd
    · obtain ⟨u, hu, hb⟩ := hw kt hktp.keys
      refine ⟨_, u, st, kt, rfl, hu.same s1, s1 _ _ hkt, fun r2 h => (by rw [hb] at h; cases h), fun _ a2 xs l H' ea hsq2 s' nl => ?_⟩
      cases ea
      have hsq1 : SqA H1 a rs := by
        rcases hsq with z | z
        · exact .inl (s1 _ _ z)
        · exact .inr (Rd.same z s1)
      obtain rfl := sqA_inj hsq1 hsq2
      have s2 : Same H (upd H' l (.lst rs)) := (s1.trans s').trans (same_new nl)
      have hl2 : (upd H' l (.lst rs)) l = some (.lst rs) := upd_same
      have hv2 : VD (upd H' l (.lst rs)) v0 (env0 m) m.names := (hv0.same s').same (same_new nl)
      generalize upd H' l (.lst rs) = H2 at s2 hl2 hv2 ⊢
      refine ⟨l, rfl, ⟨_, SqL.of hl2⟩, for_list (xs := rs) (fun i σ H4 => ∃ vd y4, σ = [some (.ref p), some (.ref a), some (.ref vd), y4, none] ∧ Same H2 H4 ∧ VD H4 vd (goE m (rows.take i)) m.names)
        ⟨_, _, rfl, Same.refl _, hv2⟩ (fun i σ H4 _ ⟨_, _, _, s4, _⟩ => SqL.of (s4 _ _ hl2)) ?_ ?_⟩
      · rintro i x σ H4 hx ⟨vd, y4, rfl, s4, hvd⟩
        obtain ⟨b, r, rfl, hrow, hra⟩ := hrs.get hx
        obtain ⟨i1, i2, i3⟩ := hin r (List.mem_of_getElem? hrow)
        have s24 := s2.trans s4
        refine ⟨_, rfl, p, dx, _, rfl, s24 _ _ h1, by kernel_rfl, _, rfl, _, rfl, p, m, vd, goE m (rows.take i), b, r.1, r.2, rfl, hp.same s24, ok, hvd, Rd.same hra s24, i1, i2, i3, fun v5 H5 s5 hv5 => ?_⟩
        rw [← goE_succ (r := r) hrow] at hv5
        exact ⟨v5, _, rfl, s4.trans s5, hv5⟩
      · rintro σ H4 ⟨vd, y4, rfl, s4, hvd⟩
        rw [hrs.len, List.take_length] at hvd
        have s24 := s2.trans s4
        obtain ⟨ks, hks, hkp⟩ := hsd.same s24
        obtain ⟨kv, hv, hval, hvz⟩ := hvd
        have lz : ks.length ≤ 900 := by
          have := ok.nm.n3
          unfold Lm.names at this
          rw [List.length_map] at this
          have := hkp.len
          omega
        have ps : p ≠ sd := fun z => by
          have y := s24 _ _ h1
          rw [z, hks] at y
          cases y
        refine ⟨sd, _, hks, trivial, fun od => ?_⟩
        have hp0 : (upd H4 sd (.frz od (.dK ks))) p = some (.ins C dx (lflds sd st ls)) := by rw [upd_ne ps]; exact s24 _ _ h1
        have hln : (heldL m rows).map (·.1) = m.names := by
          unfold heldL
          rw [List.map_map]
          exact List.map_id _
        refine ⟨_, rfl, p, C, dx, _, _, rfl, hp0, T.cl, T.nS, lf_start _ _ _, sd, od, rfl, .inl ⟨ks, upd_same, fun D nD => dc_walk walk_keys (fun i H' => Same (upd H4 sd (.frz od (.dK ks))) H' ∧ ∃ kvs, H' D = some (.dK kvs) ∧ KvP IntR kvs ((heldL m rows).take i)) ⟨same_new nD, [], upd_same, .nil⟩ (fun i H' _ z => z.1 _ _ upd_same) ?_ ?_⟩⟩
        · rintro i x H5 H6 hi ⟨s5, kvs, hD, hL⟩ ⟨rfl, k, v1, hk, rfl⟩
          obtain ⟨nm, b, hnm, rfl, rfl⟩ := hkp.at_ hk
          have hnm2 : m.names[i]? = some nm := by
            unfold Lm.names
            rw [List.getElem?_map, hnm]
            rfl
          have hl3 : (heldL m rows)[i]? = some (nm, goE m rows nm) := by
            unfold heldL
            rw [List.getElem?_map, hnm2]
            rfl
          refine ⟨rfl, ?_⟩
          dsimp only [tYes]
          rw [if_pos rfl]
          refine ⟨_, rfl, _, rfl, _, rfl, vd, _, rfl, .inl ⟨kv, .inr nm, Rd.same (Rd.lockK hks (.inl hv)) s5, rfl, (hval nm (.inr (List.mem_of_getElem? hnm2))).symm⟩, kvs, .inr nm, rfl, hD, ?_, same_own nD s5, _, upd_same, ?_⟩
          · have z := hL.len
            rw [List.length_take] at z
            exact small1000 (by omega)
          · have nin : valV kvs (.inr nm) = none := by
              refine hL.miss fun z => ?_
              obtain ⟨q, hq, e⟩ := List.mem_map.mp z
              obtain ⟨j, hj, e2⟩ := List.mem_take_iff_getElem.mp hq
              have hi2 := (List.getElem?_eq_some_iff.mp hl3).1
              have hj2 : j < i := by omega
              have ndn : ((heldL m rows).map (·.1)).Nodup := by rw [hln]; exact ok.nm.ti.nd
              have z1 : ((heldL m rows).map (·.1))[j]'(by rw [List.length_map]; omega) = nm := by
                rw [List.getElem_map, e2]
                exact e
              have z2 : ((heldL m rows).map (·.1))[i]'(by rw [List.length_map]; exact hi2) = nm := by
                rw [List.getElem_map, (List.getElem?_eq_some_iff.mp hl3).2]
              exact (List.pairwise_iff_getElem.mp (List.nodup_iff_pairwise_ne.mp ndn)) j i _ _ hj2 (z1.trans z2.symm)
            have tk2 : (heldL m rows).take (i + 1) = (heldL m rows).take i ++ [(nm, goE m rows nm)] := by rw [List.take_add_one, hl3]; rfl
            rw [tk2, putK_new _ nin]
            exact hL.snoc rfl
        · rintro H5 ⟨s5, kvs, hD, hL⟩
          have e : (heldL m rows).take ks.length = heldL m rows := by
            have z : ks.length = (heldL m rows).length := by
              have z2 : (heldL m rows).length = m.names.length := by rw [← hln, List.length_map]
              rw [z2, hkp.len]
              unfold Lm.names
              rw [List.length_map]
            rw [z, List.take_length]
          rw [e] at hL
          have nDs : D ≠ sd := fun z => by
            rw [z, upd_same] at nD
            cases nD
          refine ⟨s5 _ _ upd_same, hQ D _ (s24.trans (same_unlock hks s5)) ⟨kvs, by rw [upd_ne nDs]; exact hD, hL⟩⟩
end
end Kn
-- part SLWorth
set_option maxHeartbeats 8000000
/-! _law_worth, _law_loop_reply. -/
namespace Kn
open PySem PySem.Spec PyProof.Rows L2 Err
abbrev sLWorth : Stmt := topS 36
abbrev sLReply : Stmt := topS 37
abbrev NLw : List Str := ["_law_some", "_law_held", "_law_number_here", "_law_risen", "_law_title", "_law_power", "_law_part"]
abbrev NLr7 : List Str := ["_law_told_here", "_law_rows_here", "_law_held", "_law_sort", "_law_number_here", "_law_step", "_law_title"]
theorem scLw : FnScope NLw ["_law_some", "_law_held", "_law_number_here"] (defScope sLWorth) := ⟨rfl, rfl, rfl, by decide +kernel, rfl, by decide +kernel, by decide +kernel⟩
theorem scLr7 : FnScope NLr7 ["_law_told_here", "_law_rows_here"] (defScope sLReply) := ⟨rfl, rfl, rfl, by decide +kernel, rfl, by decide +kernel, by decide +kernel⟩
/-- values by name; what is not there stands for 1 -/
def LD (kv : List (Key × V)) (env : Env1) (names : List Str) : Prop := ∀ t : Str, t = "" ∨ t ∈ names → (valV kv (.inr t)).getD (.int 1) = .int (env t)
def spLWo : Sp := fun vs H Q _ => ∃ (t hd : Addr) (n : Int) (ts : List Tm) (kv : List (Key × V)) (env : Env1) (names : List Str), vs = [.ref t, .ref hd, .int n] ∧ Is H (.ref t) (sumW ts) ∧ H hd = some (.dK kv) ∧ LD kv env names ∧ SumOk names ts ∧ -1000 ≤ n ∧ n ≤ 1000 ∧ ∀ H', Same H H' → Q (.int (worthF ts env (pwF n))) H'
section
variable {P : Program} {w : World} {K : PySem.W.Frag} {mg : Str → Option Value} {base : Heap}
theorem ok_lwo {f : Addr} {fd : FuncData} (F : Fun K "_law_worth" "_law_worth" sLWorth f fd) (ms : mg "sum" = none) : FnOk P w K mg base CX0 1 f fd ["_law_some", "_law_held", "_law_number_here"] spLWo := by
  have S := scLw
  refine F.ok S (fun vs H Q E h => ?_) (fun cdv A outer s H vs Q E hr h => ?_)
  · obtain ⟨t, hd, n, ts, kv, env, names, rfl, _⟩ := h
    rfl
  · obtain ⟨t, hd, n, ts, kv, env, names, rfl, ht, hh, ld, ok, n0, n1, q⟩ := h
    have hu := hu_of hr
    refine ⟨_, pss_cons (ps_set (i := 3) S.nd rfl (.inr rfl) (pe_lst (pa_cons pe_int (pa_cons (pv 2) (pa_cons (pe_op op_mul (pv 2) (pv 2)) pa_nil)))))
      (pss_one (ps_ret (pe_callB (show CallR _ (.builtin "sum") (rSum K) from cr_sum (by rfl)) (by rfl) ms (by decide +kernel) (pa_cons (pe_lc (own := [("_law_title", 4), ("_law_power", 5), ("_law_part", 6)]) (g := gTup K 3 (gCons (gName 4) (gCons (gName 5) (gCons (gName 6) gNil)))) rfl S.nd (pi_tup (pv 0))
        (blkOk_by (N := NLw) (sc := defScope sLWorth) (by decide +kernel)) (fun _ _ _ _ _ => pg_tup rfl (pgs_cons (pg_name (i := 4) S.nd rfl (.inl rfl)) (pgs_cons (pg_name (i := 5) S.nd rfl (.inl rfl)) (pgs_cons (pg_name (i := 6) S.nd rfl (.inl rfl)) pgs_nil)))) (fun _ _ _ _ _ => pts_nil)
        (fun _ _ _ _ _ => pe_op op_mul (pe_op op_mul (pv 6) (pe_dget2 hu (pv 1) (pv 4) pe_int ⟨rfl, rfl, rfl, rfl⟩)) (pe_ix (show IxR _ (rIxL K) from ix_list) (pv 3) (pv 5) (fun _ _ => rfl)))) pa_nil)))), ?_⟩
    refine ⟨_, rfl, _, rfl, _, rfl, n, n, rfl, rfl, .inl ⟨by omega, by omega⟩, by show 3 ≤ sizeLine; decide, fun rs nrs => ?_⟩
    have s1 : Same H (upd H rs (.lst [.int 1, .int n, .int (n * n)])) := same_new nrs
    have hrs : (upd H rs (.lst [.int 1, .int n, .int (n * n)])) rs = some (.lst ([1, n, n * n].map V.int)) := upd_same
    generalize upd H rs (.lst [.int 1, .int n, .int (n * n)]) = H1 at s1 hrs ⊢
    obtain ⟨xs, hx, el, hz, at_⟩ := (ht.same s1).sum
    refine ⟨_, rfl, t, rfl, ⟨xs, .inl hx⟩, fun D nD => lc_it (D := D) (walk_tup (K := K) (a := t)) (PV H1 D ((ts.map fun m => m.2.2 * env m.1 * pwF n m.2.1).map V.int)) (PV.zero nD) (fun _ _ _ pb => .inl (Rd.same hx pb.1)) ?_ ?_⟩
    · rintro i x H3 H4 hi pb ⟨rfl, hxi⟩
      obtain ⟨m, a, hm, rfl, ra⟩ := at_ i x hxi
      obtain ⟨c1, c2, c3, c4, c5, _⟩ := ok.t m (List.mem_of_getElem? hm)
      obtain ⟨k, hk, hpk⟩ := pw_at (n := n) c2 c3
      have hb := pw_b (p := m.2.1) n0 n1
      have hh4 := pb.1 _ _ (s1 _ _ hh)
      refine ⟨a, _, rfl, .inl (Rd.same ra pb.1), rfl, _, _, rfl, _, _, rfl, _, _, rfl, rfl, rfl, ?_⟩
      dsimp only [tYes]
      rw [if_pos rfl]
      refine ⟨_, rfl, _, rfl, hd, rfl, .inl ⟨_, .inl hh4⟩, _, rfl, valV kv (.inr m.1), DGet.k (k := Sum.inr m.1) hh4, m.2.2, env m.1, rfl, ld _ c1, .inl ⟨by omega, by omega⟩, ?_⟩
      refine ⟨_, rfl, _, rfl, rs, _, _, V.int (pwF n m.2.1), rfl, rfl, SqL.of (pb.1 _ _ hrs), ?_, ?_⟩
      · have z := atI_nat (xs := ([1, n, n * n] : List Int).map V.int) (j := k) (v := V.int (pwF n m.2.1)) (by rw [List.getElem?_map, hpk]; rfl)
        rw [← hk] at z
        exact z
      · refine ⟨_, _, rfl, rfl, .inr ⟨by omega, by omega⟩, ?_⟩
        refine pb.step (Same.refl _) nD (by omega) ?_
        rw [List.getElem?_map, List.getElem?_map, hm]
        rfl
    · intro H3 pb
      have hl : ((ts.map fun m => m.2.2 * env m.1 * pwF n m.2.1).map V.int).length = xs.length := by rw [List.length_map, List.length_map, el]
      rw [← hl] at pb
      exact ⟨D, _, rfl, SqL.of pb.all, q H3 (s1.trans pb.1)⟩
/-- told: a loop's parts in a dict -/
structure ToldAt (H : Hp) (a : Addr) (m : Lm) : Prop where
  ex : ∃ ks sd st ls, H a = some (.dK ks) ∧ valV ks (.inr "start") = some (.ref sd) ∧ valV ks (.inr "steps") = some (.ref st) ∧ valV ks (.inr "last") = some (.ref ls) ∧ IntD H sd m.start ∧ StpD H st m.steps ∧ Is H (.ref ls) (sumW m.last)
theorem ToldAt.same {H H' : Hp} {a : Addr} {m : Lm} (h : ToldAt H a m) (s : Same H H') : ToldAt H' a m := by
  obtain ⟨ks, sd, st, ls, h1, h2, h3, h4, h5, h6, h7⟩ := h.ex
  exact ⟨ks, sd, st, ls, s _ _ h1, h2, h3, h4, h5.same s, h6.same s, h7.same s⟩
theorem paired_kv {H : Hp} {K : PySem.W.Frag} : ∀ {ps : List Addr} {kvs : List (Key × V)}, Paired (fun p kv => H p = some (.tup [kV kv.1, kv.2])) ps kvs → Paired (fun p kv => SqT K H p [kV kv.1, kv.2]) ps kvs
  | _, _, .nil => .nil
  | _, _, .cons h t => .cons (.inl (.inl h)) (paired_kv t)
theorem mergeK_nodup : ∀ {kvs acc : List (Key × V)}, ((acc ++ kvs).map (·.1)).Nodup → mergeK acc kvs = acc ++ kvs
  | [], acc, _ => by rw [List.append_nil]; rfl
  | p :: r, acc, h => by
    have e : putK acc p.1 p.2 = acc ++ [p] := by
      refine putK_new _ ?_
      cases z : valV acc p.1 with
      | none => rfl
      | some v =>
        have y := valV_in z
        rw [List.map_append, List.map_cons] at h
        exact absurd rfl ((List.nodup_append.mp h).2.2 _ y _ (List.mem_cons_self ..))
    show mergeK (putK acc p.1 p.2) r = _
    rw [e, mergeK_nodup (by rw [List.append_assoc]; exact h), List.append_assoc]
    rfl
/-! ### a list of pairs, to be a dict -/
def PT (H1 : Hp) (D : Addr) (kvs : List (Key × V)) (i : Nat) (H : Hp) : Prop := Same H1 H ∧ ∃ as : List Addr, H D = some (.lst (as.map V.ref)) ∧ Paired (fun a kv => H a = some (.tup [kV kv.1, kv.2])) as (kvs.take i)
theorem PT.zero {H1 : Hp} {D : Addr} {kvs : List (Key × V)} (n : H1 D = none) : PT H1 D kvs 0 (upd H1 D (.lst [])) := ⟨same_new n, [], upd_same, .nil⟩
theorem paired_mono {α β : Type} {F G : α → β → Prop} (f : ∀ a b, F a b → G a b) : ∀ {xs : List α} {ys : List β}, Paired F xs ys → Paired G xs ys
  | _, _, .nil => .nil
  | _, _, .cons h t => .cons (f _ _ h) (paired_mono f t)
theorem paired_snoc {α β : Type} {F : α → β → Prop} {x : α} {y : β} (h : F x y) : ∀ {xs : List α} {ys : List β}, Paired F xs ys → Paired F (xs ++ [x]) (ys ++ [y])
  | _, _, .nil => .cons h .nil
  | _, _, .cons h' t => .cons h' (paired_snoc h t)
theorem paired_len {α β : Type} {F : α → β → Prop} : ∀ {xs : List α} {ys : List β}, Paired F xs ys → xs.length = ys.length
  | _, _, .nil => rfl
  | _, _, .cons _ t => congrArg (· + 1) (paired_len t)
theorem PT.step {H1 H H4 : Hp} {D t : Addr} {kvs : List (Key × V)} {i : Nat} {k : Key} {v : V} (p : PT H1 D kvs i H) (s : Same H H4) (n : H1 D = none) (nt : H4 t = none) (hi : i ≤ 900) (hv : kvs[i]? = some (k, v)) :
    ∃ acc, (upd H4 t (.tup [kV k, v])) D = some (.lst acc) ∧ acc.length < sizeLine ∧ PT H1 D kvs (i + 1) (upd (upd H4 t (.tup [kV k, v])) D (.lst (acc ++ [.ref t]))) := by
  obtain ⟨s1, as, hD, hp⟩ := p
  have hD4 := s _ _ hD
  have tD : t ≠ D := fun z => by rw [z, hD4] at nt; cases nt
  refine ⟨as.map V.ref, by rw [upd_ne tD.symm]; exact hD4, ?_, same_own n ((s1.trans s).trans (same_new nt)), as ++ [t], ?_, ?_⟩
  · rw [List.length_map, paired_len hp, List.length_take]
    exact small1000 (by omega)
  · rw [upd_same, List.map_append]
    rfl
  · rw [List.take_add_one, hv]
    refine paired_snoc ?_ (paired_mono (fun a kv h => ?_) hp)
    · rw [upd_ne tD]
      exact upd_same
    · have h4 := s _ _ h
      have aD : a ≠ D := fun z => by
        rw [z, hD4] at h4
        cases h4
      have at2 : a ≠ t := fun z => by
        rw [z, nt] at h4
        cases h4
      rw [upd_ne aD, upd_ne at2]
      exact h4
theorem PT.all {H1 H : Hp} {D : Addr} {kvs : List (Key × V)} (p : PT H1 D kvs kvs.length H) : ∃ as : List Addr, H D = some (.lst (as.map V.ref)) ∧ Paired (fun a kv => H a = some (.tup [kV kv.1, kv.2])) as kvs := by
  obtain ⟨_, as, h1, h2⟩ := p
  rw [List.take_length] at h2
  exact ⟨as, h1, h2⟩
/-- values by name in a dict of the law's -/
def HD (H : Hp) (a : Addr) (env : Env1) (names : List Str) : Prop := ∃ kv, H a = some (.dK kv) ∧ LD kv env names ∧ kv.length ≤ 900
theorem HD.same {H H' : Hp} {a : Addr} {env : Env1} {names : List Str} (h : HD H a env names) (s : Same H H') : HD H' a env names := by
  obtain ⟨kv, h1, h2⟩ := h
  exact ⟨kv, s _ _ h1, h2⟩
theorem ld_start {m : Lm} (ok : NmOk m.names) {ks : List (Key × V)} (h : KvP IntR ks m.start) : LD ks (env0 m) m.names := by
  intro t ht
  by_cases e : t = ""
  · subst e
    have z : valV ks (.inr "") = none := h.miss fun y => ti_ne ok _ y rfl
    have e2 : valV ks (Sum.inr (Str.ofString "")) = none := z
    rw [e2]
    rfl
  · obtain ⟨b, hb, _⟩ := look_in (ht.resolve_left e)
    obtain ⟨v, hv, rfl⟩ := h.get hb
    rw [hv]
    unfold env0
    rw [if_neg e, hb]
    rfl
theorem ld_step {m : Lm} (ok : LoopOk m) {env : Env1} {r : Str × Int} {sm : Sums} (hsm : m.steps.lookup r.1 = some sm) (smn : sm.map (·.1) = m.names) {kvs : List (Key × V)} (hL : KvP (fun v ts => v = .int (worthF ts env (pwF r.2))) kvs sm) : LD kvs (stepE m env r) m.names := by
  intro t ht
  unfold stepE
  by_cases e : t = ""
  · subst e
    have z : valV kvs (.inr "") = none := hL.miss fun y => ti_ne ok.nm _ (by rw [← smn]; exact y) rfl
    have e2 : valV kvs (Sum.inr (Str.ofString "")) = none := z
    rw [e2]
    rfl
  · have ht2 : t ∈ sm.map (·.1) := by rw [smn]; exact ht.resolve_left e
    obtain ⟨ts, hts, _⟩ := look_in ht2
    obtain ⟨v, hv2, rfl⟩ := hL.get hts
    rw [hv2, if_neg e, hsm]
    show V.int _ = V.int (worthF ((sm.lookup t).getD []) env (pwF r.2))
    rw [hts]
    rfl
end
end Kn
-- part SLReply
set_option maxHeartbeats 8000000
/-! _law_loop_reply. -/
namespace Kn
open PySem PySem.Spec PyProof.Rows L2 Err
def spLRe : Sp := fun vs H Q _ => ∃ (td rl : Addr) (m : Lm) (rs : List V) (rows : List (Str × Int)), vs = [.ref td, .ref rl] ∧ ToldAt H td m ∧ LoopOk m ∧ H rl = some (.lst rs) ∧ RowT H rs rows ∧ rs.length ≤ 900 ∧ RowsIn m rows ∧ ∀ H', Same H H' → Q (.int (toldE m (goE m rows))) H'
theorem kvp_map {β : Type} (f : β → V) : ∀ l : List (Str × β), KvP (fun v b => v = f b) (l.map fun q => (Sum.inr q.1, f q.2)) l
  | [] => .nil
  | _ :: r => .cons rfl (kvp_map f r)
theorem worth_pw {ts : List Tm} {env : Env1} {f g : Int → Int} (h : ∀ t ∈ ts, f t.2.1 = g t.2.1) : worthF ts env f = worthF ts env g := by
  unfold worthF
  congr 1
  exact List.map_congr_left fun t ht => by rw [h t ht]
section
variable {P : Program} {w : World} {K : PySem.W.Frag} {mg : Str → Option Value} {base : Heap}
theorem ok_lre {f f1 : Addr} {fd fd1 : FuncData} (F : Fun K "_law_loop_reply" "_law_loop_reply" sLReply f fd) (G1 : FnOk P w K mg base CX0 1 f1 fd1 ["_law_some", "_law_held", "_law_number_here"] spLWo) (k1 : PySem.W.keepIn K (.ref f1) = true) (b1 : Binds K fd1 ["_law_some", "_law_held", "_law_number_here"] []) (g1 : mg "_law_worth" = some (.ref f1))
    (md : mg "dict" = none) (ml : mg "list" = none) : FnOk P w K mg base CX0 2 f fd ["_law_told_here", "_law_rows_here"] spLRe := by
  have S := scLr7
  refine F.ok S (fun vs H Q E h => ?_) (fun cdv A outer s H vs Q E hr h => ?_)
  · obtain ⟨td, rl, m, rs, rows, rfl, _⟩ := h
    rfl
  · obtain ⟨td, rl, m, rs, rows, rfl, htd, ok, hl, hrs, hz, hin, q⟩ := h
    have hu := hu_of hr
    refine ⟨_, pss_cons (ps_set (i := 2) S.nd rfl (.inr rfl) (pe_callTy (call_dictP rfl) (by rfl) md (by decide +kernel) (pa_cons (LiI.pe_listItems rfl (pe_dget hu (pv 0) pe_str (fun _ _ => rfl)) (by rfl) ml (by decide +kernel)) pa_nil)))
      (pss_cons (ps_for PassesOwn.never rfl (pi_list (pv 1)) (pg_tup rfl (pgs_cons (pg_name (i := 3) S.nd rfl (.inl rfl)) (pgs_cons (pg_name (i := 4) S.nd rfl (.inr rfl)) pgs_nil)))
        (pss_cons (ps_set (i := 5) S.nd rfl (.inr rfl) (pe_dget hu (pe_dget hu (pv 0) pe_str (fun _ _ => rfl)) (pv 3) (fun _ _ => rfl)))
        (pss_one (ps_set (i := 2) S.nd rfl (.inr rfl) (pe_callTy (call_dictP rfl) (by rfl) md (by decide +kernel) (pa_cons (pe_lock (pe_lc (own := [("_law_title", 6)]) (g := gName 6) rfl S.nd (pi_keys (pv 5)) (blkOk_by (N := NLr7) (sc := defScope sLReply) (by decide +kernel)) (fun _ _ _ _ _ => pg_name (i := 6) S.nd rfl (.inl rfl)) (fun _ _ _ _ _ => pts_nil)
          (fun _ _ _ _ _ => pe_tup (pa_cons (pv 6) (pa_cons (pe_call G1 hr (by rfl) g1 k1 b1 .nil pass0 (pa_cons (pe_dget hu (pv 5) (pv 6) (fun _ _ => rfl)) (pa_cons (pv 2) (pa_cons (pv 4) pa_nil)))) pa_nil))))) pa_nil))))))
      (pss_one (ps_ret (pe_call G1 hr (by rfl) g1 k1 b1 .nil pass0 (pa_cons (pe_dget hu (pv 0) pe_str (fun _ _ => rfl)) (pa_cons (pv 2) (pa_cons pe_int pa_nil))))))), ?_⟩
    obtain ⟨kt, sd, st, ls, h1, v1, v2, v3, hsd, hst, hls⟩ := id htd.ex
    obtain ⟨ks, hks, hkp⟩ := id hsd
    refine ⟨_, rfl, td, _, rfl, v1 ▸ DGet.k (k := Sum.inr "start") h1, sd, ks, rfl, hks, fun H1 p0 as s1 np0 nas pas hp0 hpr => ?_⟩
    have nd0 : (ks.map (·.1)).Nodup := by
      rw [hkp.keys]
      exact List.pairwise_map.mpr (ok.nm.ti.nd.imp fun h z => h (Sum.inr.inj z))
    refine ⟨p0, as, ks, rfl, SqL.of hp0, paired_kv hpr, fun h0 nh0 => ?_⟩
    rw [mergeK_nodup (by rw [List.nil_append]; exact nd0), List.nil_append]
    have s1' : Same H H1 := s1
    have s2 : Same H (upd H1 h0 (.dK ks)) := s1'.trans (same_new nh0)
    have hh0 : HD (upd H1 h0 (.dK ks)) h0 (env0 m) m.names := ⟨ks, upd_same, ld_start ok.nm hkp, by
      have := ok.nm.n3
      unfold Lm.names at this
      rw [List.length_map] at this
      have := hkp.len
      omega⟩
    generalize upd H1 h0 (.dK ks) = H2 at s2 hh0 ⊢
    refine ⟨_, rfl, rl, rfl, ⟨_, SqL.of (s2 _ _ hl)⟩, for_list (xs := rs) (fun i σ H4 => ∃ hd y3 y4 y5 y6, σ = [some (.ref td), some (.ref rl), some (.ref hd), y3, y4, y5, y6] ∧ Same H H4 ∧ HD H4 hd (goE m (rows.take i)) m.names)
      ⟨_, _, _, _, _, rfl, s2, hh0⟩ (fun i σ H4 _ ⟨_, _, _, _, _, _, s4, _⟩ => SqL.of (s4 _ _ hl)) ?_ ?_⟩
    · rintro i x σ H4 hx ⟨hd, y3, y4, y5, y6, rfl, s4, kv, hhd, ld, hvz⟩
      obtain ⟨a, r, rfl, hrow, hra⟩ := hrs.get hx
      obtain ⟨i1, i2, i3⟩ := hin r (List.mem_of_getElem? hrow)
      obtain ⟨sm, hsm, hmem⟩ := look_in i1
      obtain ⟨smn, smo⟩ := ok.ss _ hmem
      obtain ⟨kst, hkst, hktp⟩ := hst.same s4
      obtain ⟨vk, hvk, b, rfl, kb, hb, hbp⟩ := hktp.get hsm
      have nds : (sm.map (·.1)).Nodup := by rw [smn]; exact ok.nm.ti.nd
      have lsm : sm.length ≤ 3 := by
        have z : (sm.map (·.1)).length ≤ 3 := by rw [smn]; exact ok.nm.n3
        rw [List.length_map] at z
        exact z
      have lz : kb.length = sm.length := hbp.len
      refine ⟨a, _, rfl, .inl (Rd.same hra s4), rfl, _, _, rfl, _, _, rfl, rfl, ?_⟩
      refine ⟨_, rfl, td, _, rfl, v2 ▸ DGet.k (k := Sum.inr "steps") (s4 _ _ h1), _, rfl, st, _, rfl, hvk ▸ DGet.k (k := Sum.inr r.1) hkst, ?_⟩
      let kvs : List (Key × V) := sm.map fun q => (Sum.inr q.1, V.int (worthF q.2 (goE m (rows.take i)) (pwF r.2)))
      have lkv : kvs.length = kb.length := by
        show (sm.map _).length = _
        rw [List.length_map, lz]
      refine ⟨b, _, hb, trivial, fun od => ?_⟩
      refine ⟨_, rfl, b, od, rfl, .inl ⟨kb, upd_same, fun D nD => lc_it (D := D) walk_keys (PT (upd H4 b (.frz od (.dK kb))) D kvs) (PT.zero nD) (fun i H' _ p => p.1 _ _ upd_same) ?_ ?_⟩⟩
      · rintro j x H5 H6 hj p ⟨rfl, k, v0, hk, rfl⟩
        obtain ⟨nm, ts, hts, rfl, t, rfl, ht⟩ := hbp.at_ hk
        have hval2 : valV kb (.inr nm) = some (.ref t) := val_nodup (by rw [hbp.keys]; exact List.pairwise_map.mpr (nds.imp fun h z => h (Sum.inr.inj z))) _ (List.mem_of_getElem? hk)
        have hnb : hd ≠ b := fun z => by
          subst z
          rw [hhd] at hb
          cases hb
          have z2 := ld nm (.inr (by rw [← smn]; exact List.mem_map.mpr ⟨_, List.mem_of_getElem? hts, rfl⟩))
          rw [hval2] at z2
          cases z2
        refine ⟨rfl, ?_⟩
        dsimp only [tYes]
        rw [if_pos rfl]
        refine ⟨_, rfl, _, rfl, _, rfl, b, _, rfl, .inl ⟨kb, .inr nm, .inr ⟨od, p.1 _ _ upd_same⟩, rfl, hval2.symm⟩, _, rfl, _, rfl, ?_⟩
        refine ⟨t, hd, r.2, ts, kv, goE m (rows.take i), m.names, rfl, (ht.lock hb).same p.1, p.1 _ _ (by rw [upd_ne hnb]; exact hhd), ld, smo _ (List.mem_of_getElem? hts), i2, i3, fun H7 s7 => ?_⟩
        refine ⟨by show 2 ≤ sizeLine; decide, fun tt ntt => ?_⟩
        refine p.step s7 nD ntt (by omega) ?_
        show (sm.map _)[j]? = _
        rw [List.getElem?_map, hts]
        rfl
      · intro H5 p
        rw [← lkv] at p
        obtain ⟨as2, hD, hpr2⟩ := p.all
        have s5 : Same H4 (upd H5 b (.dK kb)) := same_unlock hb p.1
        have hD2 : (upd H5 b (.dK kb)) D = some (.lst (as2.map V.ref)) := by
          have ne : D ≠ b := fun z => by
            rw [z, upd_same] at nD
            cases nD
          rw [upd_ne ne]
          exact hD
        have hpr3 : Paired (fun a kv => (upd H5 b (.dK kb)) a = some (.tup [kV kv.1, kv.2])) as2 kvs := paired_mono (fun a kv h => by
          have ne : a ≠ b := fun z => by
            rw [z, p.1 _ _ upd_same] at h
            cases h
          rw [upd_ne ne]
          exact h) hpr2
        refine ⟨p.1 _ _ upd_same, D, as2, kvs, rfl, SqL.of hD2, paired_kv hpr3, fun h5 nh5 => ?_⟩
        have ndk : (kvs.map (·.1)).Nodup := by
          have e : kvs.map (·.1) = (sm.map (·.1)).map Sum.inr := by
            show (sm.map _).map _ = _
            rw [List.map_map, List.map_map]
            rfl
          rw [e]
          exact List.pairwise_map.mpr (nds.imp fun h z => h (Sum.inr.inj z))
        rw [mergeK_nodup (by rw [List.nil_append]; exact ndk), List.nil_append]
        have hkv : KvP (fun v ts => v = V.int (worthF ts (goE m (rows.take i)) (pwF r.2))) kvs sm := by
          exact kvp_map (fun ts => V.int (worthF ts (goE m (rows.take i)) (pwF r.2))) sm
        refine ⟨h5, _, _, _, _, rfl, (s4.trans s5).trans (same_new nh5), kvs, upd_same, ?_, by rw [lkv, lz]; omega⟩
        rw [goE_succ hrow]
        exact ld_step ok hsm smn hkv
    · rintro σ H4 ⟨hd, y3, y4, y5, y6, rfl, s4, kv, hhd, ld, hvz⟩
      rw [hrs.len, List.take_length] at ld
      refine ⟨_, rfl, td, _, rfl, v3 ▸ DGet.k (k := Sum.inr "last") (s4 _ _ h1), _, rfl, ls, hd, 0, m.last, kv, goE m rows, m.names, rfl, hls.same s4, hhd, ld, ok.la, by decide, by decide, fun H5 s5 => ?_⟩
      have e : worthF m.last (goE m rows) (pwF 0) = toldE m (goE m rows) := worth_pw fun t ht => by rw [ok.l0 t ht]; rfl
      rw [e]
      exact q H5 (s4.trans s5)
end
end Kn
-- part SLMake
set_option maxHeartbeats 8000000
/-! _law_made_loop. -/
namespace Kn
open PySem PySem.Spec PyProof.Rows L2 Err
abbrev sLMade : Stmt := topS 34
theorem scLMl : FnScope ["_law_told_here"] ["_law_told_here"] (defScope sLMade) := ⟨rfl, rfl, rfl, by decide +kernel, rfl, by decide +kernel, by decide +kernel⟩
def spLMl (C : Addr) : Sp := fun vs H Q _ => ∃ (td : Addr) (m : Lm), vs = [.ref td] ∧ ToldAt H td m ∧ LoopOk m ∧ ∀ p H', Same H H' → H p = none → LoopAt C (noD H H') p m → Q (.ref p) H'
theorem made_same {H H' : Hp} {x dx : Addr} {o1 o2 : HO} (nx : H x = none) (nd : H dx = none) (b : Bp x (upd (upd H dx o1) x o2) H') : Same H H' := fun c o e => by
  have cx : c ≠ x := fun z => by rw [z, nx] at e; cases e
  have cd : c ≠ dx := fun z => by rw [z, nd] at e; cases e
  exact b c o (by rw [upd_ne cx, upd_ne cd]; exact e) cx
theorem same_made {H : Hp} {x dx : Addr} {o1 o2 : HO} (nx : H x = none) (nd : H dx = none) : Same H (upd (upd H dx o1) x o2) := fun c o e => by
  have cx : c ≠ x := fun z => by rw [z, nx] at e; cases e
  have cd : c ≠ dx := fun z => by rw [z, nd] at e; cases e
  rw [upd_ne cx, upd_ne cd]
  exact e
section
variable {P : Program} {w : World} {K : PySem.W.Frag} {mg : Str → Option Value} {base : Heap}
theorem ok_lml {f C CB fi : Addr} {fd fdi : FuncData} (F : Fun K "_law_made_loop" "_law_made_loop" sLMade f fd) (M : Mk K C fi) (GI : FnOk P w K mg base (L2.CX P w) 7 fi fdi ["self", "start", "steps", "last"] (spOr (spInitV C) (spInitE CB))) (bI : Binds K fdi ["self", "start", "steps", "last"] []) (gC : mg "Loop" = some (.ref C)) :
    FnOk P w K mg base CX0 9 f fd ["_law_told_here"] (spLMl C) := by
  have S := scLMl
  refine F.ok S (fun vs H Q E h => ?_) (fun cdv A outer s H vs Q E hr h => ?_)
  · obtain ⟨td, m, rfl, _⟩ := h
    rfl
  · obtain ⟨td, m, rfl, htd, ok, q⟩ := h
    have hu := hu_of hr
    refine ⟨_, pss_one (ps_ret (pe_make M GI hr (by rfl) gC bI .nil passL (pa_cons (pe_dget hu (pv 0) pe_str (fun _ _ => rfl)) (pa_cons (pe_dget hu (pv 0) pe_str (fun _ _ => rfl)) (pa_cons (pe_dget hu (pv 0) pe_str (fun _ _ => rfl)) pa_nil))))), ?_⟩
    obtain ⟨kt, sd, st, ls, h1, v1, v2, v3, hsd, hst, hls⟩ := id htd.ex
    refine ⟨_, rfl, td, _, rfl, v1 ▸ DGet.k (k := Sum.inr "start") h1, _, rfl, td, _, rfl, v2 ▸ DGet.k (k := Sum.inr "steps") h1, _, rfl, td, _, rfl, v3 ▸ DGet.k (k := Sum.inr "last") h1, fun x dx nx nd ne => ?_⟩
    have s0 : Same H (upd (upd H dx (.own x)) x (.ins C dx [])) := same_made nx nd
    exact .inl ⟨x, dx, sd, st, ls, m, rfl, upd_same, hsd.same s0, hst.same s0, hls.same s0, ok, fun H' b hp => ⟨rfl, q x H' (made_same nx nd b) nx (hp.same (noD_base fun b kvs e => s0 b _ e))⟩⟩
end
end Kn
-- part SLRows
set_option maxHeartbeats 8000000
namespace Kn
open PySem PySem.Spec PyProof.Rows L2 Err
abbrev sLRows : Stmt := topS 35
abbrev NLr : List Str := ["_law_draw", "_law_model", "_law_most", "_law_found", "_law_turn"]
theorem scLr : FnScope NLr ["_law_draw", "_law_model", "_law_most"] (defScope sLRows) := ⟨rfl, rfl, rfl, by decide +kernel, rfl, by decide +kernel, by decide +kernel⟩
/-- rows, each a new tuple -/
inductive RowL (H H' : Hp) (ts : List Str) : List V → List (Str × Int) → Prop
  | nil : RowL H H' ts [] []
  | snoc {rs : List V} {ws : List (Str × Int)} {a : Addr} {t : Str} {k : Int} (h : RowL H H' ts rs ws) (n : H a = none) (e : H' a = some (.tup [.str t, .int k])) (m : t ∈ ts) (kb : -1000 ≤ k ∧ k ≤ 1000) : RowL H H' ts (rs ++ [.ref a]) (ws ++ [(t, k)])
theorem RowL.mono {H H1 H2 : Hp} {ts : List Str} {rs : List V} {ws : List (Str × Int)} (h : RowL H H1 ts rs ws) (k : ∀ a xs, H a = none → H1 a = some (.tup xs) → H2 a = some (.tup xs)) : RowL H H2 ts rs ws := by
  induction h with
  | nil => exact .nil
  | snoc h n e m kb ih => exact .snoc ih n (k _ _ n e) m kb
theorem RowL.len {H H1 : Hp} {ts : List Str} {rs : List V} {ws : List (Str × Int)} (h : RowL H H1 ts rs ws) : rs.length = ws.length := by
  induction h with
  | nil => rfl
  | snoc h n e m kb ih => rw [List.length_append, List.length_append, ih]; rfl
def spLRows : Sp := fun vs H Q _ => ∃ d l c m s ts, ∃ n : Nat, vs = [.ref d, .ref m, .int n] ∧ Drw H d l c ∧ H m = some (.dK [(.inr "sorts", .ref s)]) ∧ H s = some (.lst (ts.map V.str)) ∧ s ≠ l ∧ 0 < ts.length ∧ ts.length ≤ 1000 ∧ n ≤ 100 ∧
  ∀ p rs ws H', Drw H' d l c → But d l H H' → H p = none → H' p = some (.lst rs) → RowL H H' ts rs ws → rs.length ≤ n → Q (.ref p) H'
section
variable {P : Program} {w : World} {K : PySem.W.Frag} {mg : Str → Option Value} {base : Heap}
theorem ok_lrows {f fT fP : Addr} {fd fdT fdP : FuncData} (F : Fun K "_law_rows" "_law_rows" sLRows f fd) (GT : FnOk P w K mg base CX0 2 fT fdT ["_law_draw", "_law_amount"] spTake) (kT : PySem.W.keepIn K (.ref fT) = true)
    (bT : Binds K fdT ["_law_draw", "_law_amount"] []) (gT : mg "_law_take" = some (.ref fT)) (GP : FnOk P w K mg base CX0 3 fP fdP ["_law_draw", "_law_some"] spPick) (kP : PySem.W.keepIn K (.ref fP) = true) (bP : Binds K fdP ["_law_draw", "_law_some"] []) (gP : mg "_law_pick" = some (.ref fP)) (mr : mg "range" = none) :
    FnOk P w K mg base CX0 4 f fd ["_law_draw", "_law_model", "_law_most"] spLRows := by
  have S := scLr
  refine F.ok S (fun vs H Q E h => ?_) (fun cdv A outer s H vs Q E hr h => ?_)
  · obtain ⟨d, l, c, m, s, ts, n, rfl, _⟩ := h
    rfl
  · obtain ⟨d, l, c, m, s, ts, n, rfl, D, hm, hs, sl, t0, t1, hn, q⟩ := h
    have hu := hu_of hr
    have hr2 := hr.mono (show 2 ≤ 3 by decide)
    refine ⟨_, pss_cons (ps_set (i := 3) S.nd rfl (.inl rfl) (pe_lst pa_nil))
      (pss_cons (ps_for PassesOwn.never rfl (pi_range1 (by rfl) mr (pa_cons (pe_call GT hr2 (by rfl) gT kT bT .nil pass0 (pa_cons (pv 0) (pa_cons (pe_op op_add (pv 2) pe_int) pa_nil))) pa_nil)) (pg_name (i := 4) S.nd rfl (.inl rfl))
        (pss_one (ps_expr (pe_bm PySem.F.plainAttrs_list PySem.F.slot_list_append PySem.F.type_list_append mt_append (pv 3) (pa_cons (pe_tup (pa_cons (pe_call GP hr (by rfl) gP kP bP .nil pass0 (pa_cons (pv 0) (pa_cons (pe_dget hu (pv 1) pe_str (fun _ _ => rfl)) pa_nil)))
          (pa_cons (pe_call GP hr (by rfl) gP kP bP .nil pass0 (pa_cons (pv 0) (pa_cons (pe_lst (pa_cons pe_int (pa_cons pe_int (pa_cons pe_int (pa_cons pe_int (pa_cons pe_int (pa_cons (pe_un un_neg pe_int) (pa_cons (pe_un un_neg pe_int) (pa_cons pe_int pa_nil))))))))) pa_nil))) pa_nil))) pa_nil)))))
      (pss_one (ps_ret (pv 3)))), ?_⟩
    have hd0 : ∃ o, H d = some o := by obtain ⟨⟨r, t, e⟩, _, _, _⟩ := D; exact ⟨_, e⟩
    have hl0 : ∃ o, H l = some o := by obtain ⟨_, ⟨ns, e⟩, _, _⟩ := D; exact ⟨_, e⟩
    have hmd : m ≠ d := fun z => by
      obtain ⟨⟨r, t, e⟩, _, _, _⟩ := D
      rw [z, e] at hm
      have z2 := Option.some.inj hm
      cases z2
    have hml : m ≠ l := fun z => by
      obtain ⟨_, ⟨ns, e⟩, _, _⟩ := D
      rw [z, e] at hm
      cases hm
    have hsd : s ≠ d := fun z => by
      obtain ⟨⟨r, t, e⟩, _, _, _⟩ := D
      rw [z, e] at hs
      cases hs
    refine ⟨Nat.zero_le _, fun po npo => ?_⟩
    have pd : po ≠ d := fun e => by obtain ⟨o, z⟩ := hd0; rw [← e, npo] at z; cases z
    have pl : po ≠ l := fun e => by obtain ⟨o, z⟩ := hl0; rw [← e, npo] at z; cases z
    refine ⟨_, rfl, _, rfl, _, _, rfl, rfl, d, l, c, (n : Int) + 1, rfl, D.new npo, by omega, by omega, fun k H1 k0 k1 D1 B1 => ?_⟩
    have B1 : But d l H H1 := (But.new npo).trans B1
    have hp1 : H1 po = some (.lst []) := by
      have z := (show But d l (upd H po (.lst [])) H1 from by assumption) po _ upd_same pd pl
      exact z
    refine ⟨k, rfl, by omega, by omega, for_range (fun i σ H2 => ∃ y rs ws, σ = [some (.ref d), some (.ref m), some (.int n), some (.ref po), y] ∧ Drw H2 d l c ∧ But d l H H2 ∧ H2 po = some (.lst rs) ∧ RowL H H2 ts rs ws ∧ rs.length = i)
      ⟨_, [], [], rfl, D1, B1, hp1, .nil, rfl⟩ ?_ ?_⟩
    · rintro i σ H2 hi ⟨y, rs, ws, rfl, D2, B2, hp2, rl, hlen⟩
      have hm2 := B2 _ _ hm hmd hml
      have hs2 := B2 _ _ hs hsd sl
      refine ⟨_, rfl, .inl ⟨rfl, _, SqL.of hp2⟩, _, rfl, _, rfl, m, _, rfl, DGet.k (k := .inr "sorts") hm2, ?_⟩
      refine ⟨d, l, c, s, ts.map V.str, rfl, D2, hs2, sl, by rw [List.length_map]; exact t0, by rw [List.length_map]; exact t1, fun j x H3 hx D3 B3 => ?_⟩
      obtain ⟨t, ht, rfl⟩ : ∃ t, t ∈ ts ∧ x = V.str t := by
        rw [List.getElem?_map] at hx
        obtain ⟨t, e1, e2⟩ := Option.map_eq_some_iff.mp hx
        exact ⟨t, List.mem_of_getElem? e1, e2.symm⟩
      have hp3 := B3 _ _ hp2 pd pl
      have keepT : ∀ {Ha Hb : Hp}, But d l Ha Hb → ∀ a xs, H a = none → Ha a = some (.tup xs) → Hb a = some (.tup xs) := fun {Ha Hb} b a xs n e => by
        refine b a _ e (fun z => ?_) fun z => ?_
        · obtain ⟨o, w⟩ := hd0
          rw [← z, n] at w
          cases w
        · obtain ⟨o, w⟩ := hl0
          rw [← z, n] at w
          cases w
      have rl3 := rl.mono (keepT B3)
      refine ⟨_, rfl, _, rfl, _, rfl, by show 8 ≤ sizeLine; decide, fun e ne => ?_⟩
      have el : e ≠ l := fun z => by
        obtain ⟨_, ⟨ns, w⟩, _, _⟩ := D3
        rw [← z, ne] at w
        cases w
      refine ⟨d, l, c, e, [.int 0, .int 1, .int 1, .int 2, .int 3, .int (-1), .int (-2), .int 10], rfl, D3.new ne, upd_same, el, by decide, by decide, fun j2 x2 H4 hx2 D4 B4 => ?_⟩
      obtain ⟨k2, rfl, kb⟩ : ∃ k2 : Int, x2 = V.int k2 ∧ -1000 ≤ k2 ∧ k2 ≤ 1000 := by
        have hm := List.mem_of_getElem? hx2
        simp only [List.mem_cons, List.not_mem_nil, or_false] at hm
        rcases hm with z | z | z | z | z | z | z | z <;> exact ⟨_, z, by decide, by decide⟩
      have B34 : But d l H3 H4 := (But.new ne).trans B4
      have hp4 := B34 _ _ hp3 pd pl
      have rl4 := rl3.mono (keepT B34)
      refine ⟨by show 2 ≤ sizeLine; decide, fun u nu => ?_⟩
      have B5 : But d l H (upd H4 u (.tup [.str t, .int k2])) := ((B2.trans B3).trans B34).trans (But.new nu)
      have hp5 : (upd H4 u (.tup [.str t, .int k2])) po = some (.lst rs) := by rw [upd_ne (ne_of_none hp4 nu)]; exact hp4
      have hu5 : (upd H4 u (.tup [.str t, .int k2])) u = some (.tup [.str t, .int k2]) := upd_same
      have D5 := D4.new (o := .tup [.str t, .int k2]) nu
      have nH : H u = none := by
        cases z : H u with
        | none => rfl
        | some o =>
          by_cases e1 : u = d
          · obtain ⟨⟨_, _, w⟩, _, _, _⟩ := D4
            rw [← e1, nu] at w
            cases w
          · by_cases e2 : u = l
            · obtain ⟨_, ⟨_, w⟩, _, _⟩ := D4
              rw [← e2, nu] at w
              cases w
            · have w := ((B2.trans B3).trans B34) u o z e1 e2
              rw [nu] at w
              cases w
      have rl5 := rl4.mono (H2 := upd H4 u (.tup [.str t, .int k2])) fun a xs n e => by rw [upd_ne (ne_of_none e nu)]; exact e
      generalize upd H4 u (.tup [.str t, .int k2]) = H5 at B5 hp5 hu5 D5 rl5 ⊢
      refine ⟨po, rs, .ref u, rfl, rfl, hp5, small1000 (by omega), _, rs ++ [.ref u], ws ++ [(t, k2)], rfl, D5.own D npo, B5.own npo, upd_same, ?_, by rw [List.length_append, hlen]; rfl⟩
      refine (RowL.snoc rl5 nH hu5 ht kb).mono fun a xs n e => ?_
      have ne2 : a ≠ po := fun z => by rw [z, hp5] at e; cases e
      rw [upd_ne ne2]
      exact e
    · rintro σ H2 ⟨y, rs, ws, rfl, D2, B2, hp2, rl, hlen⟩
      exact ⟨_, rfl, q po rs ws H2 D2 B2 npo hp2 rl (by omega)⟩
end
end Kn
-- part SCut
set_option maxHeartbeats 4000000
/-! The heap without the draws and the tables (as in k02); defs whose code object is known. -/
namespace Kn
open PySem PySem.Spec PyProof.Rows L2 Err LamX
theorem valV_out {κ : Type} [DecidableEq κ] {kvs : List (κ × V)} {k : κ} (h : k ∉ kvs.map (·.1)) : valV kvs k = none := by
  unfold valV
  rw [Option.map_eq_none_iff, List.find?_eq_none]
  intro p hp e
  exact h (List.mem_map.mpr ⟨p, hp, of_decide_eq_true e⟩)
def noTbl : Option HO → Option HO
  | some (.tbl _) => none
  | o => o
theorem noTbl_some {u : Option HO} {o : HO} (e : noTbl u = some o) : u = some o ∧ ∀ ps, o ≠ .tbl ps := by
  cases u with
  | none => cases e
  | some v =>
    cases v with
    | tbl ps => cases e
    | _ =>
      refine ⟨e, fun ps z => ?_⟩
      rw [z] at e
      cases e
theorem noTbl_of {o : HO} (n : ∀ ps, o ≠ .tbl ps) : noTbl (some o) = some o := by
  cases o with
  | tbl ps => exact absurd rfl (n ps)
  | _ => rfl
/-- the heap without the draws and the tables of code objects -/
def cut (d l : Addr) (H : Hp) : Hp := fun b => if b = d ∨ b = l then none else noTbl (H b)
theorem cut_ne4 {d l b : Addr} {H : Hp} {o : HO} (e : cut d l H b = some o) : b ≠ d ∧ b ≠ l ∧ H b = some o ∧ ∀ ps, o ≠ .tbl ps := by
  unfold cut at e
  by_cases z : b = d ∨ b = l
  · rw [if_pos z] at e
    cases e
  · rw [if_neg z] at e
    exact ⟨fun q => z (.inl q), fun q => z (.inr q), noTbl_some e⟩
theorem cut_ne {d l b : Addr} {H : Hp} {o : HO} (e : cut d l H b = some o) : b ≠ d ∧ b ≠ l ∧ H b = some o := ⟨(cut_ne4 e).1, (cut_ne4 e).2.1, (cut_ne4 e).2.2.1⟩
theorem cut_le {d l : Addr} {H : Hp} : Same (cut d l H) H := fun b o e => (cut_ne e).2.2
theorem cut_at {d l b : Addr} {H : Hp} {o : HO} (e : H b = some o) (n1 : b ≠ d) (n2 : b ≠ l) (n3 : ∀ ps, o ≠ .tbl ps := by intro _ z; cases z) : cut d l H b = some o := by
  unfold cut
  rw [if_neg (by rintro (z | z); exact n1 z; exact n2 z), e]
  exact noTbl_of n3
/-- all but the draws and the tables -/
def ButN (d l : Addr) (H H' : Hp) : Prop := ∀ b o, H b = some o → b ≠ d → b ≠ l → (∀ ps, o ≠ .tbl ps) → H' b = some o
theorem ButN.cut {d l : Addr} {H H' : Hp} (B : ButN d l H H') : Same (cut d l H) (cut d l H') := fun b o e => by
  obtain ⟨n1, n2, e, n3⟩ := cut_ne4 e
  exact cut_at (B b o e n1 n2 n3) n1 n2 n3
theorem But.n {d l : Addr} {H H' : Hp} (B : But d l H H') : ButN d l H H' := fun b o e h1 h2 _ => B b o e h1 h2
theorem ButN.ext {d l : Addr} {H H' : Hp} (B : LamX.ExtN H H') : ButN d l H H' := fun b o e _ _ n => B b o e n
theorem ButN.refl {d l : Addr} {H : Hp} : ButN d l H H := fun _ _ e _ _ _ => e
theorem ButN.trans {d l : Addr} {H H1 H2 : Hp} (a : ButN d l H H1) (b : ButN d l H1 H2) : ButN d l H H2 := fun x o e h1 h2 n => b x o (a x o e h1 h2 n) h1 h2 n
theorem But.cut {d l : Addr} {H H' : Hp} (B : But d l H H') : Same (Kn.cut d l H) (Kn.cut d l H') := ButN.cut B.n
theorem But.of {d l : Addr} {H H' : Hp} (s : Same H H') : But d l H H' := fun b o e _ _ => s b o e
theorem But.back {d l c : Addr} {H H2 : Hp} {a : Addr} (B : But d l H H2) (D : Drw H2 d l c) (z : H2 a = none) : H a = none := by
  cases w : H a with
  | none => rfl
  | some o =>
    by_cases e1 : a = d
    · obtain ⟨⟨_, _, v⟩, _, _, _⟩ := D
      rw [← e1, z] at v
      cases v
    · by_cases e2 : a = l
      · obtain ⟨_, ⟨_, v⟩, _, _⟩ := D
        rw [← e2, z] at v
        cases v
      · rw [B a o w e1 e2] at z
        cases z
theorem Drw.off {d l c : Addr} {H : Hp} (D : Drw H d l c) {a : Addr} (z : H a = none) : a ≠ d ∧ a ≠ l := by
  refine ⟨fun e => ?_, fun e => ?_⟩
  · obtain ⟨⟨_, _, w⟩, _, _, _⟩ := D
    rw [← e, z] at w
    cases w
  · obtain ⟨_, ⟨_, w⟩, _, _⟩ := D
    rw [← e, z] at w
    cases w
/-- the draws stand in a heap that holds all of this one -/
theorem Drw.same {d l c : Addr} {H H' : Hp} (D : Drw H d l c) (s : Same H H') : Drw H' d l c := by
  obtain ⟨⟨r, t, h⟩, ⟨ns, hl⟩, ⟨ms, hc⟩, n⟩ := D
  exact ⟨⟨r, t, s _ _ h⟩, ⟨ns, s _ _ hl⟩, ⟨ms, s _ _ hc⟩, n⟩
/-- some value -/
def Isx (H : Hp) (v : V) : Prop := ∃ w, Is H v w
theorem Isx.same {H H' : Hp} {v : V} (h : Isx H v) (s : Same H H') : Isx H' v := by
  obtain ⟨w, h⟩ := h
  exact ⟨w, h.same s⟩
theorem isx_int {H : Hp} {i : Int} : Isx H (.int i) := ⟨_, .int i⟩
theorem isx_non {H : Hp} : Isx H .non := ⟨_, .non⟩
theorem isx_bl {H : Hp} {b : Bool} : Isx H (.bl b) := ⟨_, .bl b⟩
theorem isx_str {H : Hp} {x : Str} (h : x.cps.size ≤ 900) (ok : PyData.strOk x = true) : Isx H (.str x) := ⟨_, .str x h ok⟩
theorem isx_all {H : Hp} : ∀ {xs : List V}, (∀ x ∈ xs, Isx H x) → ∃ ws, IsAll H xs ws
  | [], _ => ⟨_, .nil⟩
  | x :: xs, h => by
    obtain ⟨w, hw⟩ := h x (List.mem_cons_self ..)
    obtain ⟨ws, hws⟩ := isx_all (xs := xs) fun y hy => h y (List.mem_cons_of_mem _ hy)
    exact ⟨_, .cons hw hws⟩
theorem isx_lst {H : Hp} {a : Addr} {xs : List V} (e : H a = some (.lst xs)) (z : xs.length ≤ 900) (h : ∀ x ∈ xs, Isx H x) : Isx H (.ref a) := by
  obtain ⟨ws, hw⟩ := isx_all h
  exact ⟨_, .lst z e hw⟩
theorem isx_tup {H : Hp} {a : Addr} {xs : List V} (e : Rd H a (.tup xs)) (z : xs.length ≤ 900) (h : ∀ x ∈ xs, Isx H x) : Isx H (.ref a) := by
  obtain ⟨ws, hw⟩ := isx_all h
  exact ⟨_, .tup z e hw⟩
theorem isx_kv {H : Hp} : ∀ {kvs : List (Key × V)}, (∀ p ∈ kvs, kSm (some p.1) ∧ Isx H p.2) → ∃ kws, IsKV H (kvs.map fun p => (some p.1, p.2)) kws
  | [], _ => ⟨_, .nil⟩
  | p :: kvs, h => by
    obtain ⟨h1, w, hw⟩ := h p (List.mem_cons_self ..)
    obtain ⟨ws, hws⟩ := isx_kv (kvs := kvs) fun y hy => h y (List.mem_cons_of_mem _ hy)
    exact ⟨_, .cons h1 hw hws⟩
theorem isx_dct {H : Hp} {a : Addr} {kvs : List (Key × V)} (e : H a = some (.dK kvs)) (z : kvs.length ≤ 900) (h : ∀ p ∈ kvs, kSm (some p.1) ∧ Isx H p.2) : Isx H (.ref a) := by
  obtain ⟨kws, hw⟩ := isx_kv h
  exact ⟨_, .dct (by rw [List.length_map]; exact z) ⟨kvs, .inl e, rfl⟩ hw⟩
theorem isx_ints {H : Hp} {a : Addr} {ns : List Int} (e : H a = some (.lst (ns.map V.int))) (z : ns.length ≤ 900) : Isx H (.ref a) :=
  isx_lst e (by rw [List.length_map]; exact z) fun x hx => by
    obtain ⟨i, _, rfl⟩ := List.mem_map.mp hx
    exact isx_int
theorem Isx.at {H : Hp} {a : Addr} (h : Isx H (.ref a)) : ∃ o, H a = some o := by
  obtain ⟨w, h⟩ := h
  cases h with
  | lst _ e _ => exact ⟨_, e⟩
  | tup _ e _ => rcases e with e | ⟨o, e⟩ <;> exact ⟨_, e⟩
  | dct _ e _ =>
    obtain ⟨ks, e, _⟩ := e
    rcases e with e | ⟨o, e⟩ <;> exact ⟨_, e⟩
/-! ### dicts -/
theorem mem_putK {κ : Type} [DecidableEq κ] {kvs : List (κ × V)} {k : κ} {v : V} {p : κ × V} (h : p ∈ putK kvs k v) : p = (k, v) ∨ p ∈ kvs := by
  unfold putK at h
  split at h
  · obtain ⟨q, hq, e⟩ := List.mem_map.mp h
    split at e
    · rename_i z
      left
      rw [← e]
      simp_all
    · exact .inr (e ▸ hq)
  · rcases List.mem_append.mp h with z | z
    · exact .inr z
    · exact .inl (List.mem_singleton.mp z)
theorem keys_putK {κ : Type} [DecidableEq κ] {kvs : List (κ × V)} {k : κ} {v : V} : (putK kvs k v).map (·.1) = kvs.map (·.1) ∨ (k ∉ kvs.map (·.1) ∧ (putK kvs k v).map (·.1) = kvs.map (·.1) ++ [k]) := by
  cases e : valV kvs k with
  | none =>
    refine .inr ⟨fun z => ?_, by rw [putK_new v e, List.map_append]; rfl⟩
    obtain ⟨p, hp, hk⟩ := List.mem_map.mp z
    unfold valV at e
    rw [Option.map_eq_none_iff, List.find?_eq_none] at e
    exact e p hp (decide_eq_true hk)
  | some x =>
    left
    unfold putK
    split
    · rw [List.map_map]
      refine List.map_congr_left fun q _ => ?_
      show (if _ then (q.1, v) else q).1 = q.1
      split <;> rfl
    · rename_i h
      unfold valV at e
      obtain ⟨p, hp, _⟩ := Option.map_eq_some_iff.mp e
      have h1 := List.mem_of_find?_eq_some hp
      have h2 := List.find?_some hp
      exact absurd (List.any_eq_true.mpr ⟨p, h1, h2⟩) h
theorem nodup_putK {κ : Type} [DecidableEq κ] {kvs : List (κ × V)} {k : κ} {v : V} (h : (kvs.map (·.1)).Nodup) : ((putK kvs k v).map (·.1)).Nodup := by
  rcases keys_putK (kvs := kvs) (k := k) (v := v) with e | ⟨n, e⟩
  · rw [e]; exact h
  · rw [e]
    refine List.nodup_append.mpr ⟨h, List.nodup_cons.mpr ⟨by simp, List.nodup_nil⟩, fun a ha b hb => ?_⟩
    rw [List.mem_singleton.mp hb]
    intro z
    exact n (z ▸ ha)
section
variable {X : Cx} {f : Value} {r1 r2 : List V → Hp → VK → Prop}
theorem cr_two (h1 : CallR X f r1) (h2 : CallR X f r2) : CallR X f (fun xs H Q => r1 xs H Q ∨ r2 xs H Q) := by
  rintro pins s σ H xs us Q I r q
  rcases q with q | q
  · exact h1 pins s σ H xs us Q I r q
  · exact h2 pins s σ H xs us Q I r q
end
/-- a def whose code object is known -/
structure FunC (K : PySem.W.Frag) (x qual : Str) (st : Stmt) (f : Addr) (fd : FuncData) (c : Addr) : Prop where
  ex : ∃ (oc : Value) (od : Option Addr) (kV doc pm : Value) (an : Option Addr) (ct : Value) (osl : Array (Option Value)),
    fd = PySem.W.fnOf x qual (defArgs st) (defBody st) (defScope st) .none kV doc pm an (.ref c) ct ∧ K.lookup f = some ⟨oc, od, .func fd, osl⟩ ∧ PySem.W.codeIn K (.ref c) qual = true
  kp : PySem.W.keepIn K (.ref f) = true
theorem FunC.toFun {K : PySem.W.Frag} {x qual : Str} {st : Stmt} {f c : Addr} {fd : FuncData} (F : FunC K x qual st f fd c) : Fun K x qual st f fd := by
  obtain ⟨oc, od, kV, doc, pm, an, ct, osl, h1, h2, h3⟩ := F.ex
  exact ⟨⟨oc, od, kV, doc, pm, an, .ref c, ct, osl, h1, h2, h3⟩, F.kp⟩
theorem FunC.ok {P : Program} {w : World} {K : PySem.W.Frag} {mg : Str → Option Value} {base : Heap} {x qual : Str} {st : Stmt} {f c : Addr} {fd : FuncData} {N ps : List Str} {k : Nat} {sp : Sp} (F : FunC K x qual st f fd c) (S : FnScope N ps (defScope st)) (len : ∀ vs H Q E, sp vs H Q E → vs.length = ps.length)
    (hbody : ∀ (A : Around) (outer : List Env) (s : Shared) (H : Hp) (vs : List V) (Q : VK) (E : XK), Room k (A.deeper (envOfC qual (defScope st) s.heap.objs.size f (.ref c))) → sp vs H Q E →
      ∃ t, PSs (cxOf CX0 P w K mg base N qual (defScope st) f (.ref c) A outer s H E).nox (defBody st) t ∧ t { nx := fun _ H' => Q .non H', rt := Q } (start N vs) H) : FnOk P w K mg base CX0 (k + 1) f fd ps sp := by
  obtain ⟨oc, od, kV, doc, pm, an, ct, osl, rfl, lk, hcd⟩ := F.ex
  refine fn_of lk hcd S len fun A outer s H vs Q E hr hsp => ?_
  obtain ⟨t, h, q⟩ := hbody A outer s H vs Q E hr hsp
  exact ⟨t, h.nox, q⟩
/-! ### tables -/
theorem tabs_but {T : List (Addr × Str)} {d l c : Addr} {H H' : Hp} (t : Tabs T H) (D : Drw H d l c) (B : But d l H H') : Tabs T H' := fun p hp => by
  obtain ⟨ps, h1, h2, h3⟩ := t p hp
  obtain ⟨⟨r, tt, hd⟩, ⟨ns, hl⟩, _, _⟩ := D
  have keep : ∀ {b : Addr} {o : HO}, H b = some o → (∀ kvs, o ≠ .dK kvs) → (∀ xs, o ≠ .lst xs) → H' b = some o := fun {b o} e n1 n2 => B b o e (fun z => by rw [z, hd] at e; exact n1 _ (Option.some.inj e).symm) (fun z => by rw [z, hl] at e; exact n2 _ (Option.some.inj e).symm)
  refine ⟨ps, keep h1 (fun _ z => by cases z) (fun _ z => by cases z), h2, fun pos cv hc => ?_⟩
  obtain ⟨c0, e1, e2⟩ := h3 pos cv hc
  exact ⟨c0, e1, keep e2 (fun _ z => by unfold CodeO at z; cases z) (fun _ z => by unfold CodeO at z; cases z)⟩
theorem Drw.extN {d l c : Addr} {H H' : Hp} (D : Drw H d l c) (B : ExtN H H') : Drw H' d l c := by
  obtain ⟨⟨r, t, h⟩, ⟨ns, hl⟩, ⟨ms, hc⟩, n⟩ := D
  exact ⟨⟨r, t, B _ _ h (fun _ z => by cases z)⟩, ⟨ns, B _ _ hl (fun _ z => by cases z)⟩, ⟨ms, B _ _ hc (fun _ z => by cases z)⟩, n⟩
theorem tabs_keep {T : List (Addr × Str)} {H H' : Hp} (t : Tabs T H) (k : ∀ b o, H b = some o → (∀ xs, o ≠ .lst xs) → (∀ C dx fs, o ≠ .ins C dx fs) → H' b = some o) : Tabs T H' := fun p hp => by
  obtain ⟨ps, h1, h2, h3⟩ := t p hp
  refine ⟨ps, k _ _ h1 (fun _ z => by cases z) (fun _ _ _ z => by cases z), h2, fun pos cv hc => ?_⟩
  obtain ⟨c0, e1, e2⟩ := h3 pos cv hc
  exact ⟨c0, e1, k _ _ e2 (fun _ z => by unfold CodeO at z; cases z) (fun _ _ _ z => by unfold CodeO at z; cases z)⟩
def hole (r : Addr) (H : Hp) : Hp := fun b => if b = r then none else H b
theorem hole_at {r b : Addr} {H : Hp} {o : HO} (e : H b = some o) (n : b ≠ r) : hole r H b = some o := by
  unfold hole
  rw [if_neg n]
  exact e
theorem hole_ne {r b : Addr} {H : Hp} {o : HO} (e : hole r H b = some o) : b ≠ r ∧ H b = some o := by
  unfold hole at e
  by_cases z : b = r
  · rw [if_pos z] at e
    cases e
  · rw [if_neg z] at e
    exact ⟨z, e⟩
theorem hole_same {r : Addr} {H H' : Hp} (s : Same H H') : Same (hole r H) (hole r H') := fun b o e => by
  obtain ⟨n, e⟩ := hole_ne e
  exact hole_at (s _ _ e) n
/-- what a value says stands without the tables -/
theorem ext_cut {H H' : Hp} (e : ExtN H H') : Same (fun b => noTbl (H b)) H' := fun b o h => by
  obtain ⟨h1, h2⟩ := noTbl_some h
  exact e b o h1 h2
theorem rd_nt {H : Hp} {a : Addr} {u : HO} (h : Rd H a u) (n : ∀ ps, u ≠ .tbl ps) : Rd (fun b => noTbl (H b)) a u := by
  rcases h with e | ⟨o, e⟩
  · left
    show noTbl (H a) = _
    rw [e]
    exact noTbl_of n
  · right
    refine ⟨o, ?_⟩
    show noTbl (H a) = _
    rw [e]
    rfl
mutual
theorem is_nt {H : Hp} {v : V} {w : W} : Is H v w → Is (fun b => noTbl (H b)) v w
  | .non => .non
  | .bl b => .bl b
  | .int i => .int i
  | .str x h ok => .str x h ok
  | .lst h e t => .lst h (by show noTbl _ = _; rw [e]; rfl) (isA_nt t)
  | .tup h e t => .tup h (rd_nt e (fun _ z => by cases z)) (isA_nt t)
  | .dct h ⟨ks, e, q⟩ t => .dct h ⟨ks, (rd_nt e (fun _ z => by cases z)), q⟩ (isK_nt t)
theorem isA_nt {H : Hp} {v : List V} {w : List W} : IsAll H v w → IsAll (fun b => noTbl (H b)) v w
  | .nil => .nil
  | .cons h t => .cons (is_nt h) (isA_nt t)
theorem isK_nt {H : Hp} {v : List (Option Key × V)} {w : List (Option Key × W)} : IsKV H v w → IsKV (fun b => noTbl (H b)) v w
  | .nil => .nil
  | .cons hk h t => .cons hk (is_nt h) (isK_nt t)
end
theorem is_ext {H H' : Hp} {v : V} {w : W} (h : Is H v w) (e : ExtN H H') : Is H' v w := (is_nt h).same (ext_cut e)
/-! ### rows -/
theorem IsAll.app {H : Hp} : ∀ {xs ys : List V} {ws vs : List W}, IsAll H xs ws → IsAll H ys vs → IsAll H (xs ++ ys) (ws ++ vs)
  | _, _, _, _, .nil, h => h
  | _, _, _, _, .cons a t, h => .cons a (t.app h)
theorem IsAll.take {H : Hp} : ∀ {xs : List V} {ws : List W} (i : Nat), IsAll H xs ws → IsAll H (xs.take i) (ws.take i)
  | _, _, 0, _ => .nil
  | _, _, _ + 1, .nil => .nil
  | _, _, i + 1, .cons a t => .cons a (t.take i)
theorem IsAll.drop {H : Hp} : ∀ {xs : List V} {ws : List W} (i : Nat), IsAll H xs ws → IsAll H (xs.drop i) (ws.drop i)
  | _, _, 0, h => h
  | _, _, _ + 1, .nil => .nil
  | _, _, i + 1, .cons _ t => t.drop i
def rowW (p : Str × Int) : W := .tup [.str p.1, .int p.2]
theorem RowL.isAll {H0 H : Hp} {ts : List Str} {rs : List V} {ws : List (Str × Int)} (h : RowL H0 H ts rs ws) (sm : ∀ t ∈ ts, kSm (some (.inr t))) : IsAll H rs (ws.map rowW) := by
  induction h with
  | nil => exact .nil
  | snoc h n e m kb ih =>
    rw [List.map_append]
    refine ih.app (.cons (.tup (by show 2 ≤ 900; decide) (.inl e) (.cons (.str _ (sm _ m).1 (sm _ m).2) (.cons (.int _) .nil))) .nil)
theorem RowT.snoc {H : Hp} {xs : List V} {ts : List (Str × Int)} {a : Addr} {t : Str × Int} (h : RowT H xs ts) (e : Rd H a (.tup [.str t.1, .int t.2])) : RowT H (xs ++ [.ref a]) (ts ++ [t]) := by
  induction h with
  | nil => exact .cons e .nil
  | cons h' _ ih => exact .cons h' ih
theorem RowL.rowT {H0 H : Hp} {ts : List Str} {rs : List V} {ws : List (Str × Int)} (h : RowL H0 H ts rs ws) : RowT H rs ws := by
  induction h with
  | nil => exact .nil
  | snoc h n e m kb ih => exact ih.snoc (.inl e)
theorem RowL.names {H0 H : Hp} {ts : List Str} {rs : List V} {ws : List (Str × Int)} (h : RowL H0 H ts rs ws) : ∀ p ∈ ws, p.1 ∈ ts := by
  induction h with
  | nil => intro p hp; cases hp
  | snoc h n e m kb ih =>
    intro p hp
    rcases List.mem_append.mp hp with z | z
    · exact ih p z
    · rw [List.mem_singleton.mp z]; exact m
theorem RowL.bnd {H0 H : Hp} {ts : List Str} {rs : List V} {ws : List (Str × Int)} (h : RowL H0 H ts rs ws) : ∀ p ∈ ws, -1000 ≤ p.2 ∧ p.2 ≤ 1000 := by
  induction h with
  | nil => intro p hp; cases hp
  | snoc h n e m kb ih =>
    intro p hp
    rcases List.mem_append.mp hp with z | z
    · exact ih p z
    · rw [List.mem_singleton.mp z]; exact kb
theorem RowL.same {H0 H H' : Hp} {ts : List Str} {rs : List V} {ws : List (Str × Int)} (h : RowL H0 H ts rs ws) (s : Same H H') : RowL H0 H' ts rs ws := h.mono fun a xs _ e => s _ _ e
theorem QAt.n {H H' : Hp} {a C : Addr} {fs : List (Str × V)} (h : QAt H a C fs) (s : ∀ b o, H b = some o → (∀ ps, o ≠ .tbl ps) → (∀ xs, o ≠ .lst xs) → (∀ kvs, o ≠ .dK kvs) → H' b = some o) : QAt H' a C fs := by
  obtain ⟨d, e1, e2⟩ := h
  exact ⟨d, s _ _ e1 (fun _ z => by unfold exq at z; cases z) (fun _ z => by unfold exq at z; cases z) (fun _ z => by unfold exq at z; cases z), s _ _ e2 (fun _ z => by cases z) (fun _ z => by cases z) (fun _ z => by cases z)⟩
theorem QAt.ext {H H' : Hp} {a C : Addr} {fs : List (Str × V)} (h : QAt H a C fs) (e : ExtN H H') : QAt H' a C fs := QAt.n h fun b o w n _ _ => e b o w n
theorem QAt.but {d l c : Addr} {H H' : Hp} {a C : Addr} {fs : List (Str × V)} (h : QAt H a C fs) (D : Drw H d l c) (B : But d l H H') : QAt H' a C fs := QAt.n h fun b o w n1 n2 n3 => by
  obtain ⟨⟨r, tt, hd⟩, ⟨ns, hl⟩, _, _⟩ := D
  exact B b o w (fun z => by rw [z, hd] at w; exact n3 _ (Option.some.inj w).symm) (fun z => by rw [z, hl] at w; exact n2 _ (Option.some.inj w).symm)
theorem small_log {k : Int} (h0 : 0 ≤ k) (h1 : k < 900) : k.natAbs.log2 < 1920 := Nat.lt_of_le_of_lt (Nat.log2_le_self _) (by omega)
end Kn
-- part SOrd
set_option maxHeartbeats 4000000
/-! The order of data, and of pairs of a text and a whole number. -/
namespace Kn
open PySem PySem.Spec PyProof.Rows L2 Err PySem.W
theorem dle_trans (a b c : PyData) (h1 : (!dataLt b a) = true) (h2 : (!dataLt c b) = true) : (!dataLt c a) = true := by
  have e1 : dataLt b a = false := by simpa using h1
  have e2 : dataLt c b = false := by simpa using h2
  cases e : dataLt c a with
  | false => rfl
  | true =>
    cases e3 : dataLt a b with
    | true =>
      have z : dataLt c b = true := lex_trans _ _ _ e e3
      rw [e2] at z
      cases z
    | false =>
      have q : keyToks a = keyToks b := lex_total _ _ e3 e1
      have z : dataLt c b = true := by
        unfold dataLt at e ⊢
        rw [← q]
        exact e
      rw [e2] at z
      cases z
theorem dle_total (a b : PyData) : ((!dataLt b a) || (!dataLt a b)) = true := by
  cases e : dataLt b a with
  | false => rfl
  | true =>
    cases e2 : dataLt a b with
    | false => rfl
    | true =>
      have z : dataLt a a = true := lex_trans _ _ _ e2 e
      have z2 : dataLt a a = false := lex_irrefl _
      rw [z] at z2
      cases z2
theorem dsorted {β : Type} (enc : β → PyData) (bs : List β) : (bs.mergeSort (dataLe false enc)).Pairwise fun a b => dataLt (enc b) (enc a) = false := by
  have h := List.pairwise_mergeSort (le := dataLe false enc) (fun a b c h1 h2 => dle_trans (enc a) (enc b) (enc c) h1 h2) (fun a b => dle_total (enc a) (enc b)) bs
  refine h.imp fun {a b} z => ?_
  have z2 : (!dataLt (enc b) (enc a)) = true := z
  simpa using z2
theorem lt2_eq (a b : Str × Int) : lt2 a b = if a.1 = b.1 then decide (a.2 < b.2) else decide (a.1.cps.toList < b.1.cps.toList) := by
  unfold lt2 pairD
  rw [dataLt_pair (by simp [alike]) (by simp [alike]), dataLt_int, dataLt_str]
  simp only [PyData.eqv, beq_iff_eq]
  by_cases h1 : a.1 = b.1
  · rw [if_pos h1, if_pos h1]
    by_cases h2 : a.2 = b.2
    · rw [if_pos h2, decide_eq_false (by omega)]
    · rw [if_neg h2]
  · rw [if_neg h1, if_neg h1]
theorem str_ext {a b : Str} (h : a.cps.toList = b.cps.toList) : a = b := by
  cases a
  cases b
  congr 1
  exact Array.toList_inj.mp h
theorem nl_tri : ∀ a b : List Nat, ¬ b < a → a ≠ b → a < b
  | [], [], _, h => absurd rfl h
  | [], y :: ys, _, _ => List.nil_lt_cons y ys
  | x :: xs, [], h, _ => absurd (List.nil_lt_cons x xs) h
  | x :: xs, y :: ys, h, n => by
    rw [List.cons_lt_cons_iff] at h ⊢
    by_cases e : x = y
    · exact .inr ⟨e, nl_tri xs ys (fun z => h (.inr ⟨e.symm, z⟩)) fun z => n (by rw [e, z])⟩
    · left
      have : ¬ y < x := fun z => h (.inl z)
      omega
theorem lt2_or {a b : Str × Int} (ne : a ≠ b) (h : lt2 b a = false) : lt2 a b = true := by
  rw [lt2_eq] at h ⊢
  by_cases e : a.1 = b.1
  · rw [if_pos e]
    rw [if_pos e.symm] at h
    have h2 := of_decide_eq_false h
    have h3 : a.2 ≠ b.2 := fun z => ne (Prod.ext e z)
    exact decide_eq_true (by omega)
  · rw [if_neg e]
    rw [if_neg fun z => e z.symm] at h
    have h2 := of_decide_eq_false h
    refine decide_eq_true ?_
    exact nl_tri _ _ h2 fun z => e (str_ext z)
theorem zip_all {α : Type} {R : α → α → Bool} : ∀ {l : List α}, l.Pairwise (fun a b => R a b = true) → ((l.zip l.tail).all fun p => R p.1 p.2) = true
  | [], _ => rfl
  | [_], _ => rfl
  | a :: b :: l, h => by
    have h1 := (List.pairwise_cons.mp h).1 b (List.mem_cons_self ..)
    have ih := zip_all (List.pairwise_cons.mp h).2
    show (R a b && _) = true
    rw [h1, Bool.true_and]
    exact ih
end Kn
-- part SLSum
set_option maxHeartbeats 8000000
/-! _law_sum. -/
namespace Kn
open PySem PySem.Spec PyProof.Rows L2 Err
abbrev sLSum : Stmt := topS 32
abbrev NLs7 : List Str := ["_law_draw", "_law_titles_here", "_law_most", "_law_highest", "_law_found", "_law_turn", "_law_key"]
theorem scLs7 : FnScope NLs7 ["_law_draw", "_law_titles_here", "_law_most", "_law_highest"] (defScope sLSum) := ⟨rfl, rfl, rfl, by decide +kernel, rfl, by decide +kernel, by decide +kernel⟩
/-- a pick out of a new list -/
theorem pick_new {d l c : Addr} {H : Hp} {xs : List V} {Q : VK} (D : Drw H d l c) (x0 : 0 < xs.length) (x1 : xs.length ≤ 1000) (q : ∀ x H', x ∈ xs → Drw H' d l c → But d l H H' → Q x H') {e : Addr} (ne : H e = none) : spPick [.ref d, .ref e] (upd H e (.lst xs)) Q (fun _ _ _ => False) :=
  ⟨d, l, c, e, xs, rfl, D.new ne, upd_same, (D.off ne).2, x0, x1, fun k x H' hk D' B' => q x H' (List.mem_of_getElem? hk) D' ((But.new ne).trans B')⟩
def rTupA (K : PySem.W.Frag) : List V → Hp → VK → Prop := fun xs H Q => ∃ p ys, xs = [.ref p] ∧ ((SqL K H p ys ∧ ∀ l, H l = none → Q (.ref l) (upd H l (.tup ys))) ∨ (SqT K H p ys ∧ Q (.ref p) H))
theorem cut_tup {d l c a : Addr} {H : Hp} {xs : List V} (D : Drw H d l c) (e : H a = some (.tup xs)) : cut d l H a = some (.tup xs) := by
  refine cut_at e (fun z => ?_) fun z => ?_
  · obtain ⟨⟨_, _, w⟩, _, _, _⟩ := D
    rw [← z, e] at w
    cases w
  · obtain ⟨_, ⟨_, w⟩, _, _⟩ := D
    rw [← z, e] at w
    cases w
abbrev kTP (t : Str) (p : Int) : List Key := [Sum.inr t, Sum.inl p]
/-- what is found so far: by title and power, how many -/
structure Fnd (ts : List Str) (hi : Int) (kvs : List (List Key × V)) : Prop where
  nd : (kvs.map (·.1)).Nodup
  at_ : ∀ p ∈ kvs, ∃ (t : Str) (pw c : Int), p = (kTP t pw, V.int c) ∧ (t = "" ∨ t ∈ ts) ∧ 0 ≤ pw ∧ pw ≤ 2 ∧ -9 ≤ c ∧ c ≤ 9 ∧ c ≠ 0
theorem Fnd.put {ts : List Str} {hi : Int} {kvs : List (List Key × V)} {t : Str} {pw c : Int} (h : Fnd ts hi kvs) (ht : t = "" ∨ t ∈ ts) (p0 : 0 ≤ pw) (p2 : pw ≤ 2) (c0 : -9 ≤ c) (c1 : c ≤ 9) (c2 : c ≠ 0) : Fnd ts hi (putK kvs (kTP t pw) (.int c)) :=
  ⟨nodup_putK h.nd, fun p hp => by
    rcases mem_putK hp with e | e
    · exact ⟨t, pw, c, e, ht, p0, p2, c0, c1, c2⟩
    · exact h.at_ p e⟩
def cntOf (kvs : List (List Key × V)) (k : List Key) : Int := match valV kvs k with
  | some (.int c) => c
  | _ => 0
def tmOf (kvs : List (List Key × V)) (k : List Key) : Tm := match k with
  | [.inr t, .inl p] => (t, p, cntOf kvs k)
  | _ => ("", 0, 1)
def spLSum : Sp := fun vs H Q _ => ∃ d l c so ts, ∃ n hi : Int, vs = [.ref d, .ref so, .int n, .int hi] ∧ Drw H d l c ∧ H so = some (.lst (ts.map V.str)) ∧ so ≠ l ∧ ts.length ≤ 100 ∧ (∀ x ∈ ts, x.cps.size ≤ 900 ∧ PyData.strOk x = true) ∧ 0 ≤ n ∧ n ≤ 100 ∧ 0 ≤ hi ∧ hi ≤ 2 ∧
  ∀ (t : Addr) (tms : List Tm) (H' : Hp), Drw H' d l c → But d l H H' → Is (cut d l H') (.ref t) (sumW tms) → SumOk ts tms → (∀ m ∈ tms, m.2.1 ≤ hi) → Q (.ref t) H'
theorem tm_asc {kvs : List (List Key × V)} {ts : List Str} {hi : Int} (F : Fnd ts hi kvs) {bs : List (List Key × Addr)} (e : bs.map (·.1) = kvs.map (·.1)) (f : List Key × Addr → Bool) :
    SumOk ts ((((bs.mergeSort (PySem.W.dataLe false fun b => keyT b.1)).filter f).map fun b => tmOf kvs b.1)) := by
  have mem : ∀ b ∈ bs, ∃ (t : Str) (pw c : Int), b.1 = kTP t pw ∧ valV kvs b.1 = some (V.int c) ∧ (t = "" ∨ t ∈ ts) ∧ 0 ≤ pw ∧ pw ≤ 2 ∧ -9 ≤ c ∧ c ≤ 9 ∧ c ≠ 0 := fun b hb => by
    have h1 : b.1 ∈ kvs.map (·.1) := by rw [← e]; exact List.mem_map.mpr ⟨b, hb, rfl⟩
    obtain ⟨p, hp, h2⟩ := List.mem_map.mp h1
    obtain ⟨t, pw, c, h3, h4⟩ := F.at_ p hp
    have h5 := val_nodup F.nd p hp
    rw [h2] at h5
    refine ⟨t, pw, c, ?_, ?_, h4⟩
    · rw [← h2, h3]
    · rw [h5, h3]
  have tm : ∀ b ∈ bs, ∀ t pw c, b.1 = kTP t pw → valV kvs b.1 = some (V.int c) → tmOf kvs b.1 = (t, pw, c) := fun b _ t pw c h1 h2 => by
    unfold tmOf
    rw [h1] at h2 ⊢
    show (t, pw, cntOf kvs (kTP t pw)) = _
    unfold cntOf
    rw [h2]
  have perm : (bs.mergeSort (PySem.W.dataLe false fun b => keyT b.1)).Perm bs := List.mergeSort_perm _ _
  have nd : ((bs.mergeSort (PySem.W.dataLe false fun b => keyT b.1)).map (·.1)).Nodup := by
    refine (perm.map _).nodup_iff.mpr ?_
    rw [e]
    exact F.nd
  constructor
  · intro m hm
    obtain ⟨b, hb, rfl⟩ := List.mem_map.mp hm
    have hb2 := perm.mem_iff.mp (List.mem_filter.mp hb).1
    obtain ⟨t, pw, c, h1, h2, h3, h4, h5, h6, h7, h8⟩ := mem b hb2
    rw [tm b hb2 t pw c h1 h2]
    exact ⟨h3, h4, h5, h6, h7, h8⟩
  · refine zip_all (R := fun (a b : Tm) => lt2 (a.1, a.2.1) (b.1, b.2.1)) (List.pairwise_map.mpr ?_)
    have so := dsorted (fun b : List Key × Addr => keyT b.1) bs
    have nd2 := List.pairwise_map.mp (List.nodup_iff_pairwise_ne.mp nd)
    refine (List.Pairwise.imp_of_mem (fun {a b} ha hb z => ?_) (so.and nd2)).filter _
    obtain ⟨z1, z2⟩ := z
    have ha2 := perm.mem_iff.mp ha
    have hb2 := perm.mem_iff.mp hb
    obtain ⟨t, pw, c, h1, h2, _⟩ := mem a ha2
    obtain ⟨t', pw', c', h1', h2', _⟩ := mem b hb2
    rw [tm a ha2 t pw c h1 h2, tm b hb2 t' pw' c' h1' h2']
    refine lt2_or (fun z => z2 ?_) ?_
    · obtain ⟨e1, e2⟩ := Prod.mk.inj (show (t, pw) = (t', pw') from z)
      rw [h1, h1', e1, e2]
    · rw [h1, h1'] at z1
      exact z1
theorem sumOk_sm {ts : List Str} {tms : List Tm} (h : SumOk ts tms) (sm : ∀ x ∈ ts, x.cps.size ≤ 900 ∧ PyData.strOk x = true) : ∀ m ∈ tms, m.1.cps.size ≤ 900 ∧ PyData.strOk m.1 = true := fun m hm => by
  rcases (h.t m hm).1 with e | e
  · rw [e]
    exact ⟨by decide, by decide +kernel⟩
  · exact sm _ e
theorem isA_tms {d l c : Addr} {H : Hp} (D : Drw H d l c) : ∀ {as : List Addr} {tms : List Tm}, (∀ m ∈ tms, m.1.cps.size ≤ 900 ∧ PyData.strOk m.1 = true) → Paired (fun a (m : Tm) => H a = some (.tup [.str m.1, .int m.2.1, .int m.2.2])) as tms → IsAll (cut d l H) (as.map V.ref) (tms.map tmW)
  | _, _, _, .nil => .nil
  | _, _, sm, .cons h t => .cons (.tup (by show 3 ≤ 900; decide) (.inl (cut_tup D h)) (.cons (.str _ (sm _ (List.mem_cons_self ..)).1 (sm _ (List.mem_cons_self ..)).2) (.cons (.int _) (.cons (.int _) .nil)))) (isA_tms D (fun m hm => sm m (List.mem_cons_of_mem _ hm)) t)
section
variable {P : Program} {w : World} {K : PySem.W.Frag} {mg : Str → Option Value} {base : Heap}
theorem ok_lsum {f fT fP : Addr} {fd fdT fdP : FuncData} (F : Fun K "_law_sum" "_law_sum" sLSum f fd) (GT : FnOk P w K mg base CX0 2 fT fdT ["_law_draw", "_law_amount"] spTake) (kT : PySem.W.keepIn K (.ref fT) = true)
    (bT : Binds K fdT ["_law_draw", "_law_amount"] []) (gT : mg "_law_take" = some (.ref fT)) (GP : FnOk P w K mg base CX0 3 fP fdP ["_law_draw", "_law_some"] spPick) (kP : PySem.W.keepIn K (.ref fP) = true) (bP : Binds K fdP ["_law_draw", "_law_some"] []) (gP : mg "_law_pick" = some (.ref fP)) (mr : mg "range" = none) (ms : mg "sorted" = none) (mt : mg "tuple" = none) :
    FnOk P w K mg base CX0 4 f fd ["_law_draw", "_law_titles_here", "_law_most", "_law_highest"] spLSum := by
  have S := scLs7
  refine F.ok S (fun vs H Q E h => ?_) (fun cdv A outer s H vs Q E hr h => ?_)
  · obtain ⟨d, l, c, so, ts, n, hi, rfl, _⟩ := h
    rfl
  · obtain ⟨d, l, c, so, ts, n, hi, rfl, D, hso, sl, tz, sm, n0, n1, h0, h2, q⟩ := h
    have hu := hu_of hr
    have hr2 := hr.mono (show 2 ≤ 3 by decide)
    refine ⟨_, (pss_cons (ps_set (i := 4) S.nd rfl (.inr rfl) pe_dnewT)
      (pss_cons (ps_for PassesOwn.never rfl (pi_range1 (by rfl) mr (pa_cons (pe_call GT hr2 (by rfl) gT kT bT .nil pass0 (pa_cons (pv 0) (pa_cons (pe_op op_add (pv 2) pe_int) pa_nil))) pa_nil)) (pg_name (i := 5) S.nd rfl (.inl rfl))
        (pss_cons (ps_set (i := 6) S.nd rfl (.inl rfl) (pe_tup (pa_cons (pe_call GP hr (by rfl) gP kP bP .nil pass0 (pa_cons (pv 0) (pa_cons (pe_op op_cat (pe_lst (pa_cons pe_str pa_nil)) (pv 1)) pa_nil))) (pa_cons (pe_call GP hr (by rfl) gP kP bP .nil pass0 (pa_cons (pv 0) (pa_cons (pe_lst (pa_cons pe_int (pa_cons pe_int (pa_cons pe_int (pa_cons pe_int (pa_cons pe_int (pa_cons (pv 3) pa_nil))))))) pa_nil))) pa_nil))))
        (pss_one (ps_dput hu (pv 4) (pv 6) (pe_call GP hr (by rfl) gP kP bP .nil pass0 (pa_cons (pv 0) (pa_cons (pe_lst (pa_cons pe_int (pa_cons pe_int (pa_cons pe_int (pa_cons pe_int (pa_cons (pe_un un_neg pe_int) (pa_cons (pe_un un_neg pe_int) (pa_cons pe_int (pa_cons pe_int pa_nil))))))))) pa_nil))) rfl))))
      (pss_one (ps_ret (pe_callTy (show CallR _ (.type "tuple") (rTupA K) from call_tuple_of) (by rfl) mt (by decide +kernel) (pa_cons (pe_lc (own := [("_law_key", 6)]) (g := gName 6) rfl S.nd (pi_list (pe_callB (cr_sortDT rfl hr.units) (by rfl) ms (by decide +kernel) (pa_cons (pv 4) pa_nil))) (blkOk_by (N := NLs7) (sc := defScope sLSum) (by decide +kernel)) (fun _ _ _ _ _ => (pg_name (i := 6) S.nd rfl (.inl rfl))) (fun _ _ _ _ _ => (pts_one (pt_cmpR op_le (pe_ix (show IxR _ (rIxT K) from ix_tup) (pv 6) pe_int (fun _ _ => rfl)) (pv 3) (nomark _)))) (fun _ _ _ _ _ => (pe_tup (pa_cons (pe_ix (show IxR _ (rIxT K) from ix_tup) (pv 6) pe_int (fun _ _ => rfl)) (pa_cons (pe_ix (show IxR _ (rIxT K) from ix_tup) (pv 6) pe_int (fun _ _ => rfl)) (pa_cons (pe_dget hu (pv 4) (pv 6) (fun _ _ => rfl)) pa_nil)))))) pa_nil)))))), ?_⟩
    have sod : so ≠ d := fun z => by
      obtain ⟨⟨r, t, e⟩, _, _, _⟩ := D
      rw [z, e] at hso
      cases hso
    intro fo nfo
    have offF := D.off nfo
    have hfo : (upd H fo (.dT [])) fo = some (.dT []) := upd_same
    have D0 := D.new (o := .dT []) nfo
    have B0 : But d l H (upd H fo (.dT [])) := But.new nfo
    generalize upd H fo (.dT []) = H0 at hfo D0 B0 ⊢
    refine ⟨_, rfl, _, rfl, _, _, rfl, rfl, d, l, c, n + 1, rfl, D0, by omega, by omega, fun k H1 k0 k1 D1 B1 => ?_⟩
    refine ⟨k, rfl, by omega, by omega, for_range (fun i σ H2 => ∃ y5 y6 kvs, σ = [some (.ref d), some (.ref so), some (.int n), some (.int hi), some (.ref fo), y5, y6] ∧ Drw H2 d l c ∧ But d l H H2 ∧ H2 fo = some (.dT kvs) ∧ Fnd ts hi kvs ∧ kvs.length ≤ i)
      ⟨_, _, [], rfl, D1, B0.trans B1, B1 _ _ hfo offF.1 offF.2, ⟨List.nodup_nil, fun p hp => by cases hp⟩, Nat.le_refl 0⟩ ?_ ?_⟩
    · rintro i σ H2 hi2 ⟨y5, y6, kvs, rfl, D2, B2, hf2, fn, len⟩
      have hso2 := B2 _ _ hso sod sl
      have offE : ∀ {x : Addr}, H x = none → x ≠ d ∧ x ≠ l := fun z => D.off z
      -- the title
      refine ⟨_, rfl, by show 1 ≤ sizeLine; decide, fun e1 ne1 => ⟨_, rfl, e1, so, [V.str ""], ts.map V.str, rfl, rfl, upd_same, ?_, ?_, fun e2 ne2 => pick_new (D2.new ne1) ?_ ?_ (fun x H3 hx D3 B3 => ?_) ne2⟩⟩
      · rw [upd_ne (ne_of_none hso2 ne1)]
        exact hso2
      · rw [List.length_map]
        show 1 + ts.length ≤ sizeLine
        have : (1000 : Nat) ≤ sizeLine := by decide
        omega
      · show 0 < ([V.str ""] ++ ts.map V.str).length
        rw [List.length_append]
        show 0 < 1 + _
        omega
      · rw [List.length_append, List.length_map]
        show 1 + ts.length ≤ 1000
        omega
      obtain ⟨t, rfl, ht⟩ : ∃ t : Str, x = V.str t ∧ (t = "" ∨ t ∈ ts) := by
        rcases List.mem_append.mp hx with z | z
        · exact ⟨"", List.mem_singleton.mp z, .inl rfl⟩
        · obtain ⟨y, hy, e⟩ := List.mem_map.mp z
          exact ⟨y, e.symm, .inr hy⟩
      have B23 : But d l H2 H3 := (But.new ne1).trans B3
      -- the power
      refine ⟨_, rfl, _, rfl, by show 6 ≤ sizeLine; decide, fun e3 ne3 => pick_new D3 (by show 0 < 6; decide) (by show 6 ≤ 1000; decide) (fun x2 H4 hx2 D4 B4 => ?_) ne3⟩
      obtain ⟨pw, rfl, p0, p2⟩ : ∃ pw : Int, x2 = V.int pw ∧ 0 ≤ pw ∧ pw ≤ 2 := by
        simp only [List.mem_cons, List.not_mem_nil, or_false] at hx2
        rcases hx2 with z | z | z | z | z | z
        · exact ⟨0, z, by decide, by decide⟩
        · exact ⟨0, z, by decide, by decide⟩
        · exact ⟨0, z, by decide, by decide⟩
        · exact ⟨0, z, by decide, by decide⟩
        · exact ⟨1, z, by decide, by decide⟩
        · exact ⟨hi, z, h0, h2⟩
      refine ⟨by show 2 ≤ sizeLine; decide, fun u nu => ?_⟩
      have D5 := D4.new (o := .tup [.str t, .int pw]) nu
      have B5 : But d l H (upd H4 u (.tup [.str t, .int pw])) := ((B2.trans B23).trans B4).trans (But.new nu)
      have hu5 : (upd H4 u (.tup [.str t, .int pw])) u = some (.tup [.str t, .int pw]) := upd_same
      have hf5 : (upd H4 u (.tup [.str t, .int pw])) fo = some (.dT kvs) := by
        have z := B4 _ _ (B23 _ _ hf2 offF.1 offF.2) offF.1 offF.2
        rw [upd_ne (ne_of_none z nu)]
        exact z
      generalize upd H4 u (.tup [.str t, .int pw]) = H5 at D5 B5 hu5 hf5 ⊢
      have nuH : u ≠ d ∧ u ≠ l := D4.off nu
      -- how many
      refine ⟨_, rfl, _, rfl, _, rfl, by show 8 ≤ sizeLine; decide, fun e4 ne4 => pick_new D5 (by show 0 < 8; decide) (by show 8 ≤ 1000; decide) (fun x3 H6 hx3 D6 B6 => ?_) ne4⟩
      obtain ⟨c1, rfl, c2, c3, c4⟩ : ∃ c1 : Int, x3 = V.int c1 ∧ -9 ≤ c1 ∧ c1 ≤ 9 ∧ c1 ≠ 0 := by
        simp only [List.mem_cons, List.not_mem_nil, or_false] at hx3
        rcases hx3 with z | z | z | z | z | z | z | z <;> exact ⟨_, z, by decide, by decide, by decide⟩
      have hf6 := B6 _ _ hf5 offF.1 offF.2
      have hu6 := B6 _ _ hu5 nuH.1 nuH.2
      have il : i ≤ 101 := by omega
      refine ⟨_, rfl, _, rfl, fo, _, rfl, DPut.t (k := kTP t pw) hf6 hu6 (small1000 (by omega)), _, _, putK kvs (kTP t pw) (.int c1), rfl, D6.own D nfo, (B5.trans B6).own nfo, upd_same, fn.put ht p0 p2 c2 c3 c4, ?_⟩
      rcases keys_putK (kvs := kvs) (k := kTP t pw) (v := V.int c1) with e | ⟨_, e⟩
      · have z := congrArg List.length e
        rw [List.length_map, List.length_map] at z
        omega
      · have z := congrArg List.length e
        rw [List.length_map, List.length_append, List.length_map] at z
        rw [z]
        show kvs.length + 1 ≤ i + 1
        omega
    · rintro σ H2 ⟨y5, y6, kvs, rfl, D2, B2, hf2, fn, len⟩
      have kz : kvs.length ≤ 101 := by omega
      refine ⟨_, rfl, fo, kvs, rfl, .inl hf2, ?_, ?_, fun bs p hbs hb np => ?_⟩
      · intro a ha b hb
        obtain ⟨x, hx, rfl⟩ := List.mem_map.mp ha
        obtain ⟨y, hy, rfl⟩ := List.mem_map.mp hb
        obtain ⟨t, pw, c, rfl, _⟩ := fn.at_ x hx
        obtain ⟨t', pw', c', rfl, _⟩ := fn.at_ y hy
        exact alike_pair (t, pw) (t', pw')
      · intro x hx
        obtain ⟨t, pw, c, rfl, _⟩ := fn.at_ x hx
        exact fun z => by cases z
      have asc := tm_asc fn hbs fun b => match b.1 with
        | [.inr _, .inl q] => decide (q ≤ hi)
        | _ => false
      have pm : (bs.mergeSort (PySem.W.dataLe false fun b => keyT b.1)).Perm bs := List.mergeSort_perm _ _
      have hmem : ∀ b ∈ bs.mergeSort (PySem.W.dataLe false fun b => keyT b.1), ∃ (t : Str) (pw cc : Int), b.1 = kTP t pw ∧ valV kvs b.1 = some (V.int cc) ∧ (t = "" ∨ t ∈ ts) ∧ H2 b.2 = some (.tup [.str t, .int pw]) := fun b hb' => by
        have hb2 := pm.mem_iff.mp hb'
        have h1 : b.1 ∈ kvs.map (·.1) := by rw [← hbs]; exact List.mem_map.mpr ⟨b, hb2, rfl⟩
        obtain ⟨x, hx, e⟩ := List.mem_map.mp h1
        obtain ⟨t, pw, cc, e2, ht, _⟩ := fn.at_ x hx
        have e3 : b.1 = kTP t pw := by rw [← e, e2]
        have e4 := val_nodup fn.nd x hx
        rw [e] at e4
        refine ⟨t, pw, cc, e3, by rw [e4, e2], ht, ?_⟩
        have e5 := hb b hb2
        rw [e3] at e5
        exact e5
      have bl : (bs.mergeSort (PySem.W.dataLe false fun b => keyT b.1)).length ≤ 101 := by
        have z := congrArg List.length hbs
        rw [List.length_map, List.length_map] at z
        rw [List.length_mergeSort]
        omega
      generalize bs.mergeSort (PySem.W.dataLe false fun b => keyT b.1) = bz at asc hmem bl ⊢
      have hp3 : (upd H2 p (.lst (bz.map fun b => V.ref b.2))) p = some (.lst (bz.map fun b => V.ref b.2)) := upd_same
      have s3 : Same H2 (upd H2 p (.lst (bz.map fun b => V.ref b.2))) := same_new np
      generalize upd H2 p (.lst (bz.map fun b => V.ref b.2)) = H3 at hp3 s3 ⊢
      refine ⟨p, rfl, ⟨_, SqL.of hp3⟩, fun Dl nDl => lc_it (D := Dl) walk_list (fun i H' => Same H3 H' ∧ ∃ as : List Addr, H' Dl = some (.lst (as.map V.ref)) ∧ Paired (fun a (m : Tm) => H' a = some (.tup [.str m.1, .int m.2.1, .int m.2.2])) as (((bz.take i).filter fun b => match b.1 with
        | [.inr _, .inl q] => decide (q ≤ hi)
        | _ => false).map fun b => tmOf kvs b.1)) ⟨same_new nDl, [], upd_same, .nil⟩ (fun i H' _ z => SqL.of (z.1 _ _ hp3)) ?_ ?_⟩
      · rintro i x H4 H5 hin ⟨s4, as, hD, hpr⟩ ⟨rfl, hx⟩
        rw [List.getElem?_map] at hx
        obtain ⟨b, hbi, rfl⟩ := Option.map_eq_some_iff.mp hx
        obtain ⟨t, pw, cc, e1, e2, e3, e4⟩ := hmem b (List.mem_of_getElem? hbi)
        have e5 := (s3.trans s4) _ _ e4
        have hD4 := hD
        have tk : bz.take (i + 1) = bz.take i ++ [b] := by rw [List.take_add_one, hbi]; rfl
        refine ⟨rfl, _, rfl, b.2, _, 1, V.int pw, rfl, rfl, .inl (.inl e5), rfl, _, rfl, pw, hi, rfl, rfl, decide (pw ≤ hi), rfl, ?_⟩
        by_cases le : pw ≤ hi
        · have d1 : decide (pw ≤ hi) = true := decide_eq_true le
          rw [d1]
          refine iteT ⟨_, rfl, b.2, _, 0, V.str t, rfl, rfl, .inl (.inl e5), rfl, _, rfl, b.2, _, 1, V.int pw, rfl, rfl, .inl (.inl e5), rfl, _, rfl, _, rfl, fo, V.int cc, rfl, e2 ▸ DGet.t (k := b.1) ((s3.trans s4) _ _ hf2) (by rw [e1]; exact e5), by show 3 ≤ sizeLine; decide, fun p2 np2 => ?_⟩
          have hD5 : (upd H5 p2 (.tup [V.str t, V.int pw, V.int cc])) Dl = some (.lst (as.map V.ref)) := by
            rw [upd_ne (ne_of_none hD np2)]
            exact hD
          have ne : p2 ≠ Dl := fun z => by
            rw [z, hD] at np2
            cases np2
          have la := paired_len hpr
          rw [List.length_map] at la
          have la2 : ((bz.take i).filter fun b => match b.1 with
            | [.inr _, .inl q] => decide (q ≤ hi)
            | _ => false).length ≤ 101 := Nat.le_trans (List.length_filter_le _ _) (by rw [List.length_take]; omega)
          refine ⟨_, hD5, by rw [List.length_map]; exact small1000 (by omega), same_own nDl (s4.trans (same_new np2)), as ++ [p2], by rw [upd_same, List.map_append]; rfl, ?_⟩
          rw [tk, List.filter_append, List.filter_cons_of_pos (by rw [e1]; simpa using le), List.filter_nil, List.map_append]
          have tm : tmOf kvs b.1 = (t, pw, cc) := by
            unfold tmOf
            rw [e1] at e2 ⊢
            show (t, pw, cntOf kvs (kTP t pw)) = _
            unfold cntOf
            rw [e2]
          show Paired _ _ (_ ++ [tmOf kvs b.1])
          rw [tm]
          refine paired_snoc ?_ (paired_mono (fun a m h => ?_) hpr)
          · show upd (upd H5 p2 _) Dl _ p2 = _
            rw [upd_ne ne, upd_same]
          · have n1 : a ≠ p2 := ne_of_none h np2
            have n2 : a ≠ Dl := fun z => by
              rw [z, hD] at h
              cases h
            show upd (upd H5 p2 _) Dl _ a = _
            rw [upd_ne n2, upd_ne n1]
            exact h
        · have d1 : decide (pw ≤ hi) = false := decide_eq_false le
          rw [d1]
          refine iteF ⟨s4, as, hD, ?_⟩
          rw [tk, List.filter_append, List.filter_cons_of_neg (by rw [e1]; simpa using le), List.filter_nil, List.append_nil]
          exact hpr
      · rintro H4 ⟨s4, as, hD, hpr⟩
        rw [List.length_map, List.take_length] at hpr
        have s2 : Same H2 H4 := s3.trans s4
        refine ⟨Dl, as.map V.ref, rfl, .inl ⟨SqL.of hD, fun tp ntp => ?_⟩⟩
        have D4 : Drw (upd H4 tp (.tup (as.map V.ref))) d l c := (D2.same s2).new ntp
        have B4 : But d l H (upd H4 tp (.tup (as.map V.ref))) := (B2.trans (But.of s2)).trans (But.new ntp)
        have la := paired_len hpr
        rw [List.length_map] at la
        have la2 : (bz.filter fun b => match b.1 with
          | [.inr _, .inl q] => decide (q ≤ hi)
          | _ => false).length ≤ 101 := Nat.le_trans (List.length_filter_le _ _) bl
        refine q tp _ _ D4 B4 (.tup (by rw [List.length_map]; omega) (.inl (cut_tup D4 upd_same)) (isA_tms D4 (sumOk_sm asc sm) (paired_mono (fun a m h => ?_) hpr))) asc fun m hm => ?_
        · rw [upd_ne (ne_of_none h ntp)]
          exact h
        · obtain ⟨b, hb1, rfl⟩ := List.mem_map.mp hm
          obtain ⟨hb2, hb3⟩ := List.mem_filter.mp hb1
          obtain ⟨t, pw, cc, e1, e2, _, _⟩ := hmem b hb2
          rw [e1] at hb3
          have tm : tmOf kvs b.1 = (t, pw, cc) := by
            unfold tmOf
            rw [e1] at e2 ⊢
            show (t, pw, cntOf kvs (kTP t pw)) = _
            unfold cntOf
            rw [e2]
          rw [tm]
          exact of_decide_eq_true hb3
end
end Kn
-- part SRest
set_option maxHeartbeats 4000000
/-! The heap without the draws, the tables and some places. -/
namespace Kn
open PySem PySem.Spec PyProof.Rows L2 Err LamX
def rest (d l : Addr) (L : List Addr) (H : Hp) : Hp := fun b => if b = d ∨ b = l ∨ b ∈ L then none else noTbl (H b)
theorem rest_ne {d l b : Addr} {L : List Addr} {H : Hp} {o : HO} (e : rest d l L H b = some o) : b ≠ d ∧ b ≠ l ∧ b ∉ L ∧ H b = some o ∧ ∀ ps, o ≠ .tbl ps := by
  unfold rest at e
  by_cases z : b = d ∨ b = l ∨ b ∈ L
  · rw [if_pos z] at e
    cases e
  · rw [if_neg z] at e
    exact ⟨fun q => z (.inl q), fun q => z (.inr (.inl q)), fun q => z (.inr (.inr q)), noTbl_some e⟩
theorem rest_at {d l b : Addr} {L : List Addr} {H : Hp} {o : HO} (e : H b = some o) (n1 : b ≠ d) (n2 : b ≠ l) (n4 : b ∉ L) (n3 : ∀ ps, o ≠ .tbl ps := by intro _ z; cases z) : rest d l L H b = some o := by
  unfold rest
  rw [if_neg (by rintro (z | z | z); exact n1 z; exact n2 z; exact n4 z), e]
  exact noTbl_of n3
theorem rest_n {d l : Addr} {L : List Addr} {H H' : Hp} (B : ButN d l H H') : Same (rest d l L H) (rest d l L H') := fun b o e => by
  obtain ⟨h1, h2, h3, h4, h5⟩ := rest_ne e
  exact rest_at (B b o h4 h1 h2 h5) h1 h2 h3 h5
theorem rest_but {d l : Addr} {L : List Addr} {H H' : Hp} (B : But d l H H') : Same (rest d l L H) (rest d l L H') := rest_n B.n
theorem rest_upd {d l x : Addr} {L : List Addr} {H : Hp} {o : HO} (h : x ∈ L) : Same (rest d l L H) (rest d l L (upd H x o)) := fun b u e => by
  obtain ⟨h1, h2, h3, h4, h5⟩ := rest_ne e
  exact rest_at (by rw [upd_ne (fun z => h3 (by rw [z]; exact h))]; exact h4) h1 h2 h3 h5
theorem rest_new {d l x : Addr} {L : List Addr} {H : Hp} {o : HO} (n : H x = none) : Same (rest d l L H) (rest d l (x :: L) (upd H x o)) := fun b u e => by
  obtain ⟨h1, h2, h3, h4, h5⟩ := rest_ne e
  have ne : b ≠ x := ne_of_none h4 n
  exact rest_at (by rw [upd_ne ne]; exact h4) h1 h2 (fun z => (List.mem_cons.mp z).elim ne h3) h5
theorem rest_cut {d l : Addr} {L : List Addr} {H : Hp} : Same (rest d l L H) (cut d l H) := fun b u e => by
  obtain ⟨h1, h2, h3, h4, h5⟩ := rest_ne e
  exact cut_at h4 h1 h2 h5
theorem rest_le {d l : Addr} {L : List Addr} {H : Hp} : Same (rest d l L H) H := fun b u e => (rest_ne e).2.2.2.1
theorem rest_drop {d l x : Addr} {L : List Addr} {H : Hp} : Same (rest d l (x :: L) H) (rest d l L H) := fun b u e => by
  obtain ⟨h1, h2, h3, h4, h5⟩ := rest_ne e
  exact rest_at h4 h1 h2 (fun z => h3 (List.mem_cons_of_mem _ z)) h5
theorem sum_rest {d l : Addr} {L : List Addr} {H : Hp} {v : V} {ts : List Tm} (hL : ∀ x ∈ L, ∃ kvs, H x = some (.dK kvs)) (h : Is (cut d l H) v (sumW ts)) : Is (rest d l L H) v (sumW ts) := by
  refine is_sum_to (fun a xs e => ?_) h
  rcases e with e | ⟨o, e⟩
  · obtain ⟨n1, n2, e2⟩ := cut_ne e
    refine .inl (rest_at e2 n1 n2 fun z => ?_)
    obtain ⟨kvs, q⟩ := hL _ z
    rw [e2] at q
    cases q
  · obtain ⟨n1, n2, e2⟩ := cut_ne e
    refine .inr ⟨o, rest_at e2 n1 n2 fun z => ?_⟩
    obtain ⟨kvs, q⟩ := hL _ z
    rw [e2] at q
    cases q
/-- a tuple stays through draws -/
theorem But.tup {d l c a : Addr} {H H' : Hp} {xs : List V} (B : But d l H H') (D : Drw H d l c) (e : H a = some (.tup xs)) : H' a = some (.tup xs) := by
  have z := cut_ne (cut_tup D e)
  exact B _ _ e z.1 z.2.1
theorem ti_lt : ∀ t ∈ TI, ∀ p ∈ ([0, 1] : List Int), lt2 ("", p) (t, 0) = true ∧ PySem.W.dataLt (tmD (t, 0, 1)) (tmD ("", p, 1)) = false := by decide +kernel
theorem tm_in {names : List Str} {t : Str} {p c : Int} (h : t = "" ∨ t ∈ names) (a : 0 ≤ p) (b : p ≤ 2) (e : -9 ≤ c) (f : c ≤ 9) (g : c ≠ 0) : TmIn names (t, p, c) := ⟨h, a, b, e, f, g⟩
theorem stay_ok {names : List Str} {t : Str} (h : t ∈ names) : SumOk names [(t, 0, 1)] := by
  refine ⟨fun m hm => ?_, rfl⟩
  rw [List.mem_singleton.mp hm]
  exact tm_in (.inr h) (by decide) (by decide) (by decide) (by decide) (by decide)
theorem none_ok {names : List Str} : SumOk names [] := by
  refine ⟨fun m hm => ?_, rfl⟩
  cases hm
theorem plus_ok {names : List Str} {t : Str} {p : Int} (h : t ∈ names) (hT : t ∈ TI) (hp : p ∈ ([0, 1] : List Int)) : SumOk names [("", p, 1), (t, 0, 1)] := by
  have p01 : 0 ≤ p ∧ p ≤ 2 := by
    simp only [List.mem_cons, List.not_mem_nil, or_false] at hp
    omega
  refine ⟨fun m hm => ?_, ?_⟩
  · rcases List.mem_cons.mp hm with e | e
    · rw [e]
      exact tm_in (.inl rfl) p01.1 p01.2 (by decide) (by decide) (by decide)
    · rw [List.mem_singleton.mp e]
      exact tm_in (.inr h) (by decide) (by decide) (by decide) (by decide) (by decide)
  · show (lt2 ("", p) (t, 0) && true) = true
    rw [(ti_lt t hT p hp).1]
    rfl
theorem is_tm {G : Hp} {a : Addr} {t : Str} {p c : Int} (e : G a = some (.tup [.str t, .int p, .int c])) (sm : t.cps.size ≤ 900 ∧ PyData.strOk t = true) : Is G (.ref a) (tmW (t, p, c)) :=
  .tup (by show 3 ≤ 900; decide) (.inl e) (.cons (.str _ sm.1 sm.2) (.cons (.int _) (.cons (.int _) .nil)))
theorem is_sum1 {G : Hp} {a b : Addr} {t : Str} {p c : Int} (e : G a = some (.tup [.ref b])) (e2 : G b = some (.tup [.str t, .int p, .int c])) (sm : t.cps.size ≤ 900 ∧ PyData.strOk t = true) : Is G (.ref a) (sumW [(t, p, c)]) :=
  .tup (by show 1 ≤ 900; decide) (.inl e) (.cons (is_tm e2 sm) .nil)
theorem is_sum2 {G : Hp} {a b b2 : Addr} {t t2 : Str} {p c p2 c2 : Int} (e : G a = some (.tup [.ref b, .ref b2])) (e2 : G b = some (.tup [.str t, .int p, .int c])) (e3 : G b2 = some (.tup [.str t2, .int p2, .int c2])) (sm : t.cps.size ≤ 900 ∧ PyData.strOk t = true) (sm2 : t2.cps.size ≤ 900 ∧ PyData.strOk t2 = true) : Is G (.ref a) (sumW [(t, p, c), (t2, p2, c2)]) :=
  .tup (by show 2 ≤ 900; decide) (.inl e) (.cons (is_tm e2 sm) (.cons (is_tm e3 sm2) .nil))
theorem is_sum0 {G : Hp} {a : Addr} (e : G a = some (.tup [])) : Is G (.ref a) (sumW []) := .tup (by show 0 ≤ 900; decide) (.inl e) .nil
theorem depth_tm (t : Tm) : (tmD t).depth = 1 := by kernel_rfl
theorem pair_kvs {H : Hp} : ∀ {as : List Addr} {vs : List (Str × Int)}, Paired (fun a (p : Str × Int) => H a = some (.tup [.str p.1, .int p.2])) as vs → Paired (fun a (kv : Key × V) => H a = some (.tup [kV kv.1, kv.2])) as (vs.map fun p => (Sum.inr p.1, V.int p.2))
  | _, _, .nil => .nil
  | _, _, .cons h t => .cons h (pair_kvs t)
def fok (sd sn : Addr) (lv : V) : List (Key × V) := [(.inr "start", .ref sd), (.inr "steps", .ref sn), (.inr "last", lv)]
theorem fok1 (sd sn : Addr) (lv : V) : valV (fok sd sn lv) (.inr "start") = some (.ref sd) := by kernel_rfl
theorem fok2 (sd sn : Addr) (lv : V) : valV (fok sd sn lv) (.inr "steps") = some (.ref sn) := by kernel_rfl
theorem fok3 (sd sn : Addr) (lv : V) : valV (fok sd sn lv) (.inr "last") = some lv := by kernel_rfl
theorem fokp (sd sn : Addr) (lv lv2 : V) : putK (fok sd sn lv) (.inr "last") lv2 = fok sd sn lv2 := by kernel_rfl
/-- told: a loop's parts in a dict of three -/
def ToldF (H : Hp) (a sd st ls : Addr) (m : Lm) : Prop := H a = some (.dK (fok sd st (.ref ls))) ∧ IntD H sd m.start ∧ StpD H st m.steps ∧ Is H (.ref ls) (sumW m.last)
theorem ToldF.same {H H' : Hp} {a sd st ls : Addr} {m : Lm} (h : ToldF H a sd st ls m) (s : Same H H') : ToldF H' a sd st ls m := ⟨s _ _ h.1, h.2.1.same s, h.2.2.1.same s, h.2.2.2.same s⟩
theorem ToldF.at_ {H : Hp} {a sd st ls : Addr} {m : Lm} (h : ToldF H a sd st ls m) : ToldAt H a m := ⟨_, sd, st, ls, h.1, fok1 _ _ _, fok2 _ _ _, fok3 _ _ _, h.2.1, h.2.2.1, h.2.2.2⟩
theorem ms_two {β : Type} {enc : β → PyData} {a b : β} (h : PySem.W.dataLt (enc b) (enc a) = false) : [a, b].mergeSort (PySem.W.dataLe false enc) = [a, b] := by
  refine List.mergeSort_of_pairwise (List.Pairwise.cons (fun x hx => ?_) (List.pairwise_singleton _ _))
  rw [List.mem_singleton.mp hx]
  show (!PySem.W.dataLt (enc b) (enc a)) = true
  rw [h]
  rfl
end Kn
namespace L2
open PySem PySem.Spec PyProof.Rows
theorem PSs.pre {X : Cx} {ss : List Stmt} {t : TS} (Pre : TS) (h : PSs X ss t) (w : ∀ D σ H, Pre D σ H → t D σ H) : PSs X ss Pre := ⟨fun pins s σ H D I z => h.run pins s σ H D I (w _ _ _ z)⟩
theorem PS.pre {X : Cx} {ss : Stmt} {t : TS} (Pre : TS) (h : PS X ss t) (w : ∀ D σ H, Pre D σ H → t D σ H) : PS X ss Pre := ⟨fun pins s σ H D I z => h.run pins s σ H D I (w _ _ _ z)⟩
theorem PE.pre {X : Cx} {e : Expr} {t : TE} (Pre : TE) (h : PE X e t) (w : ∀ σ H Q, Pre σ H Q → t σ H Q) : PE X e Pre := ⟨fun pins s σ H Q I z => h.run pins s σ H Q I (w _ _ _ z)⟩
end L2
-- part SLLoop
set_option maxHeartbeats 8000000
/-! _law_loop. -/
namespace Kn
open PySem PySem.Spec PyProof.Rows L2 Err LamX
abbrev sLLoop : Stmt := topS 33
abbrev NLo7 : List Str := ["_law_draw", "_law_sorts_here", "_law_many", "_law_highest", "_law_titles_here", "_law_steps_here", "_law_sort", "_law_title", "_law_way", "_law_stay", "_law_plus_here", "_law_some", "_law_last_here", "_law_begun_here"]
theorem scLo7 : FnScope NLo7 ["_law_draw", "_law_sorts_here", "_law_many", "_law_highest"] (defScope sLLoop) := ⟨rfl, rfl, rfl, by decide +kernel, rfl, by decide +kernel, by decide +kernel⟩
def spLLoop : Sp := fun vs H Q _ => ∃ d l c so ts, ∃ n : Int, vs = [.ref d, .ref so, .int n, .int 2] ∧ Drw H d l c ∧ H so = some (.lst (ts.map V.str)) ∧ so ≠ l ∧ NmOk ts ∧ 1 ≤ n ∧ n ≤ 3 ∧
  ∀ (td : Addr) (m : Lm) (H' : Hp), Drw H' d l c → But d l H H' → H td = none → (∃ sd st ls, ToldF (cut d l H') td sd st ls m) → LoopOk m → m.steps.map (·.1) = ts → Q (.ref td) H'
/-- while the sums of a kind are drawn -/
structure LpI (H : Hp) (d l c tl st b : Addr) (names : List Str) (ks : List (Key × V)) (t : Str) (lst : Stps) (kb : List (Key × V)) (lb : Sums) (H5 : Hp) : Prop where
  D : Drw H5 d l c
  B : But d l H H5
  htl : H5 tl = some (.lst (names.map V.str))
  hst : H5 st = some (.dK (ks ++ [(.inr t, .ref b)]))
  hb : H5 b = some (.dK kb)
  k1 : KvP (StpR (rest d l [b, st] H5)) ks lst
  k2 : KvP (SumR (rest d l [b, st] H5)) kb lb
  nt : tl ≠ d ∧ tl ≠ l
  ns : st ≠ d ∧ st ≠ l
  nb : b ≠ d ∧ b ≠ l
theorem LpI.go {H : Hp} {d l c tl st b : Addr} {names : List Str} {ks : List (Key × V)} {t : Str} {lst : Stps} {kb : List (Key × V)} {lb : Sums} {H5 H6 : Hp} (h : LpI H d l c tl st b names ks t lst kb lb H5) (D : Drw H6 d l c) (B : But d l H5 H6) : LpI H d l c tl st b names ks t lst kb lb H6 :=
  ⟨D, h.B.trans B, B _ _ h.htl h.nt.1 h.nt.2, B _ _ h.hst h.ns.1 h.ns.2, B _ _ h.hb h.nb.1 h.nb.2, h.k1.mono fun _ _ r => r.same (rest_but B), h.k2.mono fun _ _ r => r.same (rest_but B), h.nt, h.ns, h.nb⟩
theorem LpI.new {H : Hp} {d l c tl st b x : Addr} {names : List Str} {ks : List (Key × V)} {t : Str} {lst : Stps} {kb : List (Key × V)} {lb : Sums} {H5 : Hp} {o : HO} (h : LpI H d l c tl st b names ks t lst kb lb H5) (n : H5 x = none) : LpI H d l c tl st b names ks t lst kb lb (upd H5 x o) := h.go (h.D.new n) (But.new n)
theorem LpI.dicts {H : Hp} {d l c tl st b : Addr} {names : List Str} {ks : List (Key × V)} {t : Str} {lst : Stps} {kb : List (Key × V)} {lb : Sums} {H5 : Hp} (h : LpI H d l c tl st b names ks t lst kb lb H5) : ∀ x ∈ [b, st], ∃ kvs, H5 x = some (.dK kvs) := fun x hx => by
  rcases List.mem_cons.mp hx with e | e
  · rw [e]; exact ⟨_, h.hb⟩
  · rw [List.mem_singleton.mp e]; exact ⟨_, h.hst⟩
theorem name_new {β : Type} {R : V → β → Prop} {ks : List (Key × V)} {l : List (Str × β)} {ts : List Str} {i : Nat} {t : Str} (h : KvP R ks l) (e : l.map (·.1) = ts.take i) (nd : ts.Nodup) (ht : ts[i]? = some t) : valV ks (.inr t) = none := by
  refine h.miss fun z => ?_
  rw [e] at z
  obtain ⟨k, hk, e2⟩ := List.mem_take_iff_getElem.mp z
  obtain ⟨hi, e3⟩ := List.getElem?_eq_some_iff.mp ht
  exact (List.pairwise_iff_getElem.mp (List.nodup_iff_pairwise_ne.mp nd)) k i (by omega) hi (by omega) (e2.trans e3.symm)
/-- ahead of the value that is put -/
def PreV (d l c : Addr) : TE := fun σ H Q => ∃ (y1 y2 y5 y6 y9 y10 y12 y13 : Option V) (tl L u2 u5 e1 e2 : Addr) (names : List Str) (tt : Str) (way : Int) (t1 t2 : List Tm), σ = [some (.ref d), y1, y2, some (.int 2), some (.ref tl), y5, y6, some (.str tt), some (.int way), y9, y10, some (.ref L), y12, y13] ∧ Drw H d l c ∧ H tl = some (.lst (names.map V.str)) ∧ tl ≠ l ∧ NmOk names ∧ 0 ≤ way ∧ way < 6 ∧
  H L = some (.lst [.ref u2, .ref u2, .ref u5, .ref u5, .ref e1, .ref e2]) ∧ Is (cut d l H) (.ref u2) (sumW t1) ∧ SumOk names t1 ∧ Is (cut d l H) (.ref u5) (sumW t2) ∧ SumOk names t2 ∧
  ∀ v tms H8, Drw H8 d l c → But d l H H8 → SumR (cut d l H8) v tms → SumOk names tms → Q v H8
/-- ahead of the first values -/
def PreT (d l c : Addr) (R : TS) : TS := fun D σ H => ∃ (y1 y2 y5 y6 y7 y8 y9 y10 y11 y13 : Option V) (tl ls : Addr) (names : List Str) (tms : List Tm), σ = [some (.ref d), y1, y2, some (.int 2), some (.ref tl), y5, y6, y7, y8, y9, y10, y11, some (.ref ls), y13] ∧ Drw H d l c ∧ H tl = some (.lst (names.map V.str)) ∧ tl ≠ l ∧ tl ≠ d ∧ NmOk names ∧ Is (cut d l H) (.ref ls) (sumW tms) ∧ SumOk names tms ∧ (∀ m ∈ tms, m.2.1 ≤ 0) ∧
  ∀ ls2 tms2 H8, Drw H8 d l c → But d l H H8 → Is (cut d l H8) (.ref ls2) (sumW tms2) → SumOk names tms2 → (∀ m ∈ tms2, m.2.1 = 0) → D.nx [some (.ref d), y1, y2, some (.int 2), some (.ref tl), y5, y6, y7, y8, y9, y10, y11, some (.ref ls2), y13] H8
section
variable {P : Program} {w : World} {K : PySem.W.Frag} {mg : Str → Option Value} {base : Heap}
theorem ok_lloop {f fT fP fI fS : Addr} {fd fdT fdP fdI fdS : FuncData} (F : Fun K "_law_loop" "_law_loop" sLLoop f fd) (GT : FnOk P w K mg base CX0 2 fT fdT ["_law_draw", "_law_amount"] spTake) (kT : PySem.W.keepIn K (.ref fT) = true)
    (bT : Binds K fdT ["_law_draw", "_law_amount"] []) (gT : mg "_law_take" = some (.ref fT)) (GP : FnOk P w K mg base CX0 3 fP fdP ["_law_draw", "_law_some"] spPick) (kP : PySem.W.keepIn K (.ref fP) = true) (bP : Binds K fdP ["_law_draw", "_law_some"] []) (gP : mg "_law_pick" = some (.ref fP))
    (GI : FnOk P w K mg base CX0 4 fI fdI ["_law_draw", "_law_many"] spTitles) (kI : PySem.W.keepIn K (.ref fI) = true) (bI : Binds K fdI ["_law_draw", "_law_many"] []) (gI : mg "_law_titles" = some (.ref fI))
    (GS : FnOk P w K mg base CX0 4 fS fdS ["_law_draw", "_law_titles_here", "_law_most", "_law_highest"] spLSum) (kS : PySem.W.keepIn K (.ref fS) = true) (bS : Binds K fdS ["_law_draw", "_law_titles_here", "_law_most", "_law_highest"] []) (gS : mg "_law_sum" = some (.ref fS))
    (ms : mg "sorted" = none) (mt : mg "tuple" = none) (mm : mg "min" = none) (md : mg "dict" = none) :
    FnOk P w K mg base CX0 5 f fd ["_law_draw", "_law_sorts_here", "_law_many", "_law_highest"] spLLoop := by
  have S := scLo7
  refine F.ok S (fun vs H Q E h => ?_) (fun cdv A outer s H vs Q E hr h => ?_)
  · obtain ⟨d, l, c, so, ts, n, rfl, _⟩ := h
    rfl
  · obtain ⟨d, l, c, so, ts, n, rfl, D, hso, sl, ok, n1, n3, q⟩ := h
    have hu := hu_of hr
    have hr2 := hr.mono (show 2 ≤ 4 by decide)
    have hr3 := hr.mono (show 3 ≤ 4 by decide)
    refine ⟨_, (pss_cons (ps_par (i := 4) (j := 5) rfl S.nd rfl rfl (by decide) rfl rfl (pa_cons (pe_call GI hr (by rfl) gI kI bI .nil pass0 (pa_cons (pv 0) (pa_cons (pv 2) pa_nil))) (pa_cons pe_dnewK pa_nil)) (by rfl) (by rfl))
      (pss_cons (ps_for PassesOwn.never rfl (pi_list (pv 1)) (pg_name (i := 6) S.nd rfl (.inl rfl))
        (pss_cons (ps_dput hu (pv 5) (pv 6) pe_dnewK rfl)
        (pss_one (ps_for PassesOwn.never rfl (pi_list (pv 4)) (pg_name (i := 7) S.nd rfl (.inl rfl))
          (pss_cons (ps_par (i := 8) (j := 9) rfl S.nd rfl rfl (by decide) rfl rfl (pa_cons (pe_call GT hr2 (by rfl) gT kT bT .nil pass0 (pa_cons (pv 0) (pa_cons pe_int pa_nil))) (pa_cons (pe_tup (pa_cons (pe_tup (pa_cons (pv 7) (pa_cons pe_int (pa_cons pe_int pa_nil)))) pa_nil)) pa_nil)) (by rfl) (by rfl))
          (pss_cons (ps_set (i := 10) S.nd rfl (.inl rfl) (pe_callTy (show CallR _ (.type "tuple") (rTupA K) from call_tuple_of) (by rfl) mt (by decide +kernel) (pa_cons (pe_callB (cr_sortDp hr.units) (by rfl) ms (by decide +kernel) (pa_cons (pe_lst (pa_cons (pe_tup (pa_cons pe_str (pa_cons (pe_callB (call_min2 rfl) (by rfl) mm (by decide +kernel) (pa_cons (pv 3) (pa_cons (pe_call GT hr2 (by rfl) gT kT bT .nil pass0 (pa_cons (pv 0) (pa_cons pe_int pa_nil))) pa_nil))) (pa_cons pe_int pa_nil)))) (pa_cons (pe_tup (pa_cons (pv 7) (pa_cons pe_int (pa_cons pe_int pa_nil)))) pa_nil))) pa_nil)) pa_nil)))
          (pss_cons (ps_set (i := 11) S.nd rfl (.inl rfl) (pe_lst (pa_cons (pv 9) (pa_cons (pv 9) (pa_cons (pv 10) (pa_cons (pv 10) (pa_cons (pe_tup pa_nil) (pa_cons (pe_tup pa_nil) pa_nil))))))))
          (pss_one (ps_dput hu (pe_dget hu (pv 5) (pv 6) (fun _ _ => rfl)) (pv 7) (PE.pre (PreV d l c) (pe_ifExp (pt_cmpR op_gt (pv 8) pe_int (nomark _)) (pe_call GS hr (by rfl) gS kS bS .nil pass0 (pa_cons (pv 0) (pa_cons (pv 4) (pa_cons pe_int (pa_cons (pv 3) pa_nil))))) (pe_ix ix_list (pv 11) (pv 8) (fun _ _ => rfl))) ?wv) rfl)))))))))
      (pss_cons (ps_set (i := 12) S.nd rfl (.inl rfl) (pe_call GS hr (by rfl) gS kS bS .nil pass0 (pa_cons (pv 0) (pa_cons (pv 4) (pa_cons pe_int (pa_cons pe_int pa_nil))))))
      (pss_cons (PS.pre (PreT d l c tNext) (ps_if (PW.pt (pw_and (pt_cmpR (op_eqD hr.units) (pv 12) (pe_tup pa_nil) (nomark _)) (pw_and1 (pt_cmpR op_gt (pe_call GT hr2 (by rfl) gT kT bT .nil pass0 (pa_cons (pv 0) (pa_cons pe_int pa_nil))) pe_int (nomark _))))) (pss_one (ps_set (i := 12) S.nd rfl (.inl rfl) (pe_tup (pa_cons (pe_tup (pa_cons (pe_ix ix_list (pv 4) (pe_un un_neg pe_int) (fun _ _ => rfl)) (pa_cons pe_int (pa_cons pe_int pa_nil)))) pa_nil)))) pss_nil) ?wi)
      (pss_cons (ps_set (i := 13) S.nd rfl (.inl rfl) (pe_callTy (call_dictP rfl) (by rfl) md (by decide +kernel) (pa_cons (pe_lc (own := [("_law_title", 7)]) (g := gName 7) rfl S.nd (pi_list (pv 4)) (blkOk_by (N := NLo7) (sc := defScope sLLoop) (by decide +kernel)) (fun _ _ _ _ _ => (pg_name (i := 7) S.nd rfl (.inl rfl))) (fun _ _ _ _ _ => pts_nil) (fun _ _ _ _ _ => (pe_tup (pa_cons (pv 7) (pa_cons (pe_call GP hr3 (by rfl) gP kP bP .nil pass0 (pa_cons (pv 0) (pa_cons (pe_lst (pa_cons pe_int (pa_cons pe_int (pa_cons pe_int (pa_cons pe_int (pa_cons pe_int (pa_cons (pe_un un_neg pe_int) (pa_cons pe_int pa_nil)))))))) pa_nil))) pa_nil))))) pa_nil)))
      (pss_one (ps_ret (pe_disp (pps_cons pe_str (pv 13) (pps_cons pe_str (pv 5) (pps_cons pe_str (pv 12) pps_nil))) rfl rfl (by decide) (by decide))))))))), ?_⟩
    case wv =>
      rintro σ H Q ⟨y1, y2, y5, y6, y9, y10, y12, y13, tl, L, u2, u5, e1, e2, names, tt, way, t1, t2, rfl, D, htl, nl, nm, w0, w6, hL, i1, o1, i2, o2, q⟩
      refine ⟨_, rfl, way, 3, rfl, rfl, decide (way > 3), rfl, ?_⟩
      by_cases big : way > 3
      · rw [decide_eq_true big]
        have n3 := nm.n3
        exact iteT ⟨_, rfl, _, rfl, _, rfl, d, l, c, tl, names, 3, 2, rfl, D, htl, nl, by omega, nm.sm, by decide, by decide, by decide, by decide, fun t tms H' D' B' hi so _ => q _ tms H' D' B' ⟨t, rfl, hi⟩ so⟩
      · rw [decide_eq_false big]
        refine iteF ⟨_, rfl, _, rfl, L, [.ref u2, .ref u2, .ref u5, .ref u5, .ref e1, .ref e2], way, ?_⟩
        rcases (show way = 0 ∨ way = 1 ∨ way = 2 ∨ way = 3 by omega) with rfl | rfl | rfl | rfl
        · exact ⟨_, rfl, rfl, SqL.of hL, rfl, q _ t1 H D But.refl ⟨u2, rfl, i1⟩ o1⟩
        · exact ⟨_, rfl, rfl, SqL.of hL, rfl, q _ t1 H D But.refl ⟨u2, rfl, i1⟩ o1⟩
        · exact ⟨_, rfl, rfl, SqL.of hL, rfl, q _ t2 H D But.refl ⟨u5, rfl, i2⟩ o2⟩
        · exact ⟨_, rfl, rfl, SqL.of hL, rfl, q _ t2 H D But.refl ⟨u5, rfl, i2⟩ o2⟩
    case wi =>
      rintro D2 σ H ⟨y1, y2, y5, y6, y7, y8, y9, y10, y11, y13, tl, ls, names, tms, rfl, D, htl, nl, nd, nm, hls, sok, le, q⟩
      have shp : SeqAt.shaped (sumD tms) = true := sum_shaped (is_strs hls)
      refine ⟨_, rfl, by show 0 ≤ sizeLine; decide, fun e0 ne0 => ⟨sumD tms, .tuple [], dp_sum ((hls.same cut_le).same (same_new ne0)), .tup (.inl (.inl upd_same)) .nil, shp, rfl, _, rfl, ?_⟩⟩
      have D0 := D.new (o := .tup []) ne0
      have B0 : But d l H (upd H e0 (.tup [])) := But.new ne0
      have stay : ∀ {H8 : Hp}, tms ≠ [] ∨ True → Drw H8 d l c → But d l H H8 → tNext D2 [some (.ref d), y1, y2, some (.int 2), some (.ref tl), y5, y6, y7, y8, y9, y10, y11, some (.ref ls), y13] H8 := fun {H8} _ D8 B8 =>
        q ls tms H8 D8 B8 (hls.same B8.cut) sok fun m hm => by
          have := (sok.t m hm).2.1
          have := le m hm
          omega
      generalize upd H e0 (.tup []) = H0 at D0 B0 ⊢
      cases PyData.eqv (sumD tms) (.tuple []) with
      | false => exact iteF (iteF (stay (.inr trivial) D0 B0))
      | true =>
        refine iteT ⟨_, rfl, d, l, c, 4, rfl, D0, by decide, by decide, fun k H1 k0 k1 D1 B1 => ⟨k, 0, rfl, rfl, _, rfl, ?_⟩⟩
        cases decide (k > 0) with
        | false => exact iteF (stay (.inr trivial) D1 (B0.trans B1))
        | true =>
          have ne : names ≠ [] := fun z => by
            have := nm.n1
            rw [z] at this
            exact absurd this (by decide)
          have e : names.map V.str = names.dropLast.map V.str ++ [V.str (names.getLast ne)] := by
            conv => lhs; rw [← List.dropLast_concat_getLast ne]
            rw [List.map_append]
            rfl
          have htl1 := B1 _ _ (B0 _ _ htl nd nl) nd nl
          rw [e] at htl1
          have mem : names.getLast ne ∈ names := List.getLast_mem ne
          refine iteT ⟨_, rfl, _, rfl, tl, _, -1, V.str (names.getLast ne), rfl, rfl, SqL.of htl1, atI_last _ _, by show 3 ≤ sizeLine; decide, fun a na => ⟨by show 1 ≤ sizeLine; decide, fun a2 na2 => ?_⟩⟩
          have s3 : Same H1 (upd (upd H1 a (.tup [.str (names.getLast ne), .int 0, .int 1])) a2 (.tup [.ref a])) := (same_new na).trans (same_new na2)
          have D3 := (D1.new (o := .tup [.str (names.getLast ne), .int 0, .int 1]) na).new (o := .tup [.ref a]) na2
          have h1 : (upd (upd H1 a (.tup [.str (names.getLast ne), .int 0, .int 1])) a2 (.tup [.ref a])) a = some (.tup [.str (names.getLast ne), .int 0, .int 1]) := by
            rw [upd_ne (ne_of_none upd_same na2), upd_same]
          exact q a2 [(names.getLast ne, 0, 1)] _ D3 ((B0.trans B1).trans (But.of s3)) (is_sum1 (cut_tup D3 upd_same) (cut_tup D3 h1) (nm.sm _ mem)) (stay_ok mem) fun m hm => by rw [List.mem_singleton.mp hm]
    have sod : so ≠ d := fun z => by
      obtain ⟨⟨r, t, e⟩, _, _, _⟩ := D
      rw [z, e] at hso
      cases hso
    obtain ⟨nn, rfl⟩ : ∃ nn : Nat, n = (nn : Int) := ⟨n.toNat, by omega⟩
    refine ⟨_, rfl, _, rfl, d, l, c, nn, rfl, D, by omega, fun tl names H1 tis tlen D1 B1 ntl htl => ?_⟩
    have nm : NmOk names := ⟨tis, by omega, by omega⟩
    have offT := D.off ntl
    refine fun st nst => ⟨_, _, rfl, ?_⟩
    have nstH : H st = none := B1.back D1 nst
    have offS := D.off nstH
    have htl2 : (upd H1 st (.dK [])) tl = some (.lst (names.map V.str)) := by
      rw [upd_ne (ne_of_none htl nst)]
      exact htl
    have hst2 : (upd H1 st (.dK [])) st = some (.dK []) := upd_same
    have D2 := D1.new (o := .dK []) nst
    have B2 : But d l H (upd H1 st (.dK [])) := B1.trans (But.new nst)
    generalize upd H1 st (.dK []) = H2 at htl2 hst2 D2 B2 ⊢
    refine ⟨_, rfl, so, rfl, ⟨_, SqL.of (B2 _ _ hso sod sl)⟩, for_list (xs := ts.map V.str) (fun i σ H3 => ∃ y6 y7 y8 y9 y10 y11 ks lst, σ = [some (.ref d), some (.ref so), some (.int nn), some (.int 2), some (.ref tl), some (.ref st), y6, y7, y8, y9, y10, y11, none, none] ∧ Drw H3 d l c ∧ But d l H H3 ∧
        H3 tl = some (.lst (names.map V.str)) ∧ H3 st = some (.dK ks) ∧ KvP (StpR (rest d l [st] H3)) ks lst ∧ lst.map (·.1) = ts.take i ∧ ∀ p ∈ lst, p.2.map (·.1) = names ∧ ∀ q ∈ p.2, SumOk names q.2)
      ⟨_, _, _, _, _, _, [], [], rfl, D2, B2, htl2, hst2, .nil, rfl, fun p hp => by cases hp⟩ (fun i σ H3 _ ⟨_, _, _, _, _, _, _, _, _, _, B3, _⟩ => SqL.of (B3 _ _ hso sod sl)) ?_ ?_⟩
    · rintro i x σ H3 hx ⟨y6, y7, y8, y9, y10, y11, ks, lst, rfl, D3, B3, htl3, hst3, hk, hn, hok⟩
      obtain ⟨t, ht, rfl⟩ : ∃ t, ts[i]? = some t ∧ x = V.str t := by
        rw [List.getElem?_map] at hx
        obtain ⟨t, e1, e2⟩ := Option.map_eq_some_iff.mp hx
        exact ⟨t, e1, e2.symm⟩
      have new1 := name_new hk hn ok.ti.nd ht
      have lks : ks.length ≤ 3 := by
        have z := congrArg List.length hn
        rw [List.length_map, List.length_take] at z
        have := hk.len
        have := ok.n3
        omega
      refine fun b nb => ⟨_, rfl, _, rfl, st, _, rfl, DPut.k (k := .inr t) (by rw [upd_ne (ne_of_none hst3 nb)]; exact hst3) (small1000 (by omega)), ?_⟩
      rw [putK_new _ new1]
      have nbH : H b = none := B3.back D3 nb
      have offB := D.off nbH
      have nebs : b ≠ st := fun z => by rw [z, hst3] at nb; cases nb
      have tle : ∀ {x : Addr} {kvs : List (Key × V)}, H3 x = some (.dK kvs) → tl ≠ x := fun e z => by rw [z, e] at htl3; cases htl3
      have J4 : LpI H d l c tl st b names ks t lst [] [] (upd (upd H3 b (.dK [])) st (.dK (ks ++ [(.inr t, .ref b)]))) := by
        have s4 : Same (rest d l [st] H3) (rest d l [b, st] (upd (upd H3 b (.dK [])) st (.dK (ks ++ [(.inr t, .ref b)])))) := (rest_new nb).trans (rest_upd (List.mem_cons_of_mem _ (List.mem_cons_self ..)))
        refine ⟨(D3.new nb).own D nstH, (B3.trans (But.new nb)).own nstH, ?_, upd_same, ?_, hk.mono fun _ _ r => r.same s4, .nil, offT, offS, offB⟩
        · rw [upd_ne (tle hst3), upd_ne (ne_of_none htl3 nb)]
          exact htl3
        · rw [upd_ne nebs, upd_same]
      generalize upd (upd H3 b (.dK [])) st (.dK (ks ++ [(.inr t, .ref b)])) = H4 at J4 ⊢
      refine ⟨_, rfl, tl, rfl, ⟨_, SqL.of J4.htl⟩, for_list (xs := names.map V.str) (fun j σ H5 => ∃ y7 y8 y9 y10 y11 kb lb, σ = [some (.ref d), some (.ref so), some (.int nn), some (.int 2), some (.ref tl), some (.ref st), some (.str t), y7, y8, y9, y10, y11, none, none] ∧ LpI H d l c tl st b names ks t lst kb lb H5 ∧ lb.map (·.1) = names.take j ∧ ∀ q ∈ lb, SumOk names q.2)
        ⟨_, _, _, _, _, [], [], rfl, J4, rfl, fun p hp => by cases hp⟩ (fun j σ H5 _ ⟨_, _, _, _, _, _, _, _, J, _⟩ => SqL.of J.htl) ?_ ?_⟩
      · rintro j x σ H5 hx ⟨y7, y8, y9, y10, y11, kb, lb, rfl, J, hnb, hob⟩
        obtain ⟨tt, htt, rfl⟩ : ∃ tt, names[j]? = some tt ∧ x = V.str tt := by
          rw [List.getElem?_map] at hx
          obtain ⟨t, e1, e2⟩ := Option.map_eq_some_iff.mp hx
          exact ⟨t, e1, e2.symm⟩
        have mem := List.mem_of_getElem? htt
        have memT := tis.inT tt mem
        have smt := nm.sm tt mem
        have new2 := name_new J.k2 hnb tis.nd htt
        have lkb : kb.length ≤ 3 := by
          have z := congrArg List.length hnb
          rw [List.length_map, List.length_take] at z
          have := J.k2.len
          have := nm.n3
          omega
        -- the way, and what stays
        refine ⟨_, rfl, d, l, c, 6, rfl, J.D, by decide, by decide, fun way H6 w0 w6 D6 B6 => ⟨_, rfl, by show 3 ≤ sizeLine; decide, fun u1 nu1 => ⟨by show 1 ≤ sizeLine; decide, fun u2 nu2 => ⟨_, _, rfl, ?_⟩⟩⟩⟩
        have J7 := ((J.go D6 B6).new (o := .tup [.str tt, .int 0, .int 1]) nu1).new (o := .tup [.ref u1]) nu2
        have h1 : (upd (upd H6 u1 (.tup [.str tt, .int 0, .int 1])) u2 (.tup [.ref u1])) u1 = some (.tup [.str tt, .int 0, .int 1]) := by
          rw [upd_ne (ne_of_none upd_same nu2), upd_same]
        have i1 := is_sum1 (cut_tup J7.D upd_same) (cut_tup J7.D h1) smt
        generalize upd (upd H6 u1 (.tup [.str tt, .int 0, .int 1])) u2 (.tup [.ref u1]) = H7 at J7 i1 ⊢
        -- and one more
        refine ⟨_, rfl, _, rfl, d, l, c, 2, rfl, J7.D, by decide, by decide, fun p H8 p0 p1 D8 B8 => ⟨2, p, rfl, ?_⟩⟩
        have ep : (if p < 2 then p else 2) = p := if_pos p1
        rw [ep]
        refine ⟨by show 3 ≤ sizeLine; decide, fun u3 nu3 => ⟨_, rfl, by show 3 ≤ sizeLine; decide, fun u4 nu4 => ⟨by show 2 ≤ sizeLine; decide, fun L1 nL1 => ?_⟩⟩⟩
        have J9 := ((J7.go D8 B8).new (o := .tup [.str "", .int p, .int 1]) nu3).new (o := .tup [.str tt, .int 0, .int 1]) nu4
        have h3 : (upd (upd H8 u3 (.tup [.str "", .int p, .int 1])) u4 (.tup [.str tt, .int 0, .int 1])) u3 = some (.tup [.str "", .int p, .int 1]) := by
          rw [upd_ne (ne_of_none upd_same nu4), upd_same]
        have h4 : (upd (upd H8 u3 (.tup [.str "", .int p, .int 1])) u4 (.tup [.str tt, .int 0, .int 1])) u4 = some (.tup [.str tt, .int 0, .int 1]) := upd_same
        have B89 : But d l H8 (upd (upd H8 u3 (.tup [.str "", .int p, .int 1])) u4 (.tup [.str tt, .int 0, .int 1])) := (But.new nu3).trans (But.new nu4)
        have i1 := i1.same (B8.cut.trans B89.cut)
        generalize upd (upd H8 u3 (.tup [.str "", .int p, .int 1])) u4 (.tup [.str tt, .int 0, .int 1]) = H9 at J9 h3 h4 i1 nL1 ⊢
        have pin : p ∈ ([0, 1] : List Int) := by
          simp only [List.mem_cons, List.not_mem_nil, or_false]
          omega
        have s10 : Same H9 (upd H9 L1 (.lst [.ref u3, .ref u4])) := same_new nL1
        have h3' := s10 _ _ h3
        have h4' := s10 _ _ h4
        refine ⟨L1, [(.ref u3, tmD ("", p, 1)), (.ref u4, tmD (tt, 0, 1))], rfl, SqL.of upd_same, .cons (.tup (.inl (.inl h3')) (.cons (.str _) (.cons (.int _) (.cons (.int _) .nil)))) (.cons (.tup (.inl (.inl h4')) (.cons (.str _) (.cons (.int _) (.cons (.int _) .nil)))) .nil), ?_, .inl ?_, ?_, fun S1 nS1 => ?_⟩
        · intro a ha b hb
          simp only [List.map_cons, List.map_nil, List.mem_cons, List.not_mem_nil, or_false] at ha hb
          rcases ha with rfl | rfl <;> rcases hb with rfl | rfl <;> kernel_rfl
        · intro a ha
          simp only [List.map_cons, List.map_nil, List.mem_cons, List.not_mem_nil, or_false] at ha
          rcases ha with rfl | rfl <;> exact ⟨_, _, rfl⟩
        · intro b hb
          simp only [List.mem_cons, List.not_mem_nil, or_false] at hb
          rcases hb with rfl | rfl <;> exact Nat.le_trans (Nat.le_of_eq (depth_tm _)) (by decide)
        rw [ms_two (enc := fun x : V × PyData => x.2) (ti_lt tt memT p pin).2]
        have J11 := (J9.new (o := .lst [.ref u3, .ref u4]) nL1).new (o := .lst [.ref u3, .ref u4]) nS1
        have s11 : Same H9 (upd (upd H9 L1 (.lst [.ref u3, .ref u4])) S1 (.lst [.ref u3, .ref u4])) := s10.trans (same_new nS1)
        refine ⟨S1, _, rfl, .inl ⟨SqL.of upd_same, fun u5 nu5 => ?_⟩⟩
        have J12 := J11.new (o := .tup [.ref u3, .ref u4]) nu5
        have s12 : Same H9 (upd (upd (upd H9 L1 (.lst [.ref u3, .ref u4])) S1 (.lst [.ref u3, .ref u4])) u5 (.tup [.ref u3, .ref u4])) := s11.trans (same_new nu5)
        have i2 := is_sum2 (cut_tup J12.D upd_same) (cut_tup J12.D (s12 _ _ h3)) (cut_tup J12.D (s12 _ _ h4)) (show ("" : Str).cps.size ≤ 900 ∧ PyData.strOk "" = true from ⟨by decide, by decide +kernel⟩) smt
        have i1 := i1.same (But.of (d := d) (l := l) s12).cut
        show tSeq _ _ _ _ (upd (upd (upd H9 L1 (.lst [.ref u3, .ref u4])) S1 (.lst [.ref u3, .ref u4])) u5 (.tup [.ref u3, .ref u4]))
        generalize upd (upd (upd H9 L1 (.lst [.ref u3, .ref u4])) S1 (.lst [.ref u3, .ref u4])) u5 (.tup [.ref u3, .ref u4]) = H12 at J12 i1 i2 ⊢
        -- all of them
        refine ⟨_, rfl, _, rfl, _, rfl, _, rfl, by show 0 ≤ sizeLine; decide, fun e1 ne1 => ⟨by show 0 ≤ sizeLine; decide, fun e2 ne2 => ⟨by show 6 ≤ sizeLine; decide, fun L2 nL2 => ?_⟩⟩⟩
        have J13 := ((J12.new (o := .tup []) ne1).new (o := .tup []) ne2).new (o := .lst [.ref u2, .ref u2, .ref u5, .ref u5, .ref e1, .ref e2]) nL2
        have s13 : Same H12 (upd (upd (upd H12 e1 (.tup [])) e2 (.tup [])) L2 (.lst [.ref u2, .ref u2, .ref u5, .ref u5, .ref e1, .ref e2])) := ((same_new ne1).trans (same_new ne2)).trans (same_new nL2)
        have hL2 : (upd (upd (upd H12 e1 (.tup [])) e2 (.tup [])) L2 (.lst [.ref u2, .ref u2, .ref u5, .ref u5, .ref e1, .ref e2])) L2 = some (.lst [.ref u2, .ref u2, .ref u5, .ref u5, .ref e1, .ref e2]) := upd_same
        have i1 := i1.same (But.of (d := d) (l := l) s13).cut
        have i2 := i2.same (But.of (d := d) (l := l) s13).cut
        generalize upd (upd (upd H12 e1 (.tup [])) e2 (.tup [])) L2 (.lst [.ref u2, .ref u2, .ref u5, .ref u5, .ref e1, .ref e2]) = H13 at J13 i1 i2 hL2 ⊢
        refine ⟨_, _, _, _, _, _, _, _, tl, L2, u2, u5, e1, e2, names, tt, way, _, _, rfl, J13.D, J13.htl, offT.2, nm, w0, w6, hL2, i1, stay_ok mem, i2, plus_ok mem memT pin, fun v tms H14 D14 B14 hv hok2 => ?_⟩
        have J14 := J13.go D14 B14
        have dg : valV (ks ++ [(.inr t, .ref b)]) (.inr t) = some (.ref b) := by
          have e := putK_new (.ref b) new1
          rw [← e, valV_put, if_pos rfl]
        refine ⟨_, rfl, _, rfl, st, _, rfl, dg ▸ DGet.k (k := Sum.inr t) J14.hst, _, rfl, b, _, rfl, DPut.k (k := .inr tt) J14.hb (small1000 (by omega)), ?_⟩
        rw [putK_new _ new2]
        have tk : names.take (j + 1) = names.take j ++ [tt] := by rw [List.take_add_one, htt]; rfl
        have sU : ∀ o, Same (rest d l [b, st] H14) (rest d l [b, st] (upd H14 b o)) := fun o => rest_upd (List.mem_cons_self ..)
        have hvR : SumR (rest d l [b, st] H14) v tms := by
          obtain ⟨a, rfl, hv⟩ := hv
          exact ⟨a, rfl, sum_rest J14.dicts hv⟩
        refine ⟨_, _, _, _, _, kb ++ [(.inr tt, v)], lb ++ [(tt, tms)], rfl, ⟨J14.D.own D nbH, J14.B.own nbH, ?_, ?_, upd_same, J14.k1.mono fun _ _ r => r.same (sU _), KvP.snoc (J14.k2.mono fun _ _ r => r.same (sU _)) (hvR.same (sU _)), offT, offS, offB⟩, ?_, fun p hp => ?_⟩
        · rw [upd_ne fun z => by have e := J14.htl; rw [z, J14.hb] at e; cases e]
          exact J14.htl
        · rw [upd_ne nebs.symm]
          exact J14.hst
        · rw [List.map_append, hnb, tk]
          rfl
        · rcases List.mem_append.mp hp with z | z
          · exact hob p z
          · rw [List.mem_singleton.mp z]
            exact hok2
      · rintro σ H5 ⟨y7, y8, y9, y10, y11, kb, lb, rfl, J, hnb, hob⟩
        rw [List.length_map, ← List.length_map (f := fun x : Str => x), List.map_id', List.take_length] at hnb
        have tk : ts.take (i + 1) = ts.take i ++ [t] := by rw [List.take_add_one, ht]; rfl
        have nstb : b ∉ [st] := fun z => nebs (List.mem_singleton.mp z)
        refine ⟨_, _, _, _, _, _, ks ++ [(.inr t, .ref b)], lst ++ [(t, lb)], rfl, J.D, J.B, J.htl, J.hst, KvP.snoc (J.k1.mono fun _ _ r => r.same rest_drop) ⟨b, rfl, kb, rest_at J.hb offB.1 offB.2 nstb, J.k2.mono fun _ _ r => r.same rest_drop⟩, ?_, fun p hp => ?_⟩
        · rw [List.map_append, hn, tk]
          rfl
        · rcases List.mem_append.mp hp with z | z
          · exact hok p z
          · rw [List.mem_singleton.mp z]
            exact ⟨hnb, hob⟩
    · rintro σ H3 ⟨y6, y7, y8, y9, y10, y11, ks, lst, rfl, D3, B3, htl3, hst3, hk, hn, hok⟩
      rw [List.length_map, List.take_length] at hn
      refine ⟨_, rfl, _, rfl, d, l, c, tl, names, 2, 0, rfl, D3, htl3, offT.2, by have := nm.n3; omega, nm.sm, by decide, by decide, by decide, by decide, fun ls0 tms0 H4 D4 B4 hls0 sok0 hle => ?_⟩
      have htl4 := B4 _ _ htl3 offT.1 offT.2
      have hst4 := B4 _ _ hst3 offS.1 offS.2
      have hk4 := hk.mono fun _ _ r => StpR.same r (rest_but (L := [st]) B4)
      have B04 := B3.trans B4
      refine ⟨_, _, _, _, _, _, _, _, _, _, tl, ls0, names, tms0, rfl, D4, htl4, offT.2, offT.1, nm, hls0, sok0, hle, fun ls tms H5 D5 B5 hls sok pw0 => ?_⟩
      have htl5 := B5 _ _ htl4 offT.1 offT.2
      have hst5 := B5 _ _ hst4 offS.1 offS.2
      have hk5 := hk4.mono fun _ _ r => StpR.same r (rest_but (L := [st]) B5)
      have B05 := B04.trans B5
      clear htl4 hst4 hk4 B04 htl3 hst3 hk B3 B4 D4 D3 hls0
      -- the first values
      refine ⟨_, rfl, tl, rfl, ⟨_, SqL.of htl5⟩, fun Dl nDl => lc_it (D := Dl) walk_list (fun i H' => Drw H' d l c ∧ But d l H5 H' ∧ ∃ (as : List Addr) (vs : List (Str × Int)), H' Dl = some (.lst (as.map V.ref)) ∧ Paired (fun a (p : Str × Int) => H' a = some (.tup [.str p.1, .int p.2])) as vs ∧ vs.map (·.1) = names.take i ∧ ∀ p ∈ vs, -99 ≤ p.2 ∧ p.2 ≤ 99)
        ⟨D5.new nDl, But.new nDl, [], [], upd_same, .nil, rfl, fun p hp => by cases hp⟩ (fun i H' _ z => SqL.of (z.2.1 _ _ htl5 offT.1 offT.2)) ?_ ?_⟩
      · rintro i x H6 H7 hi ⟨D6, B6, as, vs, hD, hpr, hvn, hvr⟩ ⟨rfl, hx⟩
        rw [List.getElem?_map] at hx
        obtain ⟨tt, htt, rfl⟩ := Option.map_eq_some_iff.mp hx
        have nDH : H Dl = none := B05.back D5 nDl
        have offD := D.off nDH
        refine ⟨rfl, ?_⟩
        dsimp only [tYes]
        rw [if_pos rfl]
        refine ⟨_, rfl, _, rfl, _, rfl, by show 7 ≤ sizeLine; decide, fun e ne => pick_new D6 (by show 0 < 7; decide) (by show 7 ≤ 1000; decide) (fun y H8 hy D8 B8 => ?_) ne⟩
        obtain ⟨k, rfl, k0, k1⟩ : ∃ k : Int, y = V.int k ∧ -99 ≤ k ∧ k ≤ 99 := by
          simp only [List.mem_cons, List.not_mem_nil, or_false] at hy
          rcases hy with z | z | z | z | z | z | z <;> exact ⟨_, z, by decide, by decide⟩
        refine ⟨by show 2 ≤ sizeLine; decide, fun u nu => ?_⟩
        have hD8 := B8 _ _ hD offD.1 offD.2
        have hpr8 := paired_mono (fun a p h => B8.tup D6 h) hpr
        have hD9 : (upd H8 u (.tup [.str tt, .int k])) Dl = some (.lst (as.map V.ref)) := by
          rw [upd_ne (ne_of_none hD8 nu)]
          exact hD8
        have neu : u ≠ Dl := fun z => by
          rw [z, hD8] at nu
          cases nu
        have la := paired_len hpr
        have lv := congrArg List.length hvn
        rw [List.length_map, List.length_take] at lv
        have := nm.n3
        have tk : names.take (i + 1) = names.take i ++ [tt] := by rw [List.take_add_one, htt]; rfl
        refine ⟨_, hD9, by rw [List.length_map]; exact small1000 (by omega), ?_, ?_, as ++ [u], vs ++ [(tt, k)], by rw [upd_same, List.map_append]; rfl, ?_, ?_, fun p hp => ?_⟩
        · exact (D8.new nu).own D5 nDl
        · exact ((B6.trans B8).trans (But.new nu)).own nDl
        · refine paired_snoc ?_ (paired_mono (fun a p h => ?_) hpr8)
          · show upd (upd H8 u _) Dl _ u = _
            rw [upd_ne neu, upd_same]
          · have n1 : a ≠ u := ne_of_none h nu
            have n2 : a ≠ Dl := fun z => by
              rw [z, hD8] at h
              cases h
            show upd (upd H8 u _) Dl _ a = _
            rw [upd_ne n2, upd_ne n1]
            exact h
        · rw [List.map_append, hvn, tk]
          rfl
        · rcases List.mem_append.mp hp with z | z
          · exact hvr p z
          · rw [List.mem_singleton.mp z]
            exact ⟨k0, k1⟩
      · rintro H6 ⟨D6, B6, as, vs, hD, hpr, hvn, hvr⟩
        rw [List.length_map, List.take_length] at hvn
        have hst6 := B6 _ _ hst5 offS.1 offS.2
        have hk6 := hk5.mono fun _ _ r => StpR.same r (rest_but (L := [st]) B6)
        have hls6 := hls.same B6.cut
        have B06 := B05.trans B6
        let kvs : List (Key × V) := vs.map fun p => (Sum.inr p.1, V.int p.2)
        have hkv : KvP IntR kvs vs := kvp_map (fun i => V.int i) vs
        have hpr2 : Paired (fun a kv => H6 a = some (.tup [kV kv.1, kv.2])) as kvs := by
          exact pair_kvs hpr
        refine ⟨Dl, as, kvs, rfl, SqL.of hD, paired_kv hpr2, fun h0 nh0 => ?_⟩
        have ndk : (kvs.map (·.1)).Nodup := by
          rw [hkv.keys, hvn]
          exact List.pairwise_map.mpr (nm.ti.nd.imp fun h z => h (Sum.inr.inj z))
        rw [mergeK_nodup (by rw [List.nil_append]; exact ndk), List.nil_append]
        have s7 : Same H6 (upd H6 h0 (.dK kvs)) := same_new nh0
        have hh0 : (upd H6 h0 (.dK kvs)) h0 = some (.dK kvs) := upd_same
        have D7 := D6.new (o := .dK kvs) nh0
        have nhH := B06.back D6 nh0
        have offH := D.off nhH
        generalize upd H6 h0 (.dK kvs) = H7 at s7 hh0 D7 ⊢
        have B07 : But d l H H7 := B06.trans (But.of s7)
        -- the dict
        refine fun td ntd => ?_
        have ntH := B07.back D7 ntd
        have offTd := D.off ntH
        refine ⟨_, rfl, _, rfl, _, rfl, upd_same, [(.inr "start", .ref h0), (.inr "steps", .ref st), (.inr "last", .ref ls)], rfl, by show 3 ≤ 15; decide, ?_⟩
        rw [upd_upd]
        have em : mergeK [] [((.inr "start" : Key), V.ref h0), (.inr "steps", .ref st), (.inr "last", .ref ls)] = [((.inr "start" : Key), V.ref h0), (.inr "steps", .ref st), (.inr "last", .ref ls)] := by kernel_rfl
        rw [em]
        have s8 : Same H7 (upd H7 td (.dK [(.inr "start", .ref h0), (.inr "steps", .ref st), (.inr "last", .ref ls)])) := same_new ntd
        have htd : (upd H7 td (.dK [(.inr "start", .ref h0), (.inr "steps", .ref st), (.inr "last", .ref ls)])) td = some (.dK [(.inr "start", .ref h0), (.inr "steps", .ref st), (.inr "last", .ref ls)]) := upd_same
        have D8 := D7.new (o := .dK [(.inr "start", .ref h0), (.inr "steps", .ref st), (.inr "last", .ref ls)]) ntd
        generalize upd H7 td (.dK [(.inr "start", .ref h0), (.inr "steps", .ref st), (.inr "last", .ref ls)]) = H8 at s8 htd D8 ⊢
        have B68 : But d l H6 H8 := But.of (s7.trans s8)
        have nms : ({ start := vs, steps := lst, last := tms } : Lm).names = names := hvn
        refine q td { start := vs, steps := lst, last := tms } H8 D8 (B06.trans B68) ntH ⟨h0, st, ls, cut_at htd offTd.1 offTd.2, ⟨kvs, cut_at (s8 _ _ hh0) offH.1 offH.2, hkv⟩, ⟨ks, cut_at (B68 _ _ hst6 offS.1 offS.2) offS.1 offS.2, hk6.mono fun _ _ r => (StpR.same r (rest_but (L := [st]) B68)).same rest_cut⟩, hls6.same B68.cut⟩
          ⟨by rw [nms]; exact nm, hvr, by show NmOk (lst.map (·.1)); rw [hn]; exact ok, fun p hp => by rw [nms]; exact hok p hp, by rw [nms]; exact sok, pw0⟩ hn
end
end Kn
-- part SLam
set_option maxHeartbeats 2000000
/-! A lambda kept as a value; called later, through a def, in a comprehension of the same frame. -/
namespace HLam
open PySem PySem.Spec PyProof.Rows L2 LamX
/-- the lambda at f: its text, what it captured, its code object -/
structure LD where
  qual : Str
  params : Arguments
  body : Expr
  scope : Scope
  cl : List (Str × Addr)
  c : Addr
def LamO (f : Addr) (D : LD) : HO := .ext fun h => ∃ pm ctv : Value, h.get? f = some (PySem.W.kla_obj "<lambda>" D.qual D.params D.body D.scope D.cl pm D.c ctv)
theorem lamO_ne {f : Addr} {D : LD} (ps : Array Value) : LamO f D ≠ .tbl ps := fun z => by
  unfold LamO at z
  cases z
def ldOf (X : Cx) (params : Arguments) (body : Expr) (scope : Scope) (c : Addr) : LD := ⟨X.env.qual ++ "<lambda>", params, body, scope, cloFrom X.env.cells scope.names [], c⟩
section
variable {X : Cx} {pins : List (Addr × Obj)} {σ : L2.St} {H : Hp} {s : Shared}
/-- made: from then on known -/
theorem lam_known {D : LD} {h' : Heap} {tk : Nat} {pm ctv : Value} (I : Inv X pins σ H { s with heap := h', toks := tk }) :
    Inv X pins σ (upd H h'.objs.size (LamO h'.objs.size D)) { s with heap := h'.push (PySem.W.kla_obj "<lambda>" D.qual D.params D.body D.scope D.cl pm D.c ctv), toks := tk } := by
  have at_ : (h'.push (PySem.W.kla_obj "<lambda>" D.qual D.params D.body D.scope D.cl pm D.c ctv)).get? h'.objs.size = some (PySem.W.kla_obj "<lambda>" D.qual D.params D.body D.scope D.cl pm D.c ctv) := Heap.get?_push_size _ rfl
  exact I.laid (a := h'.objs.size) (t' := tk) (fun b u e => Heap.get?_push_of_some _ e) (Nat.le_refl _)
    ⟨⟨pm, ctv, at_⟩, ⟨_, at_⟩, fun h1 h2 q st => by
      obtain ⟨p2, t2, q⟩ := q
      exact ⟨p2, t2, st _ q⟩⟩
theorem upd_none {H : Hp} {a b : Addr} {o : HO} (e : upd H a o b = none) : H b = none := by
  by_cases z : b = a
  · rw [z, upd_same] at e
    cases e
  · rw [upd_ne z] at e
    exact e
/-- what a lambda's making gives -/
def tKept (T : List (Addr × Str)) (X : Cx) (params : Arguments) (body : Expr) (scope : Scope) : TE := fun _ H Q =>
  Tabs T H ∧ ∀ (f c' : Addr) (H1 : Hp), ExtN H H1 → Tabs T H1 → (∀ b, H1 b = none → H b = none) → H f = none →
    H1 f = some (LamO f (ldOf X params body scope c')) → H1 c' = some (CodeO c' (X.env.qual ++ "<lambda>")) → Q (.ref f) H1
theorem pe_lamkept {T : List (Addr × Str)} {c P : Addr} {params : Arguments} {body : Expr} {scope : Scope} {pos : Pos} (TB : TabB X.base X.mg c P) (hcode : X.env.code = .ref c) (hm : (P, X.env.qual ++ "<lambda>") ∈ T)
    (hu : ∀ p ∈ T, p.1 = P → p.2 = X.env.qual ++ "<lambda>") (L : LamS X.env.scope scope) (hdef : defaultsOf params X.env = ([], [])) : PE X (.Lambda params body scope pos) (tKept T X params body scope) := by
  constructor
  intro pins s σ H Q I w
  obtain ⟨hT, w⟩ := w
  obtain ⟨ps, hP, tri, amo⟩ := hT _ hm
  have objP : s.heap.get? P = some { cls := .none, data := .fields ps } := I.hok P _ hP
  have bP := TB.bm.keeps I.bk
  have free := closure_ok (L.has I.ok)
  apply PySem.W.kla_eval hdef
  cases hca : codeAmong pos ps.toList with
  | some cv =>
    obtain ⟨c', rfl, hc'⟩ := amo pos cv hca
    apply PySem.W.kla_makeFunctionHit (c := c) (mg := X.mg) (P := P) (ps := ps) free I.ok.glob (I.mod.glob.keeps I.bk) hcode (TB.code.keeps I.bk) objP tri hca bP
    intro ctv h' tk ext le
    have J : Inv X pins σ H { s with heap := h', toks := tk } := I.kept ext
    have nf : H h'.objs.size = none := I.hok.fresh le
    have J2 := lam_known (D := ldOf X params body scope c') (pm := (X.mg "__name__").getD .none) (ctv := ctv) J
    have B : ∀ b o, H b = some o → upd H h'.objs.size (LamO h'.objs.size (ldOf X params body scope c')) b = some o := fun b o e => by
      rw [upd_ne (ne_of_none e nf)]
      exact e
    exact ⟨.ref h'.objs.size, _, J2, rfl, w h'.objs.size c' _ (ExtN.of B) (hT.ext B) (fun b e => upd_none e) nf upd_same (B _ _ hc')⟩
  | none =>
    apply PySem.W.kla_makeFunction (c := c) (mg := X.mg) (P := P) (ps := ps) free I.ok.glob (I.mod.glob.keeps I.bk) hcode (TB.code.keeps I.bk) objP tri hca TB.gP bP
    intro c' ctv h' tk ext ge lt rec tab
    obtain ⟨c2, oc, vs, t, e2, q1, q2, q3⟩ := rec
    cases e2
    have nc : H c' = none := I.hok.fresh ge
    have J := inv_table (more := #[rawInt pos.line, rawInt pos.col, .ref c']) (h' := h') (t' := tk) I hP (fun b o hb e => ext b o hb e) tab ge ⟨oc, vs, t, q1, q2, q3⟩
    have listy : (ps ++ #[rawInt pos.line, rawInt pos.col, .ref c']).toList = ps.toList ++ [rawInt pos.line, rawInt pos.col, .ref c'] := by simp
    have PC : P ≠ c' := ne_of_none hP nc
    generalize hG : upd (upd H P (.tbl (ps ++ #[rawInt pos.line, rawInt pos.col, .ref c']))) c' (CodeO c' (X.env.qual ++ "<lambda>")) = G at J
    have GP : G P = some (.tbl (ps ++ #[rawInt pos.line, rawInt pos.col, .ref c'])) := by rw [← hG, upd_ne PC, upd_same]
    have Gc : G c' = some (CodeO c' (X.env.qual ++ "<lambda>")) := by rw [← hG, upd_same]
    have Go : ∀ b o, H b = some o → b ≠ P → G b = some o := fun b o e n => by
      rw [← hG, upd_ne (ne_of_none e nc), upd_ne n]
      exact e
    have GE : ExtN H G := fun b o e n => Go b o e fun z => n ps (by rw [z, hP] at e; exact (Option.some.inj e).symm)
    have Gn : ∀ b, G b = none → H b = none := fun b e => by
      rw [← hG] at e
      exact upd_none (upd_none e)
    have nf : H h'.objs.size = none := I.hok.fresh (Nat.le_trans ge (Nat.le_of_lt lt))
    have nfG : G h'.objs.size = none := J.hok.fresh (Nat.le_refl _)
    have TG : Tabs T G := fun p hp => by
      by_cases z : p.1 = P
      · rw [hu p hp z, z]
        refine ⟨_, GP, ?_, ?_⟩
        · rw [listy]
          exact PySem.TriplesOk_snoc _ _ _ _ tri
        · intro pp cv q
          rw [listy] at q
          cases among_app _ tri q with
          | inr e => exact ⟨c', e, Gc⟩
          | inl e =>
            obtain ⟨c0, e1, e2⟩ := amo pp cv e
            exact ⟨c0, e1, GE _ _ e2 codeO_ne⟩
      · obtain ⟨ps2, a1, a2, a3⟩ := hT p hp
        refine ⟨ps2, Go _ _ a1 z, a2, fun pp cv q => ?_⟩
        obtain ⟨c0, e1, e2⟩ := a3 pp cv q
        exact ⟨c0, e1, GE _ _ e2 codeO_ne⟩
    have J2 := lam_known (D := ldOf X params body scope c') (pm := (X.mg "__name__").getD .none) (ctv := ctv) J
    have B : ∀ b o, G b = some o → upd G h'.objs.size (LamO h'.objs.size (ldOf X params body scope c')) b = some o := fun b o e => by
      rw [upd_ne (ne_of_none e nfG)]
      exact e
    exact ⟨.ref h'.objs.size, _, J2, rfl, w h'.objs.size c' _ (GE.trans (ExtN.of B)) (TG.ext B) (fun b e => Gn b (upd_none e)) nf upd_same (B _ _ Gc)⟩
end
end HLam
namespace HLam
open PySem PySem.Spec PyProof.Rows L2 LamX
section
variable {X : Cx}
/-- a comprehension whose tests and items may lean on what stood where its block began -/
theorem pe_lcI {elt tg iter : Expr} {ifs : List Expr} {scope : Scope} {own : List (Str × Nat)} {pos : Pos} {wi : TI} {g : TG} {tt : L2.St → TT} {te : L2.St → TE} (hc : X.calm = true) (hN : X.N.Nodup) (hi : PI X tg iter wi) (ok : BlkOk X.N X.env.scope scope own)
    (hg : ∀ (s : Shared) (H : Hp) (C : Addr) (cl : List (Str × Addr)) (fp : List Addr), PG (X.blk s H scope (compEnvC scope cl C X.env) fp) tg g)
    (hp : ∀ (pins : List (Addr × Obj)) (σ : L2.St) (s : Shared) (H : Hp) (C : Addr) (cl : List (Str × Addr)) (fp : List Addr), Inv X pins σ H s → (∀ b ∈ fp, FpOk X pins H b) →
      PTs (X.blk s H scope (compEnvC scope cl C X.env) fp) ifs (tt σ) ∧ PE (X.blk s H scope (compEnvC scope cl C X.env) fp) elt (te σ))
    (hs : ∀ x, foldedSetIterable iter X.env x = pure x := by intro _; rfl) :
    PE X (.ListComp elt [⟨tg, iter, ifs, 0⟩] scope pos) (fun σ H Q => tLc wi g (tt σ) (te σ) (own.map (·.2)) σ H Q) := by
  constructor
  intro pins s σ H Q I w
  rw [eval_ListComp]
  have captured : ∀ y ∈ scope.names, y.2 = .free → ∃ c, X.env.cells.lookup y.1 = some c := fun y hy e => (ok.free y hy e).elim (fun k => I.ok.has _ (.inl k)) (fun k => I.ok.has _ (.inr k))
  apply wpAny_comprehension_free (use := none) rfl hs (closure_ok captured) ok.kind (fun y hy e => (ok.uniq y hy).trans (by rw [e]))
  apply thn (hi.run pins s σ H _ I w)
  intro xv sA hA
  apply thn hA
  rintro itv sB ⟨it, fp, tn, J, HB, rfl, IB, T, stB, okB, todo⟩
  refine wpAny_newObj_type (newEnv_comp ?_) (by show 0 ≤ sizeLine; decide)
  obtain ⟨D, eD⟩ : ∃ D, D = sB.heap.objs.size := ⟨_, rfl⟩
  rw [← eD]
  have freshD : HB D = none := IB.hok.fresh (Nat.le_of_eq eD.symm)
  obtain ⟨W, ⟨m0, start⟩, turn⟩ := todo D freshD
  obtain ⟨sC, eC⟩ : ∃ sC : Shared, sC = { sB with heap := sB.heap.push { cls := .type "list", data := .seq ([] : List Value).toArray } } := ⟨_, rfl⟩
  rw [← eC]
  have heapC : sC.heap = sB.heap.push { cls := .type "list", data := .seq ([] : List Value).toArray } := by rw [eC]
  have keptC : ∀ b o, sB.heap.get? b = some o → sC.heap.get? b = some o := fun b o e => by
    rw [heapC]
    exact Heap.get?_push_of_some _ e
  obtain ⟨HC, eHC⟩ : ∃ HC, HC = upd HB D (.lst []) := ⟨_, rfl⟩
  rw [← eHC] at start
  have IC : Inv X pins σ HC sC := by
    rw [eC, eHC, eD]
    exact IB.laid (t' := sB.toks) (fun b o e => Heap.get?_push_of_some _ e) (Nat.le_refl _) ⟨Nat.zero_le _, [], 0, .nil, Heap.get?_push_size _ rfl⟩
  have inC : ∀ b ∈ fp, FpOk X pins HC b ∧ b < sC.heap.objs.size := fun b hb => by
    obtain ⟨o, e, _⟩ := T.obj _ _ stB b hb
    refine ⟨⟨?_, (okB b hb).2⟩, Heap.lt_size (keptC _ _ e)⟩
    rw [eHC, upd_ne (by rw [eD]; exact Nat.ne_of_lt (Heap.lt_size e))]
    exact (okB b hb).1
  have stC : tn 0 sC.heap := T.keep _ _ _ stB fun b _ o e => keptC b o e
  have IE := block_start IC ok hN inC
  obtain ⟨pt, pe⟩ := hp pins σ sC HC sC.heap.objs.size (cellsFrom (sC.heap.objs.size + 1) scope.names (cloFrom X.env.cells scope.names [])) fp IC fun b hb => (inC b hb).1
  have pg := hg sC HC sC.heap.objs.size (cellsFrom (sC.heap.objs.size + 1) scope.names (cloFrom X.env.cells scope.names [])) fp
  generalize hce : compEnvC scope (cellsFrom (sC.heap.objs.size + 1) scope.names (cloFrom X.env.cells scope.names [])) sC.heap.objs.size X.env = ce at IE pt pe pg
  have ceL : ce.locals = sC.heap.objs.size := by rw [← hce]; rfl
  have goal : codeAny (model X.prog X.w) X.A (.compStart (.ListComp elt [⟨tg, iter, ifs, 0⟩] scope pos) 0 (.ref it) (.ref D) ce) (compPost (model X.prog X.w) X.A X.xe none (EP X pins σ Q) (.ref D) sC.heap.objs.size) { sC with heap := pushCells (sC.heap.push { cls := .type "dict", data := .dict #[] }) scope.names } := by
    generalize hsE : ({ sC with heap := pushCells (sC.heap.push { cls := .type "dict", data := .dict #[] }) scope.names } : Shared) = sE at IE
    have stE : tn 0 sE.heap := T.keep _ _ _ stC fun b _ o e => by
      rw [← hsE]
      exact pushCells_keeps _ _ _ _ (Heap.get?_push_of_some _ e)
    have fpIn : ∀ {ps : List (Addr × Obj)} {σ' : L2.St} {H' : Hp} {s' : Shared}, Inv (X.blk sC HC scope ce fp) ps σ' H' s' → (∀ b ∈ fp, H' b = none) → ∀ b ∈ fp, FpOk (X.blk sC HC scope ce fp) [] H' b := fun I' n b hb =>
      ⟨n b hb, (I'.ok.exf b hb).1, I'.ok.exfs b hb, .inl hb, fun x c e => (I'.ok.exf b hb).2 x c e, fun p hp => absurd (show p ∈ ([] : List (Addr × Obj)) ++ [] from hp) (by simp)⟩
    -- the loop
    have loop : codeAny (model X.prog X.w) X.A (.compLoop (.ListComp elt [⟨tg, iter, ifs, 0⟩] scope pos) 0 (.ref it) (.ref D) ce) (compPost (model X.prog X.w) X.A X.xe none (EP X pins σ Q) (.ref D) sC.heap.objs.size) sE := by
      apply compLoop_any (fun n s' => ∃ i H', Inv (X.blk sC HC scope ce fp) [] (wipe σ (own.map (·.2))) H' s' ∧ tn i s'.heap ∧ (∀ b ∈ fp, H' b = none) ∧ W i n H') _ m0 ⟨0, HC, IE, stE, fun b hb => (inC b hb).1.1, start⟩
      rintro n s5 ⟨i, H5, I5, st5, n5, w5⟩
      cases turn i n H5 w5 with
      | inl z =>
        apply thnF (T.done (X.blk sC HC scope ce fp) rfl rfl rfl hc i [] s5 _ H5 (fun _ _ => False) I5 (fpIn I5 n5) st5 z.1)
        rintro r s6 ⟨rfl, I6⟩
        have back : Inv X pins σ H5 s6 := IC.call' (ch := fp) I6.os I6.base I6.hok I6.bare fun b hb => ⟨(inC b hb).1.2.2.2.1, (inC b hb).1.2.1, (inC b hb).1.2.2.2.2.1, (inC b hb).1.2.2.2.2.2⟩
        have nL : H5 sC.heap.objs.size = none := ceL ▸ (show H5 ce.locals = none from I6.free)
        obtain ⟨m, ns, _⟩ := I6.loc
        have ns : s6.heap.Ns sC.heap.objs.size m := ceL ▸ (show s6.heap.Ns ce.locals m from ns)
        obtain ⟨f0, f1, f2, f3, f4, f5⟩ := IC.fpOk (Nat.le_refl _) nL
        exact ⟨m, ns, fun h'' sb => ⟨.ref D, H5, back.turned (t' := s6.toks) (fun b o hb e => (sb.2 b hb).trans e) f0 f1 f3 f4 f5, rfl, z.2⟩⟩
      | inr z =>
        obtain ⟨go, Nx, hNx, step⟩ := z
        apply thnF (T.item (X.blk sC HC scope ce fp) rfl rfl rfl hc i [] s5 _ H5 (fun _ _ => False) I5 (fpIn I5 n5) st5 go)
        rintro r s6 ⟨u, rfl, h6⟩
        apply thnF h6
        rintro _ s7 ⟨x, H7, I7, r7, y7, st7, n7⟩
        have I7p := I7.pinned (fpIn I7 n7) (T.obj _ _ st7)
        apply thnF (pg.run _ s7 _ H7 x u _ I7p r7 (step x H7 y7))
        rintro _ s8 ⟨σ8, H8, I8, hw8, q8⟩
        have close : ∀ {s' : Shared} {H' : Hp}, Inv (X.blk sC HC scope ce fp) ([] ++ pinsAt fp s7.heap) σ8 H' s' → Nx H' → ∃ m, m < n ∧ ∃ i H', Inv (X.blk sC HC scope ce fp) [] (wipe σ (own.map (·.2))) H' s' ∧ tn i s'.heap ∧ (∀ b ∈ fp, H' b = none) ∧ W i m H' := fun {s' H'} I' nx => by
          obtain ⟨m', less, w'⟩ := hNx H' nx
          have still : ∀ b ∈ fp, ∀ o, s7.heap.get? b = some o → s'.heap.get? b = some o ∧ H' b = none := fun b hb o e => by
            have z := I'.pin (b, o) (List.mem_append_right _ (List.mem_append_right _ (mem_pinsAt hb e)))
            exact ⟨z.1, z.2.1⟩
          refine ⟨m', less, i + 1, H', I'.unpinned.weak ?_ ?_, T.keep _ _ _ st7 fun b hb o e => (still b hb o e).1, ?_, w'⟩
          · rw [← hw8, wipe_length]
          · intro j v e
            rw [← hw8] at e
            exact (wipe_some e).1
          · intro b hb
            obtain ⟨o, e, _⟩ := T.obj _ _ st7 b hb
            exact (still b hb o e).2
        apply thnF (pt.run _ s8 σ8 H8 _ I8 q8)
        rintro b s9 ⟨H9, I9, q9⟩
        cases b with
        | false => exact close I9 q9
        | true =>
          apply thnF (pe.run _ s9 σ8 H9 _ I9 q9)
          rintro y s10 ⟨yv, H10, I10, r10, acc, hD, hz, nx⟩
          exact app_ok (X := X.blk sC HC scope ce fp) I10 hD hz r10 fun s11 I11 => close I11 nx
    exact codeAny_compStart_list loop (T.self X.A 0 _ _ _ stE loop)
  rw [← hce] at goal
  exact goal
end
end HLam
namespace HLam
open PySem PySem.Spec PyProof.Rows L2 LamX
/-- the cells of a frame stand as they stood -/
def CellsAs (X : Cx) (h0 : Heap) (H : Hp) (h : Heap) : Prop := ∀ (y : Str) (c : Addr) (v : Option Value), X.env.cells.lookup y = some c → h0.IsCell c v → h.IsCell c v ∧ H c = none
section
variable {X : Cx} {pins : List (Addr × Obj)} {σ : L2.St} {H HZ : Hp} {s s1 : Shared}
theorem CellsAs.un {fs ex : List Addr} {h0 h h1 : Heap} (k : CellsAs X h0 H h) (u : Un fs ex H HZ h h1) (hx : ∀ y c, X.env.cells.lookup y = some c → c ∉ ex) : CellsAs X h0 HZ h1 := fun y c v e z => by
  obtain ⟨⟨o, ho, hd⟩, n⟩ := k y c v e z
  obtain ⟨sl, q⟩ := u.any ho n (hx y c e)
  exact ⟨⟨_, q, hd⟩, u.free c o ho n (hx y c e)⟩
theorem CellsAs.here (I : Inv X pins σ H s) : CellsAs X s.heap H s.heap := fun y c v e z => ⟨z, I.freeC y c e⟩
/-- the lambda's body starts, its names as they stood at s -/
theorem lam_enter {A : Around} {outer : List Env} {E : XK} {scope : Scope} {f c' : Addr} {h₁ : Heap} {tk : Nat} (I : Inv X pins σ H s) (L : LamS X.env.scope scope) (e0 : Env0 X.prog X.w X.K X.mg X.base A outer s1 HZ) (hd : A.handled = none)
    (ck : CellsAs X s.heap HZ s1.heap) (hns : h₁.Ns s1.heap.objs.size fun y => ([] : List (Str × Value)).reverse.lookup y) (kp : ∀ b o, s1.heap.get? b = some o → h₁.get? b = some o) :
    Inv (lamCx X A outer s1 HZ E scope f c') [] σ HZ { s1 with heap := h₁, toks := tk } := by
  have has := L.has I.ok
  have own : ∀ {y c}, (cloFrom X.env.cells scope.names []).lookup y = some c → X.env.cells.lookup y = some c := fun {y c} e => by
    cases cloFrom_mem (PySem.mem_of_lookup e) with
    | inl hm => cases hm
    | inr h =>
      obtain ⟨h1, h2⟩ := h
      obtain ⟨c1, hc⟩ := has _ h1 rfl
      have hc : X.env.cells.lookup y = some c1 := hc
      rw [h2, hc]
      rfl
  have got : ∀ {y}, scope.names.lookup y = some .free → ∃ c, (cloFrom X.env.cells scope.names []).lookup y = some c := fun {y} hl => mem_lookup (cloFrom_has (cells := X.env.cells) (acc := []) (PySem.mem_of_lookup hl))
  have cell : ∀ {y c v}, X.env.cells.lookup y = some c → s.heap.IsCell c v → h₁.IsCell c v := fun {y c v} e z => by
    obtain ⟨⟨o, ho, q⟩, _⟩ := ck y c v e z
    exact ⟨o, kp _ _ ho, q⟩
  have noEx : ∀ b : Addr, b ∉ (lamCx X A outer s1 HZ E scope f c').ex := fun b z => absurd (show b ∈ ([] : List Addr) from z) (by simp)
  have okL : (lamCx X A outer s1 HZ E scope f c').Ok := by
    refine ⟨e0.mod, L.kind, rfl, rfl, Nat.le_refl _, ?_, ?_, ?_, ?_, ?_, .inr ⟨rfl, rfl⟩, ?_, e0.bs, e0.bsz, ?_, ?_, e0.funs, e0.frf⟩
    · exact fun y z c e1 e2 => I.ok.inj y z c (own e1) (own e2)
    · intro y hy
      have hy : scope.names.lookup y = some .cell ∨ scope.names.lookup y = some .free := hy
      exact hy.elim (fun k => absurd rfl (L.own _ (PySem.mem_of_lookup k)).2) got
    · intro y c z _
      exact absurd (show false = true from z) (by decide)
    · exact fun _ => hd
    · exact Around.frames_deeper e0.frames
    · exact fun b z => absurd z (noEx b)
    · exact fun b _ _ => noEx b
    · exact fun b z => absurd z (noEx b)
  refine ⟨okL, rfl, e0.bare, Un.kept kp, ⟨_, hns, ?_⟩, ?_, e0.hok.fresh (Nat.le_refl _), ?_, ?_, e0.hok.kept kp, I.len⟩
  · intro i y v e1 e2 e3
    have e3 : Vis scope y := e3
    have k : scope.names.lookup y = some .free := e3.elim (fun k => absurd rfl (L.own _ (PySem.mem_of_lookup k)).1) fun z => z.elim (fun k => absurd rfl (L.own _ (PySem.mem_of_lookup k)).2) id
    have up := L.free _ (PySem.mem_of_lookup k) rfl
    obtain ⟨m, hn, hl⟩ := I.loc
    obtain ⟨u, r, q⟩ := hl i y v e1 e2 (up.elim (fun k => .inr (.inl k)) fun k => .inr (.inr k))
    obtain ⟨c2, h2⟩ := got k
    refine ⟨u, r, .inr ⟨.inr k, c2, h2, ?_⟩⟩
    have hc2 := own h2
    rcases q with ⟨k', _⟩ | ⟨_, c3, e', z⟩
    · have k' : X.env.scope.names.lookup y = some .local := k'
      cases up with
      | inl k2 => exact absurd (k'.symm.trans k2) (by simp)
      | inr k2 => exact absurd (k'.symm.trans k2) (by simp)
    · obtain rfl : c2 = c3 := Option.some.inj (hc2.symm.trans e')
      exact cell hc2 z
  · intro y c e
    obtain ⟨v, z⟩ := I.cell y c (own e)
    exact ⟨v, cell (own e) z⟩
  · intro y c e
    obtain ⟨v, z⟩ := I.cell y c (own e)
    exact (ck y c v (own e) z).2
  · exact fun q hq => absurd (show q ∈ ([] : List (Addr × Obj)) ++ [] from hq) (by simp)
/-- x() in a def that got a kept lambda -/
theorem act_kept {CXg : CXT} {Eg : XK} {Ng : List Str} {qg : Str} {sg : Scope} {g f c' : Addr} {cdg : Value} {params : Arguments} {body : Expr} {scope : Scope} {k i : Nat} {a : Str} {pn : List (Addr × Obj)} {xe : Value → Shared → Prop} {W : WX} {E : XK} {tb : TE} {p1 p2 : Pos} {sg0 : Shared} {Hg : Hp}
    (I : Inv X pins σ H s) (L : LamS X.env.scope scope) (ck : CellsAs X s.heap Hg sg0.heap)
    (hbind : ∀ (q : Str) (cl : List (Str × Addr)) (pm cv ctv : Value), bindArgs (PySem.W.kla_fn "<lambda>" q params body scope cl pm cv ctv) ⟨[], []⟩ = pure [])
    (tk : Takes ((cxOf CXg X.prog X.w X.K X.mg X.base Ng qg sg g cdg X.A X.stack sg0 Hg Eg).tr pn xe) W) (hW : ∀ cls d σ' H', E cls d H' → W cls d σ' H') (hr : Room (k + 1) (X.A.deeper (envOfC qg sg sg0.heap.objs.size g cdg)))
    (hbody : ∀ (A : Around) (outer : List Env) (s : Shared) (H : Hp), Room k (A.deeper (lamEnv X scope s.heap.objs.size f c')) → PE (lamCx X A outer s H E scope f c') body tb)
    (hN : Ng[i]? = some a) (hv : Vis sg a) (hd : (a == ("__debug__" : Str)) = false := by decide) (hcd : (a == ("__classdict__" : Str)) = false := by decide) :
    PE ((cxOf CXg X.prog X.w X.K X.mg X.base Ng qg sg g cdg X.A X.stack sg0 Hg Eg).tr pn xe) (.Call (.Name a p1) [] [] p2)
      (fun σZ HZ Q => σZ[i]? = some (some (.ref f)) ∧ HZ c' = some (CodeO c' (X.env.qual ++ "<lambda>")) ∧ HZ f = some (LamO f (ldOf X params body scope c')) ∧ tb σ HZ Q) := by
  constructor
  rintro pinsZ sZ σZ HZ Q IZ ⟨slot, code, lam, want⟩
  apply wpAny_Call_Name_kw
  apply thn ((pe_var (pos := p1) (i := i) hN hv hd hcd).run pinsZ sZ σZ HZ (fun v H1 => v = .ref f ∧ H1 = HZ) IZ ⟨.ref f, slot, rfl, rfl⟩)
  rintro u s1 ⟨v, H1, I1, r1, rfl, rfl⟩
  obtain rfl : u = Value.ref f := r1
  obtain ⟨⟨pm, ctv, objf⟩, _, _⟩ := I1.hok f _ lam
  obtain ⟨⟨oc, vs, t, q1, q2, q3⟩, _, _⟩ := I1.hok c' _ code
  apply PySem.W.callWith_F0 ⟨_, _, _, _, objf⟩
  have ck1 : CellsAs X s.heap H1 s1.heap := ck.un (fs := frs X.stack) (ex := []) I1.base fun _ _ _ z => by cases z
  have rc : codeAny (model X.prog X.w) (X.A.deeper (envOfC qg sg sg0.heap.objs.size g cdg)) (.call (.ref f) ⟨[], []⟩) (CR (L2.CX X.prog X.w) (envOfC qg sg sg0.heap.objs.size g cdg :: X.stack) X.prog X.w H1 s1 Q E) s1 := by
    apply PySem.W.kla_callFunE hr.depth objf rfl L.co L.gen rfl ⟨c', oc, vs, t, rfl, q1, q2, q3⟩
    show wpAny _ _ (bindArgs (PySem.W.kla_fn "<lambda>" _ params body scope _ pm _ ctv) ⟨[], []⟩) _ _ _
    rw [hbind]
    apply wpAny_pure
    apply wpAny_newFunctionEnv (fun y hy => (L.own y hy).2) (fun y hy => absurd hy (by simp)) _ L.kind
    intro h₁ hns hsb
    refine ⟨I1.nolimit.fresh _ hsb, ?_⟩
    have kp : ∀ b o, s1.heap.get? b = some o → h₁.get? b = some o := fun b o e => hsb.extBut b o (Nat.ne_of_lt (Heap.lt_size e)) (Heap.get?_push_of_some _ e)
    have J := lam_enter (E := E) (f := f) (c' := c') (tk := s1.toks + ([] : List (Str × Value)).length) I L I1.env0 hr.hd ck1 hns kp
    apply PySem.W.kla_codeExpr
    apply wpAny_mono ((hbody _ _ s1 H1 (hr.deeper _)).run [] _ _ H1 Q J want) _ (fun e s' hq => hq)
    rintro v s' ⟨w', H', J', rv, q⟩
    exact ⟨w', H', J'.os, J'.bare, J'.base, J'.hok, rv, q⟩
  have hx : Passes (L2.CX X.prog X.w) ((cxOf CXg X.prog X.w X.K X.mg X.base Ng qg sg g cdg X.A X.stack sg0 Hg Eg).tr pn xe) E := passes_call tk hW
  apply wpAny_call (codeAny_mono rc _)
  intro r s' hq
  cases r with
  | error e => exact hx pinsZ σZ H1 s1 e s' I1 hq
  | ok fl =>
    cases fl with
    | ret u => exact I1.after hq
    | next => exact (show False from hq).elim
    | brk => exact (show False from hq).elim
    | cont => exact (show False from hq).elim
/-- the lambda is given to a def, in a block of the frame that made it -/
def tHeld (X : Cx) (TT : (XK → Hp → VK → Prop) → Hp → VK → Prop) (params : Arguments) (body : Expr) (scope : Scope) (t : XK → TE) (σ0 : L2.St) (te : TE) : TE := fun σ H Q =>
  tCons te tNil σ H fun vs H1 => ∃ f c', vs = [.ref f] ∧ H1 f = some (LamO f (ldOf X params body scope c')) ∧ H1 c' = some (CodeO c' (X.env.qual ++ "<lambda>")) ∧
    TT (fun E H' Q' => H' f = some (LamO f (ldOf X params body scope c')) ∧ t E σ0 H' Q') H1 Q
theorem pe_heldcall {TT : (XK → Hp → VK → Prop) → Hp → VK → Prop} {x a : Str} {g : Addr} {k : Nat} {pg : Arguments} {bg : List Stmt} {sg scopeB : Scope} {ce : Env} {fp : List Addr} {dV kV doc pm cdv ct oc : Value} {an od : Option Addr} {osl : Array (Option Value)} {Ng : List Str}
    {params : Arguments} {body e : Expr} {scope : Scope} {t : XK → TE} {te : TE} {p pos : Pos} (I0 : Inv X pins σ H s) (hfp : ∀ b ∈ fp, FpOk X pins H b) (hg : Gl (X.blk s H scopeB ce fp) x) (hm : X.mg x = some (.ref g)) (hk : PySem.W.keepIn X.K (.ref g) = true)
    (lk : X.K.lookup g = some ⟨oc, od, .func (PySem.W.fnOf x x pg bg sg dV kV doc pm an cdv ct), osl⟩) (hcg : PySem.W.codeIn X.K cdv x = true) (hb : L2.Binds X.K (PySem.W.fnOf x x pg bg sg dV kV doc pm an cdv ct) [a] []) (Sg : FnScope Ng [a] sg) (hNg : Ng[0]? = some a) (hva : Vis sg a)
    (hG : GivesTo X Ng x sg g cdv bg a (X.env.qual ++ "<lambda>") TT) (hr : Room (k + 2) X.A) (L : LamS X.env.scope scope) (he : PE (X.blk s H scopeB ce fp) e te)
    (h1 : starEach [e] (X.blk s H scopeB ce fp).env = (false, eval e (X.blk s H scopeB ce fp).env) :: starEach [] (X.blk s H scopeB ce fp).env) (h2 : (backTo pos (starEach [] (X.blk s H scopeB ce fp).env)).any (·.1) = false)
    (hbind : ∀ (q : Str) (cl : List (Str × Addr)) (pm cv ctv : Value), bindArgs (PySem.W.kla_fn "<lambda>" q params body scope cl pm cv ctv) ⟨[], []⟩ = pure [])
    (hbody : ∀ (A : Around) (outer : List Env) (s : Shared) (H : Hp) (E : XK) (f c' : Addr), Room k (A.deeper (lamEnv X scope s.heap.objs.size f c')) → PE (lamCx X A outer s H E scope f c') body (t E))
    (hdb : (x == ("__debug__" : Str)) = false := by decide) (hd : (a == ("__debug__" : Str)) = false := by decide) (hcd : (a == ("__classdict__" : Str)) = false := by decide) :
    PE (X.blk s H scopeB ce fp) (.Call (.Name x p) [e] [] pos) (tHeld X TT params body scope t σ te) := by
  constructor
  intro pinsB sB σB HB Q IB want
  apply wpAny_Call_Name_kw
  apply ld_glob IB hg hm _ hdb
  refine PySem.W.callWith_K (h₀ := X.base) IB.ok.mod.kin hk (thn ((pa_cons he pa_nil h1).run pos pinsB sB σB HB _ IB want) fun us s1 ⟨vs, H1, I1, r, f, c', ev, lam, code, w⟩ => ⟨I1.kIn, ?_⟩) h1 h2
  · subst ev
    cases r with
    | cons r1 r2 =>
      cases r2
      cases r1
      have ck : CellsAs X s.heap H1 s1.heap := (CellsAs.here I0).un (fs := (X.blk s H scopeB ce fp).fs) (ex := fp) I1.base fun y c e z => (hfp c z).2.2.2.2.1 y c e rfl
      have rc : codeAny (model X.prog X.w) X.A (.call (.ref g) ⟨[.ref f], []⟩) (CR C8.CX0 X.stack X.prog X.w H1 s1 Q C8.E0) s1 := by
        apply run_ofS (N := Ng) (ps := [a]) (us := [.ref f]) (vs := [.ref f]) lk hcg Sg hr I1.env0 (hb s1 [.ref f] I1.kIn rfl) (.cons rfl .nil) rfl
        intro hr'
        obtain ⟨t', ht', hq'⟩ := hG f c' s1 H1 Q (fun E H' Q' => H' f = some (LamO f (ldOf X params body scope c')) ∧ t E σ H' Q') (fun W pn xe E p1 p2 tk hW => act_kept (i := 0) I0 L ck hbind tk hW hr' (fun A outer s H hr2 => hbody A outer s H E f c' hr2) hNg hva hd hcd) code w
        exact ⟨t', ht'.nox, hq'⟩
      apply wpAny_call (codeAny_mono rc _)
      intro r s2 hq
      cases r with
      | error e => exact (show False from hq).elim
      | ok fl =>
        cases fl with
        | ret u => exact I1.after hq
        | next => exact (show False from hq).elim
        | brk => exact (show False from hq).elim
        | cont => exact (show False from hq).elim
theorem pe_or {e : Expr} {t1 t2 : TE} (h1 : PE X e t1) (h2 : PE X e t2) : PE X e (fun σ H Q => t1 σ H Q ∨ t2 σ H Q) :=
  ⟨fun pins s σ H Q I w => w.elim (h1.run pins s σ H Q I) (h2.run pins s σ H Q I)⟩
end
end HLam
-- part SLFirst
set_option maxHeartbeats 8000000
/-! _law_first_right. -/
namespace Kn
open PySem PySem.Spec PyProof.Rows L2 Err LamX HLam
/-- an error's class -/
structure ETxt (K : PySem.W.Frag) (mg : Str → Option Value) (CS : Addr) (x : Str) (C : Addr) (fld : Str) : Prop where
  glob : mg x = some (.ref C)
  kp : PySem.W.keepIn K (.ref C) = true
  is : Isi K C
  own : PySem.W.kitOne K (.ref C) (.ref C) = some true
  no : PySem.W.findIn K (.ref C) fld = some none
  ex : PySem.W.exmOne K (.ref C) (.ref CS) = some true
/-- a property of the class -/
def Pd (P : Program) (w : World) (K : PySem.W.Frag) (mg : Str → Option Value) (base : Heap) (C : Addr) (x : Str) (sp : Sp) : Prop := ∃ (p f : Addr) (fd : FuncData), FnOk P w K mg base CX0 1 f fd ["self"] sp ∧ PropOf K C x p f ∧ Binds K fd ["self"] []
/-- how a loop is made -/
structure MkL (P : Program) (w : World) (K : PySem.W.Frag) (mg : Str → Option Value) (base : Heap) (C CB fi : Addr) (fdi : FuncData) : Prop where
  G : FnOk P w K mg base (L2.CX P w) 7 fi fdi ["self", "start", "steps", "last"] (spOr (spInitV C) (spInitE CB))
  M : Mk K C fi
  b : Binds K fdi ["self", "start", "steps", "last"] []
  g : mg "Loop" = some (.ref C)
abbrev sLFirst : Stmt := topS 40
abbrev NLf7 : List Str := ["_law_draw", "_law_made", "_law_odd", "_law_parts", "_law_due", "_law_k", "_law_error"]
theorem scLf7 : FnScope NLf7 ["_law_draw", "_law_made"] (defScope sLFirst) := ⟨rfl, rfl, rfl, by decide +kernel, rfl, by decide +kernel, by decide +kernel⟩
def spLFirst (T : List (Addr × Str)) (C : Addr) : Sp := fun vs H Q _ => ∃ d l c p m, vs = [.ref d, .ref p] ∧ Drw H d l c ∧ Tabs T H ∧ LoopAt C (cut d l H) p m ∧ LoopOk m ∧ ∀ H', Drw H' d l c → Tabs T H' → ButN d l H H' → Q (.bl true) H'
/-- what is no first values and no steps -/
def OddAt (H : Hp) (v : V) : Prop := v = .non ∨ v = .int 5 ∨ v = .str "a" ∨ ∃ a, v = .ref a ∧ (H a = some (.lst []) ∨ H a = some (.dK [(.inr "t", .int 0)]) ∨ H a = some (.dK []))
theorem OddAt.same {H H' : Hp} {v : V} (h : OddAt H v) (s : Same H H') : OddAt H' v := by
  rcases h with h | h | h | ⟨a, e, h⟩
  · exact .inl h
  · exact .inr (.inl h)
  · exact .inr (.inr (.inl h))
  · exact .inr (.inr (.inr ⟨a, e, h.elim (fun z => .inl (s _ _ z)) fun z => .inr (z.elim (fun z => .inl (s _ _ z)) fun z => .inr (s _ _ z))⟩))
theorem OddAt.is {H : Hp} {v : V} (h : OddAt H v) : ∃ w, Is H v w ∧ NF H v ∧ Deep H v ∧ isStartW w = false ∧ (∀ ks, areStepsW ks w = false) ∧ StepsIn w := by
  rcases h with h | h | h | ⟨a, e, h | h | h⟩
  · subst h
    exact ⟨_, .non, (fun _ _ _ z => by cases z), (fun _ _ z => by cases z), rfl, fun _ => rfl, trivial⟩
  · subst h
    exact ⟨_, .int 5, (fun _ _ _ z => by cases z), (fun _ _ z => by cases z), rfl, fun _ => rfl, trivial⟩
  · subst h
    exact ⟨_, .str _ (by decide) (by decide +kernel), (fun _ _ _ z => by cases z), (fun _ _ z => by cases z), rfl, fun _ => rfl, trivial⟩
  · subst e
    refine ⟨_, .lst (by decide) h .nil, nf_of h (fun _ _ z => by cases z), fun b ks z e => ?_, rfl, fun _ => rfl, trivial⟩
    rw [← V.ref.inj z, h] at e
    cases e
  · subst e
    refine ⟨.dct [(some (.inr "t"), .int 0)], .dct (by decide) ⟨_, .inl h, rfl⟩ (.cons ⟨by decide, by decide +kernel⟩ (.int 0) .nil), nf_of h (fun _ _ z => by cases z), fun b ks z e => ?_, by kernel_rfl, fun _ => by kernel_rfl, ?_⟩
    · rw [← V.ref.inj z, h] at e
      cases e
      intro p hp
      rw [List.mem_singleton.mp hp]
      exact ⟨(fun _ _ _ z => by cases z), (fun z => by cases z)⟩
    · intro p hp
      rw [List.mem_singleton.mp hp]
      trivial
  · subst e
    refine ⟨.dct [], .dct (by decide) ⟨_, .inl h, rfl⟩ .nil, nf_of h (fun _ _ z => by cases z), fun b ks z e => ?_, by kernel_rfl, fun _ => by kernel_rfl, fun p hp => by cases hp⟩
    rw [← V.ref.inj z, h] at e
    cases e
    exact fun p hp => by cases hp
theorem OddAt.ne {H : Hp} {v : V} {q : Addr} {l : List (Str × Int)} (h : OddAt H v) (hq : IntD H q l) (nm : NmOk (l.map (·.1))) : v ≠ .ref q := fun e => by
  subst e
  obtain ⟨ks, e1, e2⟩ := hq
  have n1 := nm.n1
  rcases h with h | h | h | ⟨a, e, h | h | h⟩
  · cases h
  · cases h
  · cases h
  · rw [← V.ref.inj e, e1] at h
    cases h
  · rw [← V.ref.inj e, e1] at h
    cases h
    cases e2 with
    | @cons _ l2 x v b hh r =>
      have z := isNameTI "t" (nm.ti.inT _ (List.mem_cons_self ..))
      exact z.2.2.2.2.1 rfl
  · rw [← V.ref.inj e, e1] at h
    cases h
    cases e2
    exact absurd n1 (by decide)
/-- of these parts no loop is made: which one is told -/
def ErrL (H : Hp) (v u : V) (wl : W) (part : Str) : Prop := ∃ wv wu, Is H v wv ∧ NF H v ∧ Is H u wu ∧ ((isStartW wv = false ∧ part = "start") ∨ ∃ kd ks, v = .ref kd ∧ H kd = some (.dK ks) ∧ isStartW wv = true ∧ NF H u ∧ Deep H u ∧ u ≠ .ref kd ∧ StepsIn wu ∧
  ((areStepsW ks wu = false ∧ part = "steps") ∨ (areStepsW ks wu = true ∧ SumIn wl ∧ isLastW ks wl = false ∧ part = "last")))
theorem ErrL.init {C CB x : Addr} {H : Hp} {v u l : V} {wl : W} {part : Str} {Q : VK} {E : XK} (h : ErrL H v u wl part) (hl : Is H l wl) (hE : ∀ d H', Same H H' → H' d = none → E (.ref CB) (some d) (upd H' d (.xd [("part", .str part)]))) : spOr (spInitV C) (spInitE CB) [.ref x, v, u, l] H Q E := by
  obtain ⟨wv, wu, h1, h2, h3, h4⟩ := h
  exact .inr ⟨x, v, u, l, wv, wu, wl, part, rfl, h1, h2, h3, hl, hE, h4⟩
theorem Deep.same {H H' : Hp} {u : V} {wu : W} (hu : Is H u wu) (nf : NF H u) (dp : Deep H u) (s : Same H H') : Deep H' u := by
  intro a ks2 e2 e3 q hq
  subst e2
  cases hu with
  | lst _ h0 _ =>
    rw [s _ _ h0] at e3
    cases e3
  | tup _ h0 _ =>
    rcases h0 with h0 | ⟨o, h0⟩ <;> (rw [s _ _ h0] at e3; cases e3)
  | dct hz hd hkv =>
    obtain ⟨ks3, hd, rfl⟩ := hd
    rcases hd with hd | ⟨o, hd⟩
    · rw [s _ _ hd] at e3
      cases e3
      obtain ⟨i, hi⟩ := List.getElem?_of_mem hq
      obtain ⟨k, x⟩ := q
      obtain ⟨wi, _, his⟩ := hkv.val hi
      obtain ⟨n1, n2⟩ := dp a _ rfl hd _ hq
      exact ⟨n1.same his s, n2⟩
    · exact absurd hd (nf a o _ rfl)
theorem ErrL.same {H H' : Hp} {v u : V} {wl : W} {part : Str} (h : ErrL H v u wl part) (s : Same H H') : ErrL H' v u wl part := by
  obtain ⟨wv, wu, h1, h2, h3, h4⟩ := h
  refine ⟨wv, wu, h1.same s, h2.same h1 s, h3.same s, ?_⟩
  rcases h4 with h4 | ⟨kd, ks, e1, e2, e3, e4, e5, e6⟩
  · exact .inl h4
  · exact .inr ⟨kd, ks, e1, s _ _ e2, e3, e4.same h3 s, Deep.same h3 e4 e5 s, e6⟩
theorem rd_cut {d l c a : Addr} {H : Hp} {xs : List V} (D : Drw H d l c) (h : Rd H a (.tup xs)) : Rd (cut d l H) a (.tup xs) := by
  obtain ⟨⟨r, t, hd⟩, ⟨ns, hl⟩, _, _⟩ := D
  have nd : ∀ {o : HO}, H a = some o → (∀ k, o ≠ .dK k) → (∀ k, o ≠ .lst k) → a ≠ d ∧ a ≠ l := fun {o} e n1 n2 => ⟨fun z => by rw [z, hd] at e; exact n1 _ (Option.some.inj e).symm, fun z => by rw [z, hl] at e; exact n2 _ (Option.some.inj e).symm⟩
  rcases h with h | ⟨o, h⟩
  · have z := nd h (fun _ z => by cases z) (fun _ z => by cases z)
    exact .inl (cut_at h z.1 z.2)
  · have z := nd h (fun _ z => by cases z) (fun _ z => by cases z)
    exact .inr ⟨o, cut_at h z.1 z.2⟩
/-- new steps, without the draws -/
theorem stpNew_cut {d l c q : Addr} {Ha Hb H2 H' : Hp} {ls : Stps} (h : StpNew Ha Hb q ls) (s : Same Hb H') (n : ∀ b, Ha b = none → b ≠ d ∧ b ≠ l) (nq : q ≠ d ∧ q ≠ l) (D : Drw H' d l c) : StpD (cut d l H') q ls := by
  obtain ⟨kvs, e1, e2⟩ := h
  refine ⟨kvs, cut_at (s _ _ e1) nq.1 nq.2, e2.mono fun v l ⟨b, y1, y2, _, ks, y3, y4⟩ => ⟨b, y1, ks, cut_at (s _ _ y3) (n b y2).1 (n b y2).2, y4.mono fun _ _ ⟨t, et, it⟩ => ⟨t, et, is_sum_to (fun a xs r => rd_cut D r) (it.same s)⟩⟩⟩
structure FF (G : Hp) (m : Lm) (odd : V) (pp l1 l2 l3 l4 q1 q2 q3 q4 du : Addr) : Prop where
  e1 : G l1 = some (.lst [odd, odd, .int 0])
  e2 : G l2 = some (.lst [.ref q1, odd, .int 0])
  e3 : G l3 = some (.lst [.ref q2, .ref q3, .int 0])
  e4 : G l4 = some (.lst [odd, .ref q4, .int 0])
  e5 : G pp = some (.lst [.ref l1, .ref l2, .ref l3, .ref l4])
  e6 : G du = some (.lst [.str "start", .str "steps", .str "last", .str "start"])
  f1 : IntD G q1 m.start
  f2 : IntD G q2 m.start
  f3 : StpD G q3 m.steps
  f4 : StpD G q4 m.steps
  od : OddAt G odd
theorem FF.same {G G' : Hp} {m : Lm} {odd : V} {pp l1 l2 l3 l4 q1 q2 q3 q4 du : Addr} (h : FF G m odd pp l1 l2 l3 l4 q1 q2 q3 q4 du) (s : Same G G') : FF G' m odd pp l1 l2 l3 l4 q1 q2 q3 q4 du :=
  ⟨s _ _ h.e1, s _ _ h.e2, s _ _ h.e3, s _ _ h.e4, s _ _ h.e5, s _ _ h.e6, h.f1.same s, h.f2.same s, h.f3.same s, h.f4.same s, h.od.same s⟩
theorem stepsOk_is {G : Hp} {a : Addr} {m : Lm} (h : StpD G a m.steps) (ok : LoopOk m) : Is G (.ref a) (stepsW m.steps) := h.is ok.kn fun p hp => by rw [(ok.ss p hp).1]; exact ok.nm
theorem steps_ne {m : Lm} (ok : LoopOk m) : m.steps ≠ [] := fun z => by
  have := ok.kn.n1
  rw [z] at this
  exact absurd this (by decide)
theorem IntD.nf {G : Hp} {a : Addr} {l : List (Str × Int)} (h : IntD G a l) : NF G (.ref a) := by
  obtain ⟨ks, e, _⟩ := h
  exact nf_of e (fun _ _ z => by cases z)
theorem StpD.nf {G : Hp} {a : Addr} {l : Stps} (h : StpD G a l) : NF G (.ref a) := by
  obtain ⟨ks, e, _⟩ := h
  exact nf_of e (fun _ _ z => by cases z)
theorem FF.err {G : Hp} {m : Lm} {odd : V} {pp l1 l2 l3 l4 q1 q2 q3 q4 du : Addr} (h : FF G m odd pp l1 l2 l3 l4 q1 q2 q3 q4 du) (ok : LoopOk m) (i : Nat) (hi : i < 4) :
    ∃ li v u part, ([V.ref l1, .ref l2, .ref l3, .ref l4] : List V)[i]? = some (.ref li) ∧ G li = some (.lst [v, u, .int 0]) ∧ ([V.str "start", .str "steps", .str "last", .str "start"] : List V)[i]? = some (.str part) ∧ ErrL G v u (.int 0) part := by
  obtain ⟨wo, o1, o2, o3, o4, o5, o6⟩ := h.od.is
  have kst : ∀ {q : Addr} {ks : List (Key × V)}, KvP IntR ks m.start → ks.map (·.1) = m.names.map Sum.inr := fun h => h.keys
  rcases (show i = 0 ∨ i = 1 ∨ i = 2 ∨ i = 3 by omega) with rfl | rfl | rfl | rfl
  · exact ⟨l1, odd, odd, "start", rfl, h.e1, rfl, wo, wo, o1, o2, o1, .inl ⟨o4, rfl⟩⟩
  · obtain ⟨ks, k1, k2⟩ := id h.f1
    exact ⟨l2, .ref q1, odd, "steps", rfl, h.e2, rfl, startW m.start, wo, h.f1.is ok.nm, h.f1.nf, o1, .inr ⟨q1, ks, rfl, k1, isStart_ok ok.nm ok.sv, o2, o3, h.od.ne h.f1 ok.nm, o6, .inl ⟨o5 ks, rfl⟩⟩⟩
  · obtain ⟨ks, k1, k2⟩ := id h.f2
    have ne : V.ref q3 ≠ .ref q2 := fun z => h.f3.ne_int h.f2 (steps_ne ok) (V.ref.inj z)
    exact ⟨l3, .ref q2, .ref q3, "last", rfl, h.e3, rfl, startW m.start, stepsW m.steps, h.f2.is ok.nm, h.f2.nf, stepsOk_is h.f3 ok, .inr ⟨q2, ks, rfl, k1, isStart_ok ok.nm ok.sv, h.f3.nf, h.f3.deep (steps_ne ok), ne, stepsIn_ok _, .inr ⟨areSteps_ok k2.keys ok.kn ok.ss, trivial, rfl, rfl⟩⟩⟩
  · exact ⟨l4, odd, .ref q4, "start", rfl, h.e4, rfl, wo, stepsW m.steps, o1, o2, stepsOk_is h.f4 ok, .inl ⟨o4, rfl⟩⟩
section
variable {P : Program} {w : World} {K : PySem.W.Frag} {mg : Str → Option Value} {base : Heap}
theorem ok_lfirst {T : List (Addr × Str)} {C CB CS Pt c0 f fP fC fI p1 f1 p2 f2 : Addr} {fd fdP fdC fdI fd1 fd2 : FuncData} (F : FunC K "_law_first_right" "_law_first_right" sLFirst f fd c0) (TB : TabB base mg c0 Pt) (hT1 : (Pt, ("_law_first_right.<locals>." : Str) ++ "<lambda>") ∈ T) (hT2 : ∀ p ∈ T, p.1 = Pt → p.2 = ("_law_first_right.<locals>." : Str) ++ "<lambda>")
    (tx : PTxt K C) (EB : ETxt K mg CS "BadLoop" CB "part") (gS : mg "StillError" = some (.ref CS)) (ML : MkL P w K mg base C CB fI fdI)
    (GP : FnOk P w K mg base CX0 3 fP fdP ["_law_draw", "_law_some"] spPick) (kP : PySem.W.keepIn K (.ref fP) = true) (bP : Binds K fdP ["_law_draw", "_law_some"] []) (gP : mg "_law_pick" = some (.ref fP))
    (FC : Fun K "_law_caught" "_law_caught" sCaught fC fdC) (bC : Binds K fdC ["_law_work"] []) (gC : mg "_law_caught" = some (.ref fC))
    (P1 : FnOk P w K mg base CX0 1 f1 fd1 ["self"] (spP1 C)) (pp1 : PropOf K C "start" p1 f1) (pb1 : Binds K fd1 ["self"] []) (P2 : FnOk P w K mg base CX0 1 f2 fd2 ["self"] (spP2 C)) (pp2 : PropOf K C "steps" p2 f2) (pb2 : Binds K fd2 ["self"] [])
    (mi : mg "isinstance" = none) (mr : mg "range" = none) : FnOk P w K mg base CX0 11 f fd ["_law_draw", "_law_made"] (spLFirst T C) := by
  have S := scLf7
  obtain ⟨ocC, odC, kVC, docC, pmC, anC, cdC, ctC, oslC, rfl, lkC, hcC⟩ := FC.ex
  have GI := ML.G
  have MK := ML.M
  have bI := ML.b
  have gL := ML.g
  refine F.ok S (fun vs H Q E h => ?_) (fun A outer s H vs Q E hr h => ?_)
  · obtain ⟨d, l, c, p, m, rfl, _⟩ := h
    rfl
  · obtain ⟨d, l, c, p, m, rfl, D, hT, hp, ok, q⟩ := h
    have hu := hu_of hr
    have hr3 := hr.mono (show 3 ≤ 10 by decide)
    have hr2 := hr.mono (show 2 ≤ 10 by decide)
    refine ⟨_, (pss_cons (ps_set (i := 2) S.nd rfl (.inl rfl) (pe_call GP hr3 (by rfl) gP kP bP .nil pass0 (pa_cons (pv 0) (pa_cons (pe_lst (pa_cons pe_non (pa_cons pe_int (pa_cons (pe_lst pa_nil) (pa_cons pe_str (pa_cons (pe_disp (pps_cons pe_str pe_int pps_nil) rfl rfl (by decide) (by decide)) (pa_cons pe_dnewK pa_nil))))))) pa_nil))))
      (pss_cons (ps_set (i := 3) S.nd rfl (.inr rfl) (pe_lst (pa_cons (pe_lst (pa_cons (pv 2) (pa_cons (pv 2) (pa_cons pe_int pa_nil)))) (pa_cons (pe_lst (pa_cons (pe_prop (pv 1) tx.cl pp1 P1 hr2 pb1 .nil pass0 rfl) (pa_cons (pv 2) (pa_cons pe_int pa_nil)))) (pa_cons (pe_lst (pa_cons (pe_prop (pv 1) tx.cl pp1 P1 hr2 pb1 .nil pass0 rfl) (pa_cons (pe_prop (pv 1) tx.cl pp2 P2 hr2 pb2 .nil pass0 rfl) (pa_cons pe_int pa_nil)))) (pa_cons (pe_lst (pa_cons (pv 2) (pa_cons (pe_prop (pv 1) tx.cl pp2 P2 hr2 pb2 .nil pass0 rfl) (pa_cons pe_int pa_nil)))) pa_nil))))))
      (pss_cons (ps_set (i := 4) S.nd rfl (.inl rfl) (pe_lst (pa_cons pe_str (pa_cons pe_str (pa_cons pe_str (pa_cons pe_str pa_nil))))))
      (pss_cons (ps_for PassesOwn.never rfl (pi_range1 (by rfl) mr (pa_cons pe_int pa_nil)) (pg_name (i := 5) S.nd rfl (.inr rfl))
        (pss_cons (ps_set (i := 6) S.nd rfl (.inl rfl) (pe_lamcall (T := T) (TT := TCaught K CS) (k := 8) (by rfl) gC FC.kp lkC hcC bC scCa rfl (.inl rfl) (caught_gives gS) TB rfl hT1 hT2 hr (lamS_by (by show lamSB (defScope sLFirst) _ = true; decide +kernel)) (by rfl) (fun _ _ _ _ _ => rfl) (fun A outer s H E f c' hrL => pe_make MK GI hrL (by rfl) gL bI .nil (passes_call (takes_of rfl rfl rfl rfl) fun _ _ _ _ h => h) (pa_cons (pe_ix (show IxR _ (rIxL K) from ix_list) (pe_ix (show IxR _ (rIxL K) from ix_list) (pv 3) (pv 5) (fun _ _ => rfl)) pe_int (fun _ _ => rfl)) (pa_cons (pe_ix (show IxR _ (rIxL K) from ix_list) (pe_ix (show IxR _ (rIxL K) from ix_list) (pv 3) (pv 5) (fun _ _ => rfl)) pe_int (fun _ _ => rfl)) (pa_cons (pe_ix (show IxR _ (rIxL K) from ix_list) (pe_ix (show IxR _ (rIxL K) from ix_list) (pv 3) (pv 5) (fun _ _ => rfl)) pe_int (fun _ _ => rfl)) pa_nil))))))
        (pss_one (ps_if (PW.pt (pw_or (pt_not (pt_val (pe_callB call_isq (by rfl) mi PyProof.Rows.boot_isinstance (pa_cons (pv 6) (pa_cons (pe_glob (v := .ref CB) (by rfl) EB.glob rfl) pa_nil))))) (pw_or1 (pt_cmpR op_ne (pe_attq (pv 6)) (pe_ix ix_list (pv 4) (pv 5) (fun _ _ => rfl)) (nomark _))))) (pss_one (ps_ret pe_bl)) pss_nil))))
      (pss_one (ps_ret pe_bl)))))), ?_⟩
    -- what is odd
    refine ⟨_, rfl, by show 0 ≤ sizeLine; decide, fun a1 na1 => fun a2 na2 => ⟨upd_same, [(.inr "t", .int 0)], rfl, by show 1 ≤ 15; decide, fun a3 na3 => ⟨by show 6 ≤ sizeLine; decide, fun e ne => ?_⟩⟩⟩
    rw [upd_upd] at na3 ne ⊢
    have em : mergeK [] [((.inr "t" : Key), V.int 0)] = [((.inr "t" : Key), V.int 0)] := by kernel_rfl
    rw [em] at na3 ne ⊢
    have s1 : Same H (upd (upd (upd H a1 (.lst [])) a2 (.dK [(.inr "t", .int 0)])) a3 (.dK [])) := ((same_new na1).trans (same_new na2)).trans (same_new na3)
    have h1 : (upd (upd (upd H a1 (.lst [])) a2 (.dK [(.inr "t", .int 0)])) a3 (.dK [])) a1 = some (.lst []) := ((same_new na2).trans (same_new na3)) _ _ upd_same
    have h2 : (upd (upd (upd H a1 (.lst [])) a2 (.dK [(.inr "t", .int 0)])) a3 (.dK [])) a2 = some (.dK [(.inr "t", .int 0)]) := (same_new na3) _ _ upd_same
    have h3 : (upd (upd (upd H a1 (.lst [])) a2 (.dK [(.inr "t", .int 0)])) a3 (.dK [])) a3 = some (.dK []) := upd_same
    generalize upd (upd (upd H a1 (.lst [])) a2 (.dK [(.inr "t", .int 0)])) a3 (.dK []) = H1 at s1 h1 h2 h3 ne ⊢
    have D1 := D.same s1
    refine pick_new D1 (by show 0 < 6; decide) (by show 6 ≤ 1000; decide) (fun odd H2 hodd D2 B2 => ?_) ne
    have n2 : H a2 = none := HLam.upd_none na2
    have n3 : H a3 = none := HLam.upd_none (HLam.upd_none na3)
    have hO : OddAt (cut d l H2) odd := by
      have at_ : ∀ {x : Addr} {o : HO}, H x = none → H1 x = some o → (∀ ps, o ≠ .tbl ps) → cut d l H2 x = some o := fun n e nt => cut_at (B2 _ _ e (D.off n).1 (D.off n).2) (D.off n).1 (D.off n).2 nt
      simp only [List.mem_cons, List.not_mem_nil, or_false] at hodd
      rcases hodd with z | z | z | z | z | z
      · exact .inl z
      · exact .inr (.inl z)
      · exact .inr (.inr (.inr ⟨a1, z, .inl (at_ na1 h1 (fun _ y => by cases y))⟩))
      · exact .inr (.inr (.inl z))
      · exact .inr (.inr (.inr ⟨a2, z, .inr (.inl (at_ n2 h2 (fun _ y => by cases y)))⟩))
      · exact .inr (.inr (.inr ⟨a3, z, .inr (.inr (at_ n3 h3 (fun _ y => by cases y)))⟩))
    have BN2 : ButN d l H H2 := (But.of s1).n.trans B2.n
    have T2 := tabs_but (hT.ext s1) D1 B2
    have hp2 := hp.same BN2.cut
    clear s1 h1 h2 h3 B2 D1 hodd ne na1 na2 na3 n2 n3
    obtain ⟨dx, sd, st, ls, hi, _⟩ := id hp2.ex
    have hi := cut_le _ _ hi
    have hpL := hp2.same cut_le
    -- the four
    refine ⟨_, rfl, _, rfl, by show 3 ≤ sizeLine; decide, fun l1 nl1 => ?_⟩
    have s3 : Same H2 (upd H2 l1 (.lst [odd, odd, .int 0])) := same_new nl1
    have e1 : (upd H2 l1 (.lst [odd, odd, .int 0])) l1 = some (.lst [odd, odd, .int 0]) := upd_same
    generalize upd H2 l1 (.lst [odd, odd, .int 0]) = H3 at s3 e1 ⊢
    refine ⟨_, rfl, p, dx, _, rfl, s3 _ _ hi, p, m, rfl, hpL.same s3, fun q1 kv1 nq1 hk1 => ⟨_, rfl, by show 3 ≤ sizeLine; decide, fun l2 nl2 => ?_⟩⟩
    have s4 : Same H3 (upd (upd H3 q1 (.dK kv1)) l2 (.lst [.ref q1, odd, .int 0])) := (same_new nq1).trans (same_new nl2)
    have e2 : (upd (upd H3 q1 (.dK kv1)) l2 (.lst [.ref q1, odd, .int 0])) l2 = some (.lst [.ref q1, odd, .int 0]) := upd_same
    have f1 : IntD (upd (upd H3 q1 (.dK kv1)) l2 (.lst [.ref q1, odd, .int 0])) q1 m.start := ⟨kv1, same_new nl2 _ _ upd_same, hk1⟩
    generalize upd (upd H3 q1 (.dK kv1)) l2 (.lst [.ref q1, odd, .int 0]) = H4 at s4 e2 f1 ⊢
    have s24 := s3.trans s4
    refine ⟨_, rfl, p, dx, _, rfl, s24 _ _ hi, p, m, rfl, hpL.same s24, fun q2 kv2 nq2 hk2 => ?_⟩
    have s5 : Same H4 (upd H4 q2 (.dK kv2)) := same_new nq2
    have f2 : IntD (upd H4 q2 (.dK kv2)) q2 m.start := ⟨kv2, upd_same, hk2⟩
    generalize upd H4 q2 (.dK kv2) = H5 at s5 f2 ⊢
    have s25 := s24.trans s5
    refine ⟨_, rfl, p, dx, _, rfl, s25 _ _ hi, p, m, rfl, hpL.same s25, ok, fun q3 H6 s6 nq3 g3 => ⟨by show 3 ≤ sizeLine; decide, fun l3 nl3 => ?_⟩⟩
    have stp : ∀ {Ha Hb : Hp} {x : Addr}, StpNew Ha Hb x m.steps → StpD Hb x m.steps := fun ⟨kvs, z1, z2⟩ => ⟨kvs, z1, z2.mono fun v l ⟨b, y1, _, _, y2⟩ => ⟨b, y1, y2⟩⟩
    have s7 : Same H6 (upd H6 l3 (.lst [.ref q2, .ref q3, .int 0])) := same_new nl3
    have e3 : (upd H6 l3 (.lst [.ref q2, .ref q3, .int 0])) l3 = some (.lst [.ref q2, .ref q3, .int 0]) := upd_same
    have f3 : StpD (upd H6 l3 (.lst [.ref q2, .ref q3, .int 0])) q3 m.steps := (stp g3).same s7
    generalize upd H6 l3 (.lst [.ref q2, .ref q3, .int 0]) = H7 at s7 e3 f3 ⊢
    have s27 := s25.trans (s6.trans s7)
    refine ⟨_, rfl, _, rfl, p, dx, _, rfl, s27 _ _ hi, p, m, rfl, hpL.same s27, ok, fun q4 H8 s8 nq4 g4 => ⟨by show 3 ≤ sizeLine; decide, fun l4 nl4 => ⟨by show 4 ≤ sizeLine; decide, fun pp npp => ?_⟩⟩⟩
    have s9 : Same H8 (upd (upd H8 l4 (.lst [odd, .ref q4, .int 0])) pp (.lst [.ref l1, .ref l2, .ref l3, .ref l4])) := (same_new nl4).trans (same_new npp)
    have e4 : (upd (upd H8 l4 (.lst [odd, .ref q4, .int 0])) pp (.lst [.ref l1, .ref l2, .ref l3, .ref l4])) l4 = some (.lst [odd, .ref q4, .int 0]) := same_new npp _ _ upd_same
    have e5 : (upd (upd H8 l4 (.lst [odd, .ref q4, .int 0])) pp (.lst [.ref l1, .ref l2, .ref l3, .ref l4])) pp = some (.lst [.ref l1, .ref l2, .ref l3, .ref l4]) := upd_same
    have f4 : StpD (upd (upd H8 l4 (.lst [odd, .ref q4, .int 0])) pp (.lst [.ref l1, .ref l2, .ref l3, .ref l4])) q4 m.steps := (stp g4).same s9
    generalize upd (upd H8 l4 (.lst [odd, .ref q4, .int 0])) pp (.lst [.ref l1, .ref l2, .ref l3, .ref l4]) = H9 at s9 e4 e5 f4 ⊢
    have s79 := s8.trans s9
    have s29 := s27.trans s79
    refine ⟨by show 4 ≤ sizeLine; decide, fun du ndu => ?_⟩
    have s10 : Same H9 (upd H9 du (.lst [.str "start", .str "steps", .str "last", .str "start"])) := same_new ndu
    have e6 : (upd H9 du (.lst [.str "start", .str "steps", .str "last", .str "start"])) du = some (.lst [.str "start", .str "steps", .str "last", .str "start"]) := upd_same
    generalize upd H9 du (.lst [.str "start", .str "steps", .str "last", .str "start"]) = H10 at s10 e6 ⊢
    -- all of it without the draws
    have s210 : Same H2 H10 := s29.trans s10
    have BN10 : ButN d l H2 H10 := (But.of s210).n
    have newc : ∀ {x : Addr} {o : HO}, H2 x = none → H10 x = some o → (∀ ps, o ≠ .tbl ps) → cut d l H10 x = some o := fun n e nt => cut_at e (D2.off n).1 (D2.off n).2 nt
    have g : FF (cut d l H10) m odd pp l1 l2 l3 l4 q1 q2 q3 q4 du := by
      have m1 : H2 l1 = none := nl1
      have m2 : H2 l2 = none := s3.free (HLam.upd_none nl2)
      have m3 : H2 l3 = none := (s25.trans s6).free nl3
      have m4 : H2 l4 = none := (s27.trans s8).free nl4
      have m5 : H2 pp = none := (s27.trans s8).free (HLam.upd_none npp)
      have m6 : H2 du = none := s29.free ndu
      have m7 : H2 q1 = none := s3.free nq1
      have m8 : H2 q2 = none := s24.free nq2
      have m9 : H2 q3 = none := s25.free nq3
      have m10 : H2 q4 = none := s27.free nq4
      have s410 : Same H4 H10 := s5.trans ((s6.trans s7).trans (s79.trans s10))
      have dict : ∀ {x : Addr} {ls : List (Str × Int)} {Hx : Hp}, H2 x = none → Same Hx H10 → IntD Hx x ls → IntD (cut d l H10) x ls := fun n s ⟨ks, z1, z2⟩ => ⟨ks, newc n (s _ _ z1) (fun _ z => by cases z), z2⟩
      refine ⟨newc m1 ((s4.trans s410) _ _ e1) (fun _ z => by cases z), newc m2 (s410 _ _ e2) (fun _ z => by cases z), newc m3 ((s79.trans s10) _ _ e3) (fun _ z => by cases z), newc m4 (s10 _ _ e4) (fun _ z => by cases z), newc m5 (s10 _ _ e5) (fun _ z => by cases z), newc m6 e6 (fun _ z => by cases z),
        dict m7 s410 f1, dict m8 ((s6.trans s7).trans (s79.trans s10)) f2, ?_, ?_, hO.same BN10.cut⟩
      · exact stpNew_cut (H2 := H2) g3 (s7.trans (s79.trans s10)) (fun b n => D2.off (s25.free n)) (D2.off m9) (D2.same s210)
      · exact stpNew_cut (H2 := H2) g4 (s9.trans s10) (fun b n => D2.off (s27.free n)) (D2.off m10) (D2.same s210)
    have D10 := D2.same s210
    have T10 := T2.ext s210
    have BN := BN2.trans BN10
    clear s3 s4 s5 s6 s7 s8 s9 s10 s24 s25 s27 s79 s29 e1 e2 e3 e4 e5 e6 f1 f2 f3 f4 g3 g4 nl1 nl2 nl3 nl4 npp ndu nq1 nq2 nq3 nq4 hk1 hk2 newc stp s210 BN10
    refine ⟨4, rfl, by decide, by decide, for_range (fun i σ Hi => ∃ y5 y6, σ = [some (.ref d), some (.ref p), some odd, some (.ref pp), some (.ref du), y5, y6] ∧ Drw Hi d l c ∧ Tabs T Hi ∧ ButN d l H Hi ∧ FF (cut d l Hi) m odd pp l1 l2 l3 l4 q1 q2 q3 q4 du)
      ⟨_, _, rfl, D10, T10, BN, g⟩ ?_ ?_⟩
    · rintro i σ Hi hi4 ⟨y5, y6, rfl, Di, Ti, Bi, gi⟩
      have hi4 : i < 4 := hi4
      refine ⟨Ti, fun G1 eN T1 => ?_⟩
      have B1 : ButN d l Hi G1 := .ext eN
      have D1 := Di.extN eN
      have g1 := gi.same B1.cut
      obtain ⟨li, v, u, part, x1, x2, x3, x4⟩ := g1.err ok i hi4
      have x2 := cut_le _ _ x2
      have at_ : ∀ {xs : List V} {y : V}, xs[i]? = some y → atI xs (0 + (i : Int)) = some y := fun {xs y} h => at_of (by omega) h
      refine ⟨_, rfl, _, rfl, pp, _, 0 + (i : Int), .ref li, rfl, rfl, SqL.of (cut_le _ _ g1.e5), at_ x1, li, _, 0, v, rfl, rfl, SqL.of x2, rfl,
        _, rfl, _, rfl, pp, _, 0 + (i : Int), .ref li, rfl, rfl, SqL.of (cut_le _ _ g1.e5), at_ x1, li, _, 1, u, rfl, rfl, SqL.of x2, rfl,
        _, rfl, _, rfl, pp, _, 0 + (i : Int), .ref li, rfl, rfl, SqL.of (cut_le _ _ g1.e5), at_ x1, li, _, 2, .int 0, rfl, rfl, SqL.of x2, rfl, fun x dx nx ndx ne => ?_⟩
      have sx : Same G1 (upd (upd G1 dx (.own x)) x (.ins C dx [])) := same_made nx ndx
      refine (x4.same (cut_le.trans sx)).init (.int 0) fun dd H' s' nd => ⟨EB.ex, fun a na => ?_⟩
      have s5 : Same G1 (upd (upd H' dd (.xd [("part", .str part)])) a (exq a (.ref CB) (some dd))) := sx.trans ((s'.trans (same_new nd)).trans (same_new na))
      have qa : QAt (upd (upd H' dd (.xd [("part", .str part)])) a (exq a (.ref CB) (some dd))) a CB [("part", .str part)] := ⟨dd, upd_same, same_new na _ _ upd_same⟩
      generalize upd (upd H' dd (.xd [("part", .str part)])) a (exq a (.ref CB) (some dd)) = G2 at s5 qa ⊢
      have B2 := B1.trans (But.of s5).n
      have g2 := gi.same B2.cut
      refine ⟨_, rfl, a, CB, _, .ref CB, .ref CB, true, rfl, qa, EB.is, .own CB, EB.own, _, rfl, iteF ⟨_, rfl, a, CB, _, .str part, rfl, qa, EB.is, EB.no, rfl, _, rfl, _, rfl, du, _, 0 + (i : Int), .str part, rfl, rfl, SqL.of (cut_le _ _ g2.e6), at_ x3, rfl, false, ?_, iteF ?_⟩⟩
      · show V.bl (!decide _) = _
        rw [decide_eq_true rfl]
        rfl
      · exact ⟨_, _, rfl, D1.same s5, T1.ext s5, Bi.trans B2, g2⟩
    · rintro σ Hi ⟨y5, y6, rfl, Di, Ti, Bi, gi⟩
      exact q Hi Di Ti Bi
end
end Kn
-- part SWay
set_option maxHeartbeats 4000000
/-! The ways in which a loop's parts are told otherwise. -/
namespace Kn
open PySem PySem.Spec PyProof.Rows L2 Err
def BadSum (t : Str) (w : W) : Prop := SumIn w ∧ ∀ (ks : List (Key × V)) (names : List Str), ks.map (·.1) = names.map Sum.inr → t ∈ names → (∀ x ∈ names, x ∈ TI) → isSumW ks w = false
def BadLast (t : Str) (w : W) : Prop := SumIn w ∧ ∀ (ks : List (Key × V)) (names : List Str), ks.map (·.1) = names.map Sum.inr → t ∈ names → (∀ x ∈ names, x ∈ TI) → isLastW ks w = false
theorem one_in {x : Str} {p c : W} : SumIn (.tup [.tup [.str x, p, c]]) := fun w hw => by
  rw [List.mem_singleton.mp hw]
  exact ⟨x, rfl⟩
theorem one_bad {ks : List (Key × V)} {x : Str} {p c : W} (h : (withinW 0 2 p && (withinW (-9) 9 c && nzW c)) = false) : isSumW ks (.tup [.tup [.str x, p, c]]) = false := by
  show ((((isEmptyW (.str x) || isKeyOf ks (.str x)) && (withinW 0 2 p && (withinW (-9) 9 c && nzW c))) && true) && ascW _) = false
  rw [h, Bool.and_false]
  rfl
theorem bad_one (t : Str) {p c : W} (h : (withinW 0 2 p && (withinW (-9) 9 c && nzW c)) = false) : BadSum t (.tup [.tup [.str t, p, c]]) := ⟨one_in, fun _ _ _ _ _ => one_bad h⟩
theorem bad_lst (t : Str) (ws : List W) : BadSum t (.lst ws) := ⟨trivial, fun _ _ _ _ _ => rfl⟩
theorem bad_non (t : Str) : BadSum t .non := ⟨trivial, fun _ _ _ _ _ => rfl⟩
theorem q_ti : ("q" : Str) ∉ TI := by decide +kernel
theorem t_ti : ("t" : Str) ∉ TI := by decide +kernel
theorem e_ti : ("" : Str) ∉ TI := by decide +kernel
theorem bad_q (t : Str) : BadSum t (.tup [.tup [.str "q", .int 0, .int 1]]) := ⟨one_in, fun ks names h _ hT => by
  have k : isKeyOf ks (.str "q") = false := by
    rw [key_in h, decide_eq_false]
    exact fun z => q_ti (hT _ z)
  show ((((isEmptyW (.str "q") || isKeyOf ks (.str "q")) && _) && true) && ascW _) = false
  rw [k]
  rfl⟩
theorem ti_gt : ∀ t ∈ TI, lt2 (t, 0) ("", 0) = false := by decide +kernel
theorem bad_two {t : Str} (ht : t ∈ TI) : BadSum t (.tup [.tup [.str t, .int 0, .int 1], .tup [.str "", .int 0, .int 1]]) := by
  refine ⟨fun w hw => ?_, fun ks names h _ hT => ?_⟩
  · rcases List.mem_cons.mp hw with e | e
    · rw [e]; exact ⟨_, rfl⟩
    · rw [List.mem_singleton.mp e]; exact ⟨_, rfl⟩
  · show (_ && (lt2 (t, 0) ("", 0) && true)) = false
    rw [ti_gt t ht]
    exact Bool.and_false _
theorem bad_last1 (t : Str) : BadLast t (.tup [.tup [.str t, .int 1, .int 1]]) := ⟨one_in, fun _ _ _ _ _ => Bool.and_false _⟩
theorem bad_last2 (t : Str) (ws : List W) : BadLast t (.lst ws) := ⟨trivial, fun _ _ _ _ _ => rfl⟩
theorem bad_last3 (t : Str) : BadLast t (.tup [.str t, .int 0, .int 1]) := by
  refine ⟨fun w hw => ?_, fun _ _ _ _ _ => rfl⟩
  simp only [List.mem_cons, List.not_mem_nil, or_false] at hw
  rcases hw with rfl | rfl | rfl <;> trivial
theorem bad_last4 (t : Str) : BadLast t (.int 0) := ⟨trivial, fun _ _ _ _ _ => rfl⟩
theorem fine_two {t : Str} (ht : t ∈ TI) : ∀ names, t ∈ names → SumOk names [("", 2, -9), (t, 2, 9)] := fun names h => by
  have z : ∀ t ∈ TI, lt2 ("", 2) (t, 2) = true := by decide +kernel
  refine ⟨fun m hm => ?_, ?_⟩
  · rcases List.mem_cons.mp hm with e | e
    · rw [e]
      exact tm_in (.inl rfl) (by decide) (by decide) (by decide) (by decide) (by decide)
    · rw [List.mem_singleton.mp e]
      exact tm_in (.inr h) (by decide) (by decide) (by decide) (by decide) (by decide)
  · show (lt2 ("", 2) (t, 2) && true) = true
    rw [z t ht]
    rfl
inductive Way (G : Hp) (t : Str) : V → Prop
  | start {a : Addr} {f : V} {w : W} (e : G a = some (.tup [.str "start", .str t, f])) (i : Is G f w) (b : withinW (-99) 99 w = false) : Way G t (.ref a)
  | startT {a : Addr} (e : G a = some (.tup [.str "start", .str "t", .int 0])) : Way G t (.ref a)
  | none {a : Addr} (e : G a = some (.tup [.str "none", .str t, .int 99])) : Way G t (.ref a)
  | steps {a : Addr} {f : V} {w : W} (e : G a = some (.tup [.str "steps", .str t, f])) (i : Is G f w) (b : BadSum t w) : Way G t (.ref a)
  | stepsQ {a : Addr} {f : V} (e : G a = some (.tup [.str "steps", .str "q", f])) (i : Is G f (sumW [])) : Way G t (.ref a)
  | last {a : Addr} {f : V} {w : W} (e : G a = some (.tup [.str "last", .str "", f])) (i : Is G f w) (b : BadLast t w) : Way G t (.ref a)
  | fine {a b : Addr} {tms : List Tm} (e : G a = some (.tup [.str "fine", .str t, .ref b])) (i : Is G (.ref b) (sumW tms)) (o : ∀ names, t ∈ names → SumOk names tms) : Way G t (.ref a)
  | kinds {a : Addr} {k : Str} (e : G a = some (.tup [.str "kinds", .str k, .int 0])) (h : k = "t" ∨ k = "") : Way G t (.ref a)
theorem Way.same {G G' : Hp} {t : Str} {v : V} (h : Way G t v) (s : Same G G') : Way G' t v := by
  cases h with
  | start e i b => exact .start (s _ _ e) (i.same s) b
  | startT e => exact .startT (s _ _ e)
  | none e => exact .none (s _ _ e)
  | steps e i b => exact .steps (s _ _ e) (i.same s) b
  | stepsQ e i => exact .stepsQ (s _ _ e) (i.same s)
  | last e i b => exact .last (s _ _ e) (i.same s) b
  | fine e i o => exact .fine (s _ _ e) (i.same s) o
  | kinds e h => exact .kinds (s _ _ e) h
/-- three in a new tuple -/
theorem is_tm1 {G : Hp} {a b : Addr} {x : Str} {p c : V} {wp wc : W} (e : G a = some (.tup [.ref b])) (e2 : G b = some (.tup [.str x, p, c])) (sm : x.cps.size ≤ 900 ∧ PyData.strOk x = true) (hp : Is G p wp) (hc : Is G c wc) : Is G (.ref a) (.tup [.tup [.str x, wp, wc]]) :=
  .tup (by show 1 ≤ 900; decide) (.inl e) (.cons (.tup (by show 3 ≤ 900; decide) (.inl e2) (.cons (.str _ sm.1 sm.2) (.cons hp (.cons hc .nil)))) .nil)
theorem is_lm1 {G : Hp} {a b : Addr} {x : Str} {p c : V} {wp wc : W} (e : G a = some (.lst [.ref b])) (e2 : G b = some (.tup [.str x, p, c])) (sm : x.cps.size ≤ 900 ∧ PyData.strOk x = true) (hp : Is G p wp) (hc : Is G c wc) : Is G (.ref a) (.lst [.tup [.str x, wp, wc]]) :=
  .lst (by show 1 ≤ 900; decide) e (.cons (.tup (by show 3 ≤ 900; decide) (.inl e2) (.cons (.str _ sm.1 sm.2) (.cons hp (.cons hc .nil)))) .nil)
theorem is_t3 {G : Hp} {b : Addr} {x : Str} {p c : V} {wp wc : W} (e2 : G b = some (.tup [.str x, p, c])) (sm : x.cps.size ≤ 900 ∧ PyData.strOk x = true) (hp : Is G p wp) (hc : Is G c wc) : Is G (.ref b) (.tup [.str x, wp, wc]) :=
  .tup (by show 3 ≤ 900; decide) (.inl e2) (.cons (.str _ sm.1 sm.2) (.cons hp (.cons hc .nil)))
end Kn
-- part SCpy
set_option maxHeartbeats 4000000
/-! A loop's parts, copied: what stands where. -/
namespace Kn
open PySem PySem.Spec PyProof.Rows L2 Err
theorem KvP.imp_mem {β : Type} {R R' : V → β → Prop} {ks : List (Key × V)} {l : List (Str × β)} (h : KvP R ks l) : (∀ v b, v ∈ ks.map (·.2) → R v b → R' v b) → KvP R' ks l := by
  induction h with
  | nil => exact fun _ => .nil
  | cons h _ ih => exact fun f => .cons (f _ _ (List.mem_cons_self ..) h) (ih fun v b hv => f v b (List.mem_cons_of_mem _ hv))
theorem sum_rest2 {d l : Addr} {L L' : List Addr} {H : Hp} {v : V} {ts : List Tm} (hL : ∀ x ∈ L', ∃ kvs, H x = some (.dK kvs)) (h : Is (rest d l L H) v (sumW ts)) : Is (rest d l L' H) v (sumW ts) := by
  refine is_sum_to (fun a xs e => ?_) h
  rcases e with e | ⟨o, e⟩
  · obtain ⟨n1, n2, _, e2, _⟩ := rest_ne e
    refine .inl (rest_at e2 n1 n2 fun z => ?_)
    obtain ⟨kvs, q⟩ := hL _ z
    rw [e2] at q
    cases q
  · obtain ⟨n1, n2, _, e2, _⟩ := rest_ne e
    refine .inr ⟨o, rest_at e2 n1 n2 fun z => ?_⟩
    obtain ⟨kvs, q⟩ := hL _ z
    rw [e2] at q
    cases q
theorem start_ti : ("start" : Str) ∉ TI := by decide +kernel
/-- found: the copy at fo, its own dicts at sd, sn and b0 -/
structure Cpy (G : Hp) (d l c fo sd sn b0 ls : Addr) (s t : Str) (i0 : Int) (st' : List (Str × Int)) (ts0 : List Tm) (sm' : Sums) (stp' : Stps) (la : List Tm) (ks kn kb : List (Key × V)) (v0 : V) : Prop where
  D : Drw G d l c
  eF : G fo = some (.dK (fok sd sn (.ref ls)))
  eS : G sd = some (.dK ((.inr t, .int i0) :: ks))
  kS : KvP IntR ks st'
  eN : G sn = some (.dK ((.inr s, .ref b0) :: kn))
  kN : KvP (StpR (rest d l [b0, fo, sd, sn] G)) kn stp'
  eB : G b0 = some (.dK ((.inr t, v0) :: kb))
  k0 : SumR (rest d l [b0, fo, sd, sn] G) v0 ts0
  kB : KvP (SumR (rest d l [b0, fo, sd, sn] G)) kb sm'
  iL : Is (rest d l [b0, fo, sd, sn] G) (.ref ls) (sumW la)
  n1 : fo ≠ sd
  n2 : fo ≠ sn
  n3 : fo ≠ b0
  n4 : sd ≠ sn
  n5 : sd ≠ b0
  n6 : sn ≠ b0
  o1 : fo ≠ d ∧ fo ≠ l
  o2 : sd ≠ d ∧ sd ≠ l
  o3 : sn ≠ d ∧ sn ≠ l
  o4 : b0 ≠ d ∧ b0 ≠ l
theorem Cpy.go {G G' : Hp} {d l c fo sd sn b0 ls : Addr} {s t : Str} {i0 : Int} {st' : List (Str × Int)} {ts0 : List Tm} {sm' : Sums} {stp' : Stps} {la : List Tm} {ks kn kb : List (Key × V)} {v0 : V} (h : Cpy G d l c fo sd sn b0 ls s t i0 st' ts0 sm' stp' la ks kn kb v0) (D : Drw G' d l c) (B : But d l G G') : Cpy G' d l c fo sd sn b0 ls s t i0 st' ts0 sm' stp' la ks kn kb v0 := by
  have s := rest_but (L := [b0, fo, sd, sn]) B
  exact ⟨D, B _ _ h.eF h.o1.1 h.o1.2, B _ _ h.eS h.o2.1 h.o2.2, h.kS, B _ _ h.eN h.o3.1 h.o3.2, h.kN.mono fun _ _ r => r.same s, B _ _ h.eB h.o4.1 h.o4.2, h.k0.same s, h.kB.mono fun _ _ r => r.same s, h.iL.same s, h.n1, h.n2, h.n3, h.n4, h.n5, h.n6, h.o1, h.o2, h.o3, h.o4⟩
theorem putK_head {k : Key} {v x : V} {r : List (Key × V)} (n : k ∉ r.map (·.1)) : putK ((k, v) :: r) k x = (k, x) :: r := by
  unfold putK
  have h : ((k, v) :: r).any (fun p => decide (p.1 = k)) = true := by simp
  rw [if_pos h, List.map_cons, if_pos rfl]
  refine congrArg ((k, x) :: ·) ?_
  conv => rhs; rw [← List.map_id r]
  refine List.map_congr_left fun p hp => ?_
  rw [if_neg fun z => n (List.mem_map.mpr ⟨p, hp, z⟩)]
  rfl
/-- the names of the parts -/
structure CpyN (s t : Str) (i0 : Int) (st' : List (Str × Int)) (ts0 : List Tm) (sm' : Sums) (stp' : Stps) (la : List Tm) : Prop where
  ok : LoopOk ⟨(t, i0) :: st', (s, (t, ts0) :: sm') :: stp', la⟩
/-- what comes back: told, and what of it is wrong -/
def LaterOk (d l : Addr) (m : Lm) (fo : Addr) (due : List V) (H : Hp) : Prop :=
  (∃ part sd sn lv wl, due = [.str part] ∧ H fo = some (.dK (fok sd sn lv)) ∧ Is (cut d l H) lv wl ∧ ErrL (cut d l H) (.ref sd) (.ref sn) wl part) ∨
  (due = [] ∧ ∃ m' sd sn ls, H fo = some (.dK (fok sd sn (.ref ls))) ∧ IntD (cut d l H) sd m'.start ∧ StpD (cut d l H) sn m'.steps ∧ Is (cut d l H) (.ref ls) (sumW m'.last) ∧ LoopOk m' ∧ m'.steps.map (·.1) = m.steps.map (·.1))
end Kn
-- part SCpy2
set_option maxHeartbeats 4000000
/-! What each way makes of the copy. -/
namespace Kn
open PySem PySem.Spec PyProof.Rows L2 Err
section
variable {G : Hp} {d l c fo sd sn b0 ls : Addr} {s t : Str} {i0 : Int} {st' : List (Str × Int)} {ts0 : List Tm} {sm' : Sums} {stp' : Stps} {la : List Tm} {ks kn kb : List (Key × V)} {v0 : V}
/-- what stands beside the four, behind a write into one of them -/
structure Beside (C : Hp) (s t : Str) (st' : List (Str × Int)) (ts0 : List Tm) (sm' : Sums) (stp' : Stps) (la : List Tm) (ks kn kb : List (Key × V)) (v0 : V) (ls : Addr) : Prop where
  kS : KvP IntR ks st'
  kN : KvP (StpR C) kn stp'
  k0 : SumR C v0 ts0
  kB : KvP (SumR C) kb sm'
  iL : Is C (.ref ls) (sumW la)
theorem Cpy.beside (h : Cpy G d l c fo sd sn b0 ls s t i0 st' ts0 sm' stp' la ks kn kb v0) {x : Addr} {o : HO} (hx : x ∈ [b0, fo, sd, sn]) : Beside (cut d l (upd G x o)) s t st' ts0 sm' stp' la ks kn kb v0 ls := by
  have s : Same (rest d l [b0, fo, sd, sn] G) (cut d l (upd G x o)) := (rest_upd hx).trans rest_cut
  exact ⟨h.kS, h.kN.mono fun _ _ r => r.same s, h.k0.same s, h.kB.mono fun _ _ r => r.same s, h.iL.same s⟩
variable (ok : LoopOk ⟨(t, i0) :: st', (s, (t, ts0) :: sm') :: stp', la⟩)
include ok
theorem cpy_tT : t ∈ TI := ok.nm.ti.inT t (List.mem_cons_self ..)
theorem cpy_smt : t.cps.size ≤ 900 ∧ PyData.strOk t = true := sm_ti ok.nm.ti.inT t (List.mem_cons_self ..)
theorem cpy_sms : s.cps.size ≤ 900 ∧ PyData.strOk s = true := sm_ti ok.kn.ti.inT s (List.mem_cons_self ..)
theorem cpy_len : st'.length ≤ 2 ∧ stp'.length ≤ 2 ∧ sm'.length ≤ 2 := by
  have a := ok.nm.n3
  have b := ok.kn.n3
  have e := congrArg List.length (ok.ss _ (List.mem_cons_self ..)).1
  unfold Lm.names at a e
  simp only [List.map_cons, List.length_cons, List.length_map] at a b e
  omega
theorem cpy_smn : (t :: sm'.map (·.1)) = (t :: st'.map (·.1)) := (ok.ss _ (List.mem_cons_self ..)).1
theorem cpy_is_start {C : Hp} {a : Addr} {f : V} {w : W} (kS : KvP IntR ks st') (e : C a = some (.dK ((.inr t, f) :: ks))) (i : Is C f w) : Is C (.ref a) (.dct ((some (.inr t), w) :: st'.map fun p => (some (.inr p.1), .int p.2))) := by
  have := kS.len
  have := (cpy_len ok).1
  refine .dct (by simp only [List.map_cons, List.length_cons, List.length_map]; omega) ⟨_, .inl e, rfl⟩ ?_
  exact .cons (cpy_smt ok) i (is_kv (f := fun i => .int i) kS (fun p _ v r => by rw [show v = V.int p.2 from r]; exact .int _) fun x hx => ok.nm.sm x (List.mem_cons_of_mem _ hx))
theorem cpy_is_b0 {C : Hp} {a : Addr} {f : V} {w : W} (kB : KvP (SumR C) kb sm') (e : C a = some (.dK ((.inr t, f) :: kb))) (i : Is C f w) : Is C (.ref a) (.dct ((some (.inr t), w) :: sm'.map fun p => (some (.inr p.1), sumW p.2))) := by
  have := kB.len
  have := (cpy_len ok).2.2
  have hm := cpy_smn ok
  refine .dct (by simp only [List.map_cons, List.length_cons, List.length_map]; omega) ⟨_, .inl e, rfl⟩ ?_
  refine .cons (cpy_smt ok) i (is_kv (f := fun ts => sumW ts) kB (fun p _ v ⟨t, e, i⟩ => by rw [e]; exact i) fun x hx => ok.nm.sm x ?_)
  show x ∈ t :: st'.map (·.1)
  rw [← hm]
  exact List.mem_cons_of_mem _ hx
theorem cpy_is_sn {C : Hp} {a b : Addr} {w : W} (kN : KvP (StpR C) kn stp') (e : C a = some (.dK ((.inr s, .ref b) :: kn))) (i : Is C (.ref b) w) : Is C (.ref a) (.dct ((some (.inr s), w) :: stp'.map fun p => (some (.inr p.1), sumsW p.2))) := by
  have := kN.len
  have := (cpy_len ok).2.1
  refine .dct (by simp only [List.map_cons, List.length_cons, List.length_map]; omega) ⟨_, .inl e, rfl⟩ ?_
  refine .cons (cpy_sms ok) i (is_kv (f := fun ts => sumsW ts) kN (fun p hp v ⟨q, e, i⟩ => ?_) fun x hx => ok.kn.sm x (List.mem_cons_of_mem _ hx))
  rw [e]
  exact i.is (by rw [(ok.ss p (List.mem_cons_of_mem _ hp)).1]; exact ok.nm)
omit ok in
theorem IsKV.app {H : Hp} : ∀ {xs ys : List (Option Key × V)} {ws vs : List (Option Key × W)}, IsKV H xs ws → IsKV H ys vs → IsKV H (xs ++ ys) (ws ++ vs)
  | _, _, _, _, .nil, h => h
  | _, _, _, _, .cons a b t, h => .cons a b (IsKV.app t h)
omit ok in
theorem badT {x : Option Key × W} {l : List (Option Key × W)} : isStartW (.dct ((x :: l) ++ [(some (.inr "t"), .int 0)])) = false := by
  have z : isNameK (some (.inr "t")) = false := by decide +kernel
  show (((_ : Bool) && ((_ : Bool) && (((x :: l) ++ [((some (Sum.inr "t") : Option Key), W.int 0)] : List (Option Key × W))).all fun p => isNameK p.1)) && _) = false
  rw [List.all_append]
  show (((_ : Bool) && ((_ : Bool) && ((_ : Bool) && (isNameK (some (.inr "t")) && true)))) && _) = false
  rw [z]
  simp
omit ok in
theorem badK {k : Str} (hk : k = "t" ∨ k = "") {x : Option Key × W} {l : List (Option Key × W)} {y : W} {ks : List (Key × V)} : areStepsW ks (.dct ((x :: l) ++ [(some (.inr k), y)])) = false := by
  have z : isNameK (some (.inr k)) = false := by rcases hk with rfl | rfl <;> decide +kernel
  show (((_ : Bool) && ((_ : Bool) && (((x :: l) ++ [(some (Sum.inr k), y)] : List (Option Key × W))).all fun p => isNameK p.1)) && _) = false
  rw [List.all_append]
  show (((_ : Bool) && ((_ : Bool) && ((_ : Bool) && (isNameK (some (.inr k)) && true)))) && _) = false
  rw [z]
  simp
omit ok in
theorem deep_sn2 {C : Hp} {o : HO} (h : Cpy G d l c fo sd sn b0 ls s t i0 st' ts0 sm' stp' la ks kn kb v0) (kN : KvP (StpR C) kn stp') (eB : C b0 = some o) : ∀ p ∈ kn, NF C p.2 ∧ p.2 ≠ .ref sn := fun p hp => by
  obtain ⟨i, hi⟩ := List.getElem?_of_mem hp
  obtain ⟨k, v⟩ := p
  obtain ⟨_, _, _, _, a, rfl, z⟩ := kN.at_ hi
  obtain ⟨_, _, _, _, a2, e2, z2⟩ := h.kN.at_ hi
  obtain ⟨kq, e3, _⟩ := id z
  obtain ⟨kq2, e4, _⟩ := z2
  refine ⟨nf_of e3 (fun _ _ z => by cases z), fun y => ?_⟩
  have q := (rest_ne e4).2.2.1
  have e5 : a2 = sn := V.ref.inj (e2.symm.trans y)
  rw [e5] at q
  exact q (by simp)
omit ok in
theorem deep_sn {C : Hp} {kb2 : List (Key × V)} (h : Cpy G d l c fo sd sn b0 ls s t i0 st' ts0 sm' stp' la ks kn kb v0) (kN : KvP (StpR C) kn stp') (eN : C sn = some (.dK ((.inr s, .ref b0) :: kn))) (eB : C b0 = some (.dK kb2)) : Deep C (.ref sn) := by
  intro a2 ks2 ea e p hp
  rw [← V.ref.inj ea, eN] at e
  cases e
  rw [← V.ref.inj ea]
  rcases List.mem_cons.mp hp with y | y
  · rw [y]; exact ⟨nf_of eB (fun _ _ z => by cases z), fun z => h.n6 (V.ref.inj z).symm⟩
  · exact deep_sn2 h kN eB p y
theorem way_start (h : Cpy G d l c fo sd sn b0 ls s t i0 st' ts0 sm' stp' la ks kn kb v0) {f : V} {w : W} (i : Is (cut d l (upd G sd (.dK ((.inr t, f) :: ks)))) f w) (b : withinW (-99) 99 w = false) : LaterOk d l ⟨(t, i0) :: st', (s, (t, ts0) :: sm') :: stp', la⟩ fo [.str "start"] (upd G sd (.dK ((.inr t, f) :: ks))) := by
  have B := h.beside (x := sd) (o := (.dK ((.inr t, f) :: ks))) (by simp)
  have oS : sd ≠ sd → cut d l (upd G sd (.dK ((.inr t, f) :: ks))) sd = some (.dK ((.inr t, .int i0) :: ks)) := fun n => cut_at (by rw [upd_ne n.symm]; exact h.eS) h.o2.1 h.o2.2
  have oN : sd ≠ sn → cut d l (upd G sd (.dK ((.inr t, f) :: ks))) sn = some (.dK ((.inr s, .ref b0) :: kn)) := fun n => cut_at (by rw [upd_ne n.symm]; exact h.eN) h.o3.1 h.o3.2
  have oB : sd ≠ b0 → cut d l (upd G sd (.dK ((.inr t, f) :: ks))) b0 = some (.dK ((.inr t, v0) :: kb)) := fun n => cut_at (by rw [upd_ne n.symm]; exact h.eB) h.o4.1 h.o4.2
  have oF : sd ≠ fo → (upd G sd (.dK ((.inr t, f) :: ks))) fo = some (.dK (fok sd sn (.ref ls))) := fun n => by rw [upd_ne n.symm]; exact h.eF
  have at_ : sd ≠ d → sd ≠ l → cut d l (upd G sd (.dK ((.inr t, f) :: ks))) sd = some (.dK ((.inr t, f) :: ks)) := fun n1 n2 => cut_at upd_same n1 n2 (by intro _ z; cases z)
  generalize upd G sd (.dK ((.inr t, f) :: ks)) = G2 at *
  have eS := at_ h.o2.1 h.o2.2
  have iB := cpy_is_b0 ok B.kB (oB h.n5) (show Is _ v0 (sumW ts0) from by obtain ⟨q, rfl, z⟩ := B.k0; exact z)
  exact .inl ⟨"start", sd, sn, .ref ls, _, rfl, oF h.n1.symm, B.iL, _, _, cpy_is_start ok B.kS eS i, nf_of eS (fun _ _ z => by cases z), cpy_is_sn ok B.kN (oN h.n4) iB, .inl ⟨by show (_ && (withinW (-99) 99 w && _)) = false; rw [b]; exact Bool.and_false _, rfl⟩⟩
theorem way_startT (h : Cpy G d l c fo sd sn b0 ls s t i0 st' ts0 sm' stp' la ks kn kb v0)  : LaterOk d l ⟨(t, i0) :: st', (s, (t, ts0) :: sm') :: stp', la⟩ fo [.str "start"] (upd G sd (.dK (((.inr t, .int i0) :: ks) ++ [(.inr "t", .int 0)]))) := by
  have B := h.beside (x := sd) (o := (.dK (((.inr t, .int i0) :: ks) ++ [(.inr "t", .int 0)]))) (by simp)
  have oS : sd ≠ sd → cut d l (upd G sd (.dK (((.inr t, .int i0) :: ks) ++ [(.inr "t", .int 0)]))) sd = some (.dK ((.inr t, .int i0) :: ks)) := fun n => cut_at (by rw [upd_ne n.symm]; exact h.eS) h.o2.1 h.o2.2
  have oN : sd ≠ sn → cut d l (upd G sd (.dK (((.inr t, .int i0) :: ks) ++ [(.inr "t", .int 0)]))) sn = some (.dK ((.inr s, .ref b0) :: kn)) := fun n => cut_at (by rw [upd_ne n.symm]; exact h.eN) h.o3.1 h.o3.2
  have oB : sd ≠ b0 → cut d l (upd G sd (.dK (((.inr t, .int i0) :: ks) ++ [(.inr "t", .int 0)]))) b0 = some (.dK ((.inr t, v0) :: kb)) := fun n => cut_at (by rw [upd_ne n.symm]; exact h.eB) h.o4.1 h.o4.2
  have oF : sd ≠ fo → (upd G sd (.dK (((.inr t, .int i0) :: ks) ++ [(.inr "t", .int 0)]))) fo = some (.dK (fok sd sn (.ref ls))) := fun n => by rw [upd_ne n.symm]; exact h.eF
  have at_ : sd ≠ d → sd ≠ l → cut d l (upd G sd (.dK (((.inr t, .int i0) :: ks) ++ [(.inr "t", .int 0)]))) sd = some (.dK (((.inr t, .int i0) :: ks) ++ [(.inr "t", .int 0)])) := fun n1 n2 => cut_at upd_same n1 n2 (by intro _ z; cases z)
  generalize upd G sd (.dK (((.inr t, .int i0) :: ks) ++ [(.inr "t", .int 0)])) = G2 at *
  have eS := at_ h.o2.1 h.o2.2
  have iB := cpy_is_b0 ok B.kB (oB h.n5) (show Is _ v0 (sumW ts0) from by obtain ⟨q, rfl, z⟩ := B.k0; exact z)
  have ln := (cpy_len ok).1
  have lk := B.kS.len
  have iS : Is (cut d l G2) (.ref sd) (.dct (((some (.inr t), .int i0) :: st'.map fun p => (some (.inr p.1), .int p.2)) ++ [(some (.inr "t"), .int 0)])) := by
    refine .dct (by simp only [List.length_append, List.map_cons, List.length_cons, List.length_map, List.length_nil]; omega) ⟨_, .inl eS, rfl⟩ ?_
    rw [List.map_append]
    exact IsKV.app (.cons (cpy_smt ok) (.int i0) (is_kv (f := fun i => .int i) B.kS (fun p _ v r => by rw [show v = V.int p.2 from r]; exact .int _) fun x hx => ok.nm.sm x (List.mem_cons_of_mem _ hx))) (.cons ⟨by decide, by decide +kernel⟩ (.int 0) .nil)
  refine .inl ⟨"start", sd, sn, .ref ls, _, rfl, oF h.n1.symm, B.iL, _, _, iS, nf_of eS (fun _ _ z => by cases z), cpy_is_sn ok B.kN (oN h.n4) iB, .inl ⟨?_, rfl⟩⟩
  exact badT
theorem way_none (h : Cpy G d l c fo sd sn b0 ls s t i0 st' ts0 sm' stp' la ks kn kb v0)  : LaterOk d l ⟨(t, i0) :: st', (s, (t, ts0) :: sm') :: stp', la⟩ fo [] (upd G sd (.dK ((.inr t, .int 99) :: ks))) := by
  have B := h.beside (x := sd) (o := (.dK ((.inr t, .int 99) :: ks))) (by simp)
  have oS : sd ≠ sd → cut d l (upd G sd (.dK ((.inr t, .int 99) :: ks))) sd = some (.dK ((.inr t, .int i0) :: ks)) := fun n => cut_at (by rw [upd_ne n.symm]; exact h.eS) h.o2.1 h.o2.2
  have oN : sd ≠ sn → cut d l (upd G sd (.dK ((.inr t, .int 99) :: ks))) sn = some (.dK ((.inr s, .ref b0) :: kn)) := fun n => cut_at (by rw [upd_ne n.symm]; exact h.eN) h.o3.1 h.o3.2
  have oB : sd ≠ b0 → cut d l (upd G sd (.dK ((.inr t, .int 99) :: ks))) b0 = some (.dK ((.inr t, v0) :: kb)) := fun n => cut_at (by rw [upd_ne n.symm]; exact h.eB) h.o4.1 h.o4.2
  have oF : sd ≠ fo → (upd G sd (.dK ((.inr t, .int 99) :: ks))) fo = some (.dK (fok sd sn (.ref ls))) := fun n => by rw [upd_ne n.symm]; exact h.eF
  have at_ : sd ≠ d → sd ≠ l → cut d l (upd G sd (.dK ((.inr t, .int 99) :: ks))) sd = some (.dK ((.inr t, .int 99) :: ks)) := fun n1 n2 => cut_at upd_same n1 n2 (by intro _ z; cases z)
  generalize upd G sd (.dK ((.inr t, .int 99) :: ks)) = G2 at *
  have eS := at_ h.o2.1 h.o2.2
  refine .inr ⟨rfl, ⟨(t, 99) :: st', (s, (t, ts0) :: sm') :: stp', la⟩, sd, sn, ls, oF h.n1.symm, ⟨_, eS, .cons rfl B.kS⟩, ⟨_, oN h.n4, .cons ⟨b0, rfl, _, oB h.n5, .cons B.k0 B.kB⟩ B.kN⟩, B.iL, ?_, rfl⟩
  refine ⟨ok.nm, fun p hp => ?_, ok.kn, ok.ss, ok.la, ok.l0⟩
  rcases List.mem_cons.mp hp with e | e
  · rw [e]; show (-99 : Int) ≤ 99 ∧ (99 : Int) ≤ 99; decide
  · exact ok.sv p (List.mem_cons_of_mem _ e)
theorem way_steps (h : Cpy G d l c fo sd sn b0 ls s t i0 st' ts0 sm' stp' la ks kn kb v0) {f : V} {w : W} (i : Is (cut d l (upd G b0 (.dK ((.inr t, f) :: kb)))) f w) (b : BadSum t w) : LaterOk d l ⟨(t, i0) :: st', (s, (t, ts0) :: sm') :: stp', la⟩ fo [.str "steps"] (upd G b0 (.dK ((.inr t, f) :: kb))) := by
  have B := h.beside (x := b0) (o := (.dK ((.inr t, f) :: kb))) (by simp)
  have oS : b0 ≠ sd → cut d l (upd G b0 (.dK ((.inr t, f) :: kb))) sd = some (.dK ((.inr t, .int i0) :: ks)) := fun n => cut_at (by rw [upd_ne n.symm]; exact h.eS) h.o2.1 h.o2.2
  have oN : b0 ≠ sn → cut d l (upd G b0 (.dK ((.inr t, f) :: kb))) sn = some (.dK ((.inr s, .ref b0) :: kn)) := fun n => cut_at (by rw [upd_ne n.symm]; exact h.eN) h.o3.1 h.o3.2
  have oB : b0 ≠ b0 → cut d l (upd G b0 (.dK ((.inr t, f) :: kb))) b0 = some (.dK ((.inr t, v0) :: kb)) := fun n => cut_at (by rw [upd_ne n.symm]; exact h.eB) h.o4.1 h.o4.2
  have oF : b0 ≠ fo → (upd G b0 (.dK ((.inr t, f) :: kb))) fo = some (.dK (fok sd sn (.ref ls))) := fun n => by rw [upd_ne n.symm]; exact h.eF
  have at_ : b0 ≠ d → b0 ≠ l → cut d l (upd G b0 (.dK ((.inr t, f) :: kb))) b0 = some (.dK ((.inr t, f) :: kb)) := fun n1 n2 => cut_at upd_same n1 n2 (by intro _ z; cases z)
  generalize upd G b0 (.dK ((.inr t, f) :: kb)) = G2 at *
  have eB := at_ h.o4.1 h.o4.2
  have eS := oS h.n5.symm
  have eN := oN h.n6.symm
  have iS : IntD (cut d l G2) sd ((t, i0) :: st') := ⟨_, eS, .cons rfl B.kS⟩
  have kst : ((((.inr t, .int i0) :: ks) : List (Key × V)).map (·.1)) = (t :: st'.map (·.1)).map Sum.inr := (show KvP IntR ((.inr t, .int i0) :: ks) ((t, i0) :: st') from .cons rfl B.kS).keys
  have iB := cpy_is_b0 ok B.kB eB i
  have bad : isSumW ((.inr t, .int i0) :: ks) w = false := b.2 _ _ kst (List.mem_cons_self ..) ok.nm.ti.inT
  refine .inl ⟨"steps", sd, sn, .ref ls, _, rfl, oF h.n3.symm, B.iL, _, _, iS.is ok.nm, iS.nf, cpy_is_sn ok B.kN eN iB, .inr ⟨sd, _, rfl, eS, isStart_ok ok.nm ok.sv, nf_of eN (fun _ _ z => by cases z), deep_sn h B.kN eN eB, (fun z => h.n4 (V.ref.inj z).symm), ?_, .inl ⟨?_, rfl⟩⟩⟩
  · intro p hp
    rcases List.mem_cons.mp hp with e | e
    · rw [e]
      intro q hq
      rcases List.mem_cons.mp hq with e2 | e2
      · rw [e2]; exact b.1
      · obtain ⟨z, _, e3⟩ := List.mem_map.mp e2
        rw [← e3]; exact sumIn_ok z.2
    · obtain ⟨z, _, e3⟩ := List.mem_map.mp e
      rw [← e3]
      intro q hq
      obtain ⟨y, _, e4⟩ := List.mem_map.mp hq
      rw [← e4]; exact sumIn_ok y.2
  · show (isDctN 1 3 _ && ((decide _ && (_ && (isSumW ((.inr t, .int i0) :: ks) w && _))) && _)) = false
    rw [bad]
    simp
theorem way_stepsQ (h : Cpy G d l c fo sd sn b0 ls s t i0 st' ts0 sm' stp' la ks kn kb v0) {f : V} (i : Is (cut d l (upd G b0 (.dK (((.inr t, v0) :: kb) ++ [(.inr "q", f)])))) f (sumW [])) : LaterOk d l ⟨(t, i0) :: st', (s, (t, ts0) :: sm') :: stp', la⟩ fo [.str "steps"] (upd G b0 (.dK (((.inr t, v0) :: kb) ++ [(.inr "q", f)]))) := by
  have B := h.beside (x := b0) (o := (.dK (((.inr t, v0) :: kb) ++ [(.inr "q", f)]))) (by simp)
  have oS : b0 ≠ sd → cut d l (upd G b0 (.dK (((.inr t, v0) :: kb) ++ [(.inr "q", f)]))) sd = some (.dK ((.inr t, .int i0) :: ks)) := fun n => cut_at (by rw [upd_ne n.symm]; exact h.eS) h.o2.1 h.o2.2
  have oN : b0 ≠ sn → cut d l (upd G b0 (.dK (((.inr t, v0) :: kb) ++ [(.inr "q", f)]))) sn = some (.dK ((.inr s, .ref b0) :: kn)) := fun n => cut_at (by rw [upd_ne n.symm]; exact h.eN) h.o3.1 h.o3.2
  have oB : b0 ≠ b0 → cut d l (upd G b0 (.dK (((.inr t, v0) :: kb) ++ [(.inr "q", f)]))) b0 = some (.dK ((.inr t, v0) :: kb)) := fun n => cut_at (by rw [upd_ne n.symm]; exact h.eB) h.o4.1 h.o4.2
  have oF : b0 ≠ fo → (upd G b0 (.dK (((.inr t, v0) :: kb) ++ [(.inr "q", f)]))) fo = some (.dK (fok sd sn (.ref ls))) := fun n => by rw [upd_ne n.symm]; exact h.eF
  have at_ : b0 ≠ d → b0 ≠ l → cut d l (upd G b0 (.dK (((.inr t, v0) :: kb) ++ [(.inr "q", f)]))) b0 = some (.dK (((.inr t, v0) :: kb) ++ [(.inr "q", f)])) := fun n1 n2 => cut_at upd_same n1 n2 (by intro _ z; cases z)
  generalize upd G b0 (.dK (((.inr t, v0) :: kb) ++ [(.inr "q", f)])) = G2 at *
  have eB := at_ h.o4.1 h.o4.2
  have eS := oS h.n5.symm
  have eN := oN h.n6.symm
  have iS : IntD (cut d l G2) sd ((t, i0) :: st') := ⟨_, eS, .cons rfl B.kS⟩
  have kst : ((((.inr t, .int i0) :: ks) : List (Key × V)).map (·.1)) = (t :: st'.map (·.1)).map Sum.inr := (show KvP IntR ((.inr t, .int i0) :: ks) ((t, i0) :: st') from .cons rfl B.kS).keys
  have ln := (cpy_len ok).2.2
  have lk := B.kB.len
  have iB : Is (cut d l G2) (.ref b0) (.dct (((some (.inr t), sumW ts0) :: sm'.map fun p => (some (.inr p.1), sumW p.2)) ++ [(some (.inr "q"), sumW [])])) := by
    refine .dct (by simp only [List.length_append, List.map_cons, List.length_cons, List.length_map, List.length_nil]; omega) ⟨_, .inl eB, rfl⟩ ?_
    rw [List.map_append]
    refine IsKV.app (.cons (cpy_smt ok) (by obtain ⟨q, rfl, z⟩ := B.k0; exact z) (is_kv (f := fun ts => sumW ts) B.kB (fun p _ v ⟨t, e, i⟩ => by rw [e]; exact i) fun x hx => ok.nm.sm x ?_)) (.cons ⟨by decide, by decide +kernel⟩ i .nil)
    show x ∈ t :: st'.map (·.1)
    rw [← cpy_smn ok]
    exact List.mem_cons_of_mem _ hx
  refine .inl ⟨"steps", sd, sn, .ref ls, _, rfl, oF h.n3.symm, B.iL, _, _, iS.is ok.nm, iS.nf, cpy_is_sn ok B.kN eN iB, .inr ⟨sd, _, rfl, eS, isStart_ok ok.nm ok.sv, nf_of eN (fun _ _ z => by cases z), deep_sn h B.kN eN eB, (fun z => h.n4 (V.ref.inj z).symm), ?_, .inl ⟨?_, rfl⟩⟩⟩
  · intro p hp
    rcases List.mem_cons.mp hp with e | e
    · rw [e]
      intro q hq
      rcases List.mem_append.mp hq with e2 | e2
      · rcases List.mem_cons.mp e2 with e2 | e2
        · rw [e2]; exact sumIn_ok ts0
        · obtain ⟨z, _, e3⟩ := List.mem_map.mp e2
          rw [← e3]; exact sumIn_ok z.2
      · rw [List.mem_singleton.mp e2]; exact sumIn_ok []
    · obtain ⟨z, _, e3⟩ := List.mem_map.mp e
      rw [← e3]
      intro q hq
      obtain ⟨y, _, e4⟩ := List.mem_map.mp hq
      rw [← e4]; exact sumIn_ok y.2
  · have lm : sm'.length = st'.length := by
      have z := congrArg List.length (cpy_smn ok)
      simp only [List.length_cons, List.length_map] at z
      omega
    have lks := B.kS.len
    have dl : ∀ (L : List (Option Key × W)), L.length ≠ st'.length + 1 → areSumsW ((.inr t, .int i0) :: ks) (.dct L) = false := fun L hL => by
      show (decide _ && _) = false
      rw [decide_eq_false fun z => hL (by rw [z, List.length_cons, lks])]
      rfl
    have z : areSumsW ((.inr t, .int i0) :: ks) (.dct (((some (.inr t), sumW ts0) :: sm'.map fun p => (some (.inr p.1), sumW p.2)) ++ [(some (.inr "q"), sumW [])])) = false := dl _ fun z => by
      rw [List.length_append, List.length_cons, List.length_map] at z
      have y : sm'.length + 1 + 1 = st'.length + 1 := z
      omega
    show ((_ : Bool) && (areSumsW ((.inr t, .int i0) :: ks) _ && (_ : Bool))) = false
    rw [z]
    simp
theorem way_last (h : Cpy G d l c fo sd sn b0 ls s t i0 st' ts0 sm' stp' la ks kn kb v0) {f : V} {w : W} (i : Is (cut d l (upd G fo (.dK (fok sd sn f)))) f w) (b : BadLast t w) : LaterOk d l ⟨(t, i0) :: st', (s, (t, ts0) :: sm') :: stp', la⟩ fo [.str "last"] (upd G fo (.dK (fok sd sn f))) := by
  have B := h.beside (x := fo) (o := (.dK (fok sd sn f))) (by simp)
  have oS : fo ≠ sd → cut d l (upd G fo (.dK (fok sd sn f))) sd = some (.dK ((.inr t, .int i0) :: ks)) := fun n => cut_at (by rw [upd_ne n.symm]; exact h.eS) h.o2.1 h.o2.2
  have oN : fo ≠ sn → cut d l (upd G fo (.dK (fok sd sn f))) sn = some (.dK ((.inr s, .ref b0) :: kn)) := fun n => cut_at (by rw [upd_ne n.symm]; exact h.eN) h.o3.1 h.o3.2
  have oB : fo ≠ b0 → cut d l (upd G fo (.dK (fok sd sn f))) b0 = some (.dK ((.inr t, v0) :: kb)) := fun n => cut_at (by rw [upd_ne n.symm]; exact h.eB) h.o4.1 h.o4.2
  have oF : fo ≠ fo → (upd G fo (.dK (fok sd sn f))) fo = some (.dK (fok sd sn (.ref ls))) := fun n => by rw [upd_ne n.symm]; exact h.eF
  have at_ : fo ≠ d → fo ≠ l → cut d l (upd G fo (.dK (fok sd sn f))) fo = some (.dK (fok sd sn f)) := fun n1 n2 => cut_at upd_same n1 n2 (by intro _ z; cases z)
  generalize upd G fo (.dK (fok sd sn f)) = G2 at *
  have eS := oS h.n1
  have eN := oN h.n2
  have iS : IntD (cut d l G2) sd ((t, i0) :: st') := ⟨_, eS, .cons rfl B.kS⟩
  have iN : StpD (cut d l G2) sn ((s, (t, ts0) :: sm') :: stp') := ⟨_, eN, .cons ⟨b0, rfl, _, oB h.n3, .cons B.k0 B.kB⟩ B.kN⟩
  have kst : ((((.inr t, .int i0) :: ks) : List (Key × V)).map (·.1)) = (t :: st'.map (·.1)).map Sum.inr := (show KvP IntR ((.inr t, .int i0) :: ks) ((t, i0) :: st') from .cons rfl B.kS).keys
  have eF := (cut_ne (at_ h.o1.1 h.o1.2)).2.2
  exact .inl ⟨"last", sd, sn, f, w, rfl, eF, i, _, _, iS.is ok.nm, iS.nf, stepsOk_is iN ok, .inr ⟨sd, _, rfl, eS, isStart_ok ok.nm ok.sv, iN.nf, iN.deep (steps_ne ok), (fun z => h.n4 (V.ref.inj z).symm), stepsIn_ok _, .inr ⟨areSteps_ok kst ok.kn ok.ss, b.1, b.2 _ _ kst (List.mem_cons_self ..) ok.nm.ti.inT, rfl⟩⟩⟩
theorem way_fine (h : Cpy G d l c fo sd sn b0 ls s t i0 st' ts0 sm' stp' la ks kn kb v0) {q : Addr} {tms : List Tm} (i : Is (cut d l (upd G b0 (.dK ((.inr t, .ref q) :: kb)))) (.ref q) (sumW tms)) (b : ∀ names, t ∈ names → SumOk names tms) : LaterOk d l ⟨(t, i0) :: st', (s, (t, ts0) :: sm') :: stp', la⟩ fo [] (upd G b0 (.dK ((.inr t, .ref q) :: kb))) := by
  have B := h.beside (x := b0) (o := (.dK ((.inr t, .ref q) :: kb))) (by simp)
  have oS : b0 ≠ sd → cut d l (upd G b0 (.dK ((.inr t, .ref q) :: kb))) sd = some (.dK ((.inr t, .int i0) :: ks)) := fun n => cut_at (by rw [upd_ne n.symm]; exact h.eS) h.o2.1 h.o2.2
  have oN : b0 ≠ sn → cut d l (upd G b0 (.dK ((.inr t, .ref q) :: kb))) sn = some (.dK ((.inr s, .ref b0) :: kn)) := fun n => cut_at (by rw [upd_ne n.symm]; exact h.eN) h.o3.1 h.o3.2
  have oB : b0 ≠ b0 → cut d l (upd G b0 (.dK ((.inr t, .ref q) :: kb))) b0 = some (.dK ((.inr t, v0) :: kb)) := fun n => cut_at (by rw [upd_ne n.symm]; exact h.eB) h.o4.1 h.o4.2
  have oF : b0 ≠ fo → (upd G b0 (.dK ((.inr t, .ref q) :: kb))) fo = some (.dK (fok sd sn (.ref ls))) := fun n => by rw [upd_ne n.symm]; exact h.eF
  have at_ : b0 ≠ d → b0 ≠ l → cut d l (upd G b0 (.dK ((.inr t, .ref q) :: kb))) b0 = some (.dK ((.inr t, .ref q) :: kb)) := fun n1 n2 => cut_at upd_same n1 n2 (by intro _ z; cases z)
  generalize upd G b0 (.dK ((.inr t, .ref q) :: kb)) = G2 at *
  have eB := at_ h.o4.1 h.o4.2
  have eS := oS h.n5.symm
  have eN := oN h.n6.symm
  refine .inr ⟨rfl, ⟨(t, i0) :: st', (s, (t, tms) :: sm') :: stp', la⟩, sd, sn, ls, oF h.n3.symm, ⟨_, eS, .cons rfl B.kS⟩, ⟨_, eN, .cons ⟨b0, rfl, _, eB, .cons ⟨q, rfl, i⟩ B.kB⟩ B.kN⟩, B.iL, ?_, rfl⟩
  refine ⟨ok.nm, ok.sv, ok.kn, fun p hp => ?_, ok.la, ok.l0⟩
  have z := ok.ss _ (List.mem_cons_self ..)
  rcases List.mem_cons.mp hp with e | e
  · rw [e]
    refine ⟨z.1, fun x hx => ?_⟩
    rcases List.mem_cons.mp hx with e2 | e2
    · rw [e2]; exact b _ (List.mem_cons_self ..)
    · exact z.2 x (List.mem_cons_of_mem _ e2)
  · exact ok.ss p (List.mem_cons_of_mem _ e)
theorem way_kinds (h : Cpy G d l c fo sd sn b0 ls s t i0 st' ts0 sm' stp' la ks kn kb v0) {k : Str} (hk : k = "t" ∨ k = "") : LaterOk d l ⟨(t, i0) :: st', (s, (t, ts0) :: sm') :: stp', la⟩ fo [.str "steps"] (upd G sn (.dK (((.inr s, .ref b0) :: kn) ++ [(.inr k, .ref b0)]))) := by
  have B := h.beside (x := sn) (o := (.dK (((.inr s, .ref b0) :: kn) ++ [(.inr k, .ref b0)]))) (by simp)
  have oS : sn ≠ sd → cut d l (upd G sn (.dK (((.inr s, .ref b0) :: kn) ++ [(.inr k, .ref b0)]))) sd = some (.dK ((.inr t, .int i0) :: ks)) := fun n => cut_at (by rw [upd_ne n.symm]; exact h.eS) h.o2.1 h.o2.2
  have oN : sn ≠ sn → cut d l (upd G sn (.dK (((.inr s, .ref b0) :: kn) ++ [(.inr k, .ref b0)]))) sn = some (.dK ((.inr s, .ref b0) :: kn)) := fun n => cut_at (by rw [upd_ne n.symm]; exact h.eN) h.o3.1 h.o3.2
  have oB : sn ≠ b0 → cut d l (upd G sn (.dK (((.inr s, .ref b0) :: kn) ++ [(.inr k, .ref b0)]))) b0 = some (.dK ((.inr t, v0) :: kb)) := fun n => cut_at (by rw [upd_ne n.symm]; exact h.eB) h.o4.1 h.o4.2
  have oF : sn ≠ fo → (upd G sn (.dK (((.inr s, .ref b0) :: kn) ++ [(.inr k, .ref b0)]))) fo = some (.dK (fok sd sn (.ref ls))) := fun n => by rw [upd_ne n.symm]; exact h.eF
  have at_ : sn ≠ d → sn ≠ l → cut d l (upd G sn (.dK (((.inr s, .ref b0) :: kn) ++ [(.inr k, .ref b0)]))) sn = some (.dK (((.inr s, .ref b0) :: kn) ++ [(.inr k, .ref b0)])) := fun n1 n2 => cut_at upd_same n1 n2 (by intro _ z; cases z)
  generalize upd G sn (.dK (((.inr s, .ref b0) :: kn) ++ [(.inr k, .ref b0)])) = G2 at *
  have eN := at_ h.o3.1 h.o3.2
  have eS := oS h.n4.symm
  have eB := oB h.n6
  have iS : IntD (cut d l G2) sd ((t, i0) :: st') := ⟨_, eS, .cons rfl B.kS⟩
  have iB := cpy_is_b0 ok B.kB eB (show Is _ v0 (sumW ts0) from by obtain ⟨q, rfl, z⟩ := B.k0; exact z)
  have ln := (cpy_len ok).2.1
  have lk := B.kN.len
  have smk : k.cps.size ≤ 900 ∧ PyData.strOk k = true := by rcases hk with rfl | rfl <;> exact ⟨by decide, by decide +kernel⟩
  have iN : Is (cut d l G2) (.ref sn) (.dct (((some (.inr s), sumsW ((t, ts0) :: sm')) :: stp'.map fun p => (some (.inr p.1), sumsW p.2)) ++ [(some (.inr k), sumsW ((t, ts0) :: sm'))])) := by
    refine .dct (by simp only [List.length_append, List.map_cons, List.length_cons, List.length_map, List.length_nil]; omega) ⟨_, .inl eN, rfl⟩ ?_
    rw [List.map_append]
    refine IsKV.app (.cons (cpy_sms ok) iB (is_kv (f := fun ts => sumsW ts) B.kN (fun p hp v ⟨q, e, i⟩ => ?_) fun x hx => ok.kn.sm x (List.mem_cons_of_mem _ hx))) (.cons smk iB .nil)
    rw [e]
    exact i.is (by rw [(ok.ss p (List.mem_cons_of_mem _ hp)).1]; exact ok.nm)
  refine .inl ⟨"steps", sd, sn, .ref ls, _, rfl, oF h.n2.symm, B.iL, _, _, iS.is ok.nm, iS.nf, iN, .inr ⟨sd, _, rfl, eS, isStart_ok ok.nm ok.sv, nf_of eN (fun _ _ z => by cases z), ?_, (fun z => h.n4 (V.ref.inj z).symm), ?_, .inl ⟨?_, rfl⟩⟩⟩
  · intro a2 ks2 ea e p hp
    rw [← V.ref.inj ea, eN] at e
    cases e
    have z := deep_sn2 h B.kN eB
    rw [← V.ref.inj ea]
    rcases List.mem_append.mp hp with y | y
    · rcases List.mem_cons.mp y with y | y
      · rw [y]; exact ⟨nf_of eB (fun _ _ z => by cases z), fun z => h.n6 (V.ref.inj z).symm⟩
      · exact z p y
    · rw [List.mem_singleton.mp y]; exact ⟨nf_of eB (fun _ _ z => by cases z), fun z => h.n6 (V.ref.inj z).symm⟩
  · intro p hp
    have all : ∀ q ∈ ((some (Sum.inr t), sumW ts0) :: sm'.map fun p => (some (Sum.inr p.1), sumW p.2) : List (Option Key × W)), SumIn q.2 := fun q hq => by
      rcases List.mem_cons.mp hq with e2 | e2
      · rw [e2]; exact sumIn_ok ts0
      · obtain ⟨z, _, e3⟩ := List.mem_map.mp e2
        rw [← e3]; exact sumIn_ok z.2
    rcases List.mem_append.mp hp with e | e
    · rcases List.mem_cons.mp e with e | e
      · rw [e]; exact all
      · obtain ⟨z, _, e3⟩ := List.mem_map.mp e
        rw [← e3]
        intro q hq
        obtain ⟨y, _, e4⟩ := List.mem_map.mp hq
        rw [← e4]; exact sumIn_ok y.2
    · rw [List.mem_singleton.mp e]; exact all
  · exact badK hk
end
end Kn
-- part SLOther
set_option maxHeartbeats 8000000
/-! _law_otherwise. -/
namespace Kn
open PySem PySem.Spec PyProof.Rows L2 Err LamX
abbrev sLOther : Stmt := topS 38
abbrev NOw7 : List Str := ["_law_draw", "_law_told_here", "_law_sort", "_law_title", "_law_found", "_law_each", "_law_ways", "_law_part", "_law_key", "_law_fresh"]
theorem scOw7 : FnScope NOw7 ["_law_draw", "_law_told_here"] (defScope sLOther) := ⟨rfl, rfl, rfl, by decide +kernel, rfl, by decide +kernel, by decide +kernel⟩
theorem smq : ("q" : Str).cps.size ≤ 900 ∧ PyData.strOk "q" = true := ⟨by decide, by decide +kernel⟩
theorem sme : ("" : Str).cps.size ≤ 900 ∧ PyData.strOk "" = true := ⟨by decide, by decide +kernel⟩
/-- while the ways are told -/
def WI (d l c td fo b0 sd sn : Addr) (s t : Str) (Hb : Hp) (n : Nat) (σ : L2.St) (H : Hp) : Prop := ∃ y5 y7 y8 y9 wl xs, σ = [some (.ref d), some (.ref td), some (.str s), some (.str t), some (.ref fo), y5, some (.ref wl), y7, y8, y9] ∧ Drw Hb d l c ∧ Same Hb H ∧ Drw H d l c ∧ H wl = some (.lst xs) ∧ Hb wl = none ∧ xs.length = n ∧ ∀ x ∈ xs, Way (rest d l [wl, b0, fo, sd, sn] H) t x
def PW (d l c : Addr) (b : Bool) (n k : Nat) : TS := fun D σ H => ∃ td fo b0 sd sn s t Hb, t ∈ TI ∧ (∀ x ∈ [b0, fo, sd, sn], ∃ o, Hb x = some o) ∧ match b with
  | true => WI d l c td fo b0 sd sn s t Hb n σ H ∧ ∀ σ' H', WI d l c td fo b0 sd sn s t Hb k σ' H' → D.nx σ' H'
  | false => ∃ y5 y7 y8 y9 y6, σ = [some (.ref d), some (.ref td), some (.str s), some (.str t), some (.ref fo), y5, y6, y7, y8, y9] ∧ Hb = H ∧ Drw H d l c ∧ ∀ σ' H', WI d l c td fo b0 sd sn s t Hb k σ' H' → D.nx σ' H'
def duePairs : List (Str × List V) := [("start", [.str "start"]), ("steps", [.str "steps"]), ("kinds", [.str "steps"]), ("last", [.str "last"]), ("none", []), ("fine", [])]
def PRet : TS := fun D σ H => ∃ y0 y1 y2 y3 fo y5 y6 part y8 y9 due, σ = [y0, y1, y2, y3, some (.ref fo), y5, y6, some (.str part), y8, y9] ∧ (part, due) ∈ duePairs ∧ ∀ T wr H', Same H H' → H' T = some (.tup [.ref fo, .ref wr]) → H' wr = some (.lst due) → D.rt (.ref T) H'
theorem LaterOk.same {d l : Addr} {m : Lm} {fo : Addr} {due : List V} {H H' : Hp} (h : LaterOk d l m fo due H) (s : Same H H') : LaterOk d l m fo due H' := by
  have c : Same (cut d l H) (cut d l H') := (But.of s).cut
  rcases h with ⟨part, sd, sn, lv, wl, e1, e2, e3, e4⟩ | ⟨e1, m', sd, sn, ls, e2, e3, e4, e5, e6⟩
  · exact .inl ⟨part, sd, sn, lv, wl, e1, s _ _ e2, e3.same c, e4.same c⟩
  · exact .inr ⟨e1, m', sd, sn, ls, s _ _ e2, e3.same c, e4.same c, e5.same c, e6⟩
def spLOther : Sp := fun vs H Q _ => ∃ d l c td m, vs = [.ref d, .ref td] ∧ Drw H d l c ∧ ToldAt (cut d l H) td m ∧ LoopOk m ∧ ∀ T fo wr due H', Drw H' d l c → But d l H H' → H' T = some (.tup [.ref fo, .ref wr]) → H' wr = some (.lst due) → LaterOk d l m fo due H' → Q (.ref T) H'
section
variable {P : Program} {w : World} {K : PySem.W.Frag} {mg : Str → Option Value} {base : Heap}
theorem ok_lother {f fP : Addr} {fd fdP : FuncData} (F : Fun K "_law_otherwise" "_law_otherwise" sLOther f fd) (GP : FnOk P w K mg base CX0 3 fP fdP ["_law_draw", "_law_some"] spPick) (kP : PySem.W.keepIn K (.ref fP) = true) (bP : Binds K fdP ["_law_draw", "_law_some"] []) (gP : mg "_law_pick" = some (.ref fP))
    (ms : mg "sorted" = none) (md : mg "dict" = none) (ml : mg "list" = none) : FnOk P w K mg base CX0 4 f fd ["_law_draw", "_law_told_here"] spLOther := by
  have S := scOw7
  refine F.ok S (fun vs H Q E h => ?_) (fun cdv A outer s H vs Q E hr h => ?_)
  · obtain ⟨d, l, c, td, m, rfl, _⟩ := h
    rfl
  · obtain ⟨d, l, c, td, m, rfl, D, htd, ok, q⟩ := h
    have hu := hu_of hr
    have hr3 := hr.mono (show 3 ≤ 3 by decide)
    refine ⟨_, (pss_cons (ps_par (i := 2) (j := 3) rfl S.nd rfl rfl (by decide) rfl rfl (pa_cons (pe_ix ix_list (pe_callB (show CallR _ (.builtin "sorted") rSD from call_sortedD rfl) (by rfl) ms (by decide +kernel) (pa_cons (pe_dget hu (pv 1) pe_str (fun _ _ => rfl)) pa_nil)) pe_int (fun _ _ => rfl)) (pa_cons (pe_ix ix_list (pe_callB (show CallR _ (.builtin "sorted") rSD from call_sortedD rfl) (by rfl) ms (by decide +kernel) (pa_cons (pe_dget hu (pv 1) pe_str (fun _ _ => rfl)) pa_nil)) pe_int (fun _ _ => rfl)) pa_nil)) (by rfl) (by rfl))
      (pss_cons (ps_set (i := 4) S.nd rfl (.inl rfl) (pe_disp (pps_cons pe_str (pe_callTy (call_dictP rfl) (by rfl) md (by decide +kernel) (pa_cons (LiI.pe_listItems rfl (pe_dget hu (pv 1) pe_str (fun _ _ => rfl)) (by rfl) ml (by decide +kernel)) pa_nil)) (pps_cons pe_str pe_dnewK (pps_cons pe_str (pe_dget hu (pv 1) pe_str (fun _ _ => rfl)) pps_nil))) rfl rfl (by decide) (by decide)))
      (pss_cons (ps_lock (ps_for PassesOwn.never rfl (pi_keys (pe_dget hu (pv 1) pe_str (fun _ _ => rfl))) (pg_name (i := 5) S.nd rfl (.inl rfl))
        (pss_one (ps_dput hu (pe_dget hu (pv 4) pe_str (fun _ _ => rfl)) (pv 5) (pe_callTy (call_dictP rfl) (by rfl) md (by decide +kernel) (pa_cons (LiI.pe_listItems rfl (pe_dget hu (pe_dget hu (pv 1) pe_str (fun _ _ => rfl)) (pv 5) (fun _ _ => rfl)) (by rfl) ml (by decide +kernel)) pa_nil)) rfl))))
      (pss_cons (PS.pre (PW d l c false 0 4) (ps_set (i := 6) S.nd rfl (.inl rfl) (pe_lst (pa_cons (pe_tup (pa_cons pe_str (pa_cons (pv 3) (pa_cons pe_int pa_nil)))) (pa_cons (pe_tup (pa_cons pe_str (pa_cons (pv 3) (pa_cons pe_bl pa_nil)))) (pa_cons (pe_tup (pa_cons pe_str (pa_cons pe_str (pa_cons pe_int pa_nil)))) (pa_cons (pe_tup (pa_cons pe_str (pa_cons (pv 3) (pa_cons pe_str pa_nil)))) pa_nil)))))) ?w0)
      (pss_cons (PS.pre (PW d l c true 4 7) (ps_set (i := 6) S.nd rfl (.inl rfl) (pe_op op_cat (pv 6) (pe_lst (pa_cons (pe_tup (pa_cons pe_str (pa_cons (pv 3) (pa_cons pe_int pa_nil)))) (pa_cons (pe_tup (pa_cons pe_str (pa_cons (pv 3) (pa_cons (pe_tup (pa_cons (pe_tup (pa_cons (pv 3) (pa_cons pe_int (pa_cons pe_int pa_nil)))) pa_nil)) pa_nil)))) (pa_cons (pe_tup (pa_cons pe_str (pa_cons (pv 3) (pa_cons (pe_lst (pa_cons (pe_tup (pa_cons (pv 3) (pa_cons pe_int (pa_cons pe_int pa_nil)))) pa_nil)) pa_nil)))) pa_nil)))))) ?w1)
      (pss_cons (PS.pre (PW d l c true 7 9) (ps_set (i := 6) S.nd rfl (.inl rfl) (pe_op op_cat (pv 6) (pe_lst (pa_cons (pe_tup (pa_cons pe_str (pa_cons (pv 3) (pa_cons (pe_tup (pa_cons (pe_tup (pa_cons pe_str (pa_cons pe_int (pa_cons pe_int pa_nil)))) pa_nil)) pa_nil)))) (pa_cons (pe_tup (pa_cons pe_str (pa_cons (pv 3) (pa_cons (pe_tup (pa_cons (pe_tup (pa_cons (pv 3) (pa_cons pe_int (pa_cons pe_int pa_nil)))) (pa_cons (pe_tup (pa_cons pe_str (pa_cons pe_int (pa_cons pe_int pa_nil)))) pa_nil))) pa_nil)))) pa_nil))))) ?w2)
      (pss_cons (PS.pre (PW d l c true 9 12) (ps_set (i := 6) S.nd rfl (.inl rfl) (pe_op op_cat (pv 6) (pe_lst (pa_cons (pe_tup (pa_cons pe_str (pa_cons (pv 3) (pa_cons (pe_tup (pa_cons (pe_tup (pa_cons (pv 3) (pa_cons pe_int (pa_cons pe_int pa_nil)))) pa_nil)) pa_nil)))) (pa_cons (pe_tup (pa_cons pe_str (pa_cons pe_str (pa_cons (pe_tup pa_nil) pa_nil)))) (pa_cons (pe_tup (pa_cons pe_str (pa_cons (pv 3) (pa_cons (pe_tup (pa_cons (pe_tup (pa_cons (pv 3) (pa_cons pe_int (pa_cons pe_int pa_nil)))) pa_nil)) pa_nil)))) pa_nil)))))) ?w3)
      (pss_cons (PS.pre (PW d l c true 12 15) (ps_set (i := 6) S.nd rfl (.inl rfl) (pe_op op_cat (pv 6) (pe_lst (pa_cons (pe_tup (pa_cons pe_str (pa_cons (pv 3) (pa_cons (pe_tup (pa_cons (pe_tup (pa_cons (pv 3) (pa_cons pe_bl (pa_cons pe_int pa_nil)))) pa_nil)) pa_nil)))) (pa_cons (pe_tup (pa_cons pe_str (pa_cons (pv 3) (pa_cons pe_non pa_nil)))) (pa_cons (pe_tup (pa_cons pe_str (pa_cons pe_str (pa_cons (pe_tup (pa_cons (pe_tup (pa_cons (pv 3) (pa_cons pe_int (pa_cons pe_int pa_nil)))) pa_nil)) pa_nil)))) pa_nil)))))) ?w4)
      (pss_cons (PS.pre (PW d l c true 15 19) (ps_set (i := 6) S.nd rfl (.inl rfl) (pe_op op_cat (pv 6) (pe_lst (pa_cons (pe_tup (pa_cons pe_str (pa_cons pe_str (pa_cons (pe_lst (pa_cons (pe_tup (pa_cons (pv 3) (pa_cons pe_int (pa_cons pe_int pa_nil)))) pa_nil)) pa_nil)))) (pa_cons (pe_tup (pa_cons pe_str (pa_cons pe_str (pa_cons (pe_tup (pa_cons (pv 3) (pa_cons pe_int (pa_cons pe_int pa_nil)))) pa_nil)))) (pa_cons (pe_tup (pa_cons pe_str (pa_cons pe_str (pa_cons pe_int pa_nil)))) (pa_cons (pe_tup (pa_cons pe_str (pa_cons (pv 3) (pa_cons (pe_tup pa_nil) pa_nil)))) pa_nil))))))) ?w5)
      (pss_cons (PS.pre (PW d l c true 19 22) (ps_set (i := 6) S.nd rfl (.inl rfl) (pe_op op_cat (pv 6) (pe_lst (pa_cons (pe_tup (pa_cons pe_str (pa_cons (pv 3) (pa_cons (pe_tup (pa_cons (pe_tup (pa_cons pe_str (pa_cons pe_int (pa_cons (pe_un un_neg pe_int) pa_nil)))) (pa_cons (pe_tup (pa_cons (pv 3) (pa_cons pe_int (pa_cons pe_int pa_nil)))) pa_nil))) pa_nil)))) (pa_cons (pe_tup (pa_cons pe_str (pa_cons pe_str (pa_cons pe_int pa_nil)))) (pa_cons (pe_tup (pa_cons pe_str (pa_cons pe_str (pa_cons pe_int pa_nil)))) pa_nil)))))) ?w6)
      (pss_cons (PS.pre (PW d l c true 22 23) (ps_expr (pe_bm PySem.F.plainAttrs_list PySem.F.slot_list_append PySem.F.type_list_append mt_append (pv 6) (pa_cons (pe_tup (pa_cons pe_str (pa_cons (pv 3) (pa_cons (pe_tup (pa_cons (pe_tup (pa_cons (pv 3) (pa_cons pe_int (pa_cons pe_bl pa_nil)))) pa_nil)) pa_nil)))) pa_nil))) ?w7)
      (pss_cons (ps_asg (pe_call GP hr3 (by rfl) gP kP bP .nil pass0 (pa_cons (pv 0) (pa_cons (pv 6) pa_nil))) (pg_tup rfl (pgs_cons (pg_name (i := 7) S.nd rfl (.inl rfl)) (pgs_cons (pg_name (i := 8) S.nd rfl (.inl rfl)) (pgs_cons (pg_name (i := 9) S.nd rfl (.inl rfl)) pgs_nil)))))
      (pss_cons (ps_if (pt_cmpR (show OpR _ (compareOp .In) (rIn K false) from op_in_seq) (pv 7) (pe_tup (pa_cons pe_str (pa_cons pe_str pa_nil))) (by rfl)) (pss_one (ps_dput hu (pe_dget hu (pv 4) pe_str (fun _ _ => rfl)) (pv 8) (pv 9) rfl)) (pss_one (ps_if (pt_cmpR (show OpR _ (compareOp .In) (rIn K false) from op_in_seq) (pv 7) (pe_tup (pa_cons pe_str (pa_cons pe_str pa_nil))) (by rfl)) (pss_one (ps_dput hu (pe_dget hu (pe_dget hu (pv 4) pe_str (fun _ _ => rfl)) (pv 2) (fun _ _ => rfl)) (pv 8) (pv 9) rfl)) (pss_one (ps_if (pt_cmpR op_eq (pv 7) pe_str (nomark _)) (pss_one (ps_dput hu (pe_dget hu (pv 4) pe_str (fun _ _ => rfl)) (pv 8) (pe_dget hu (pe_dget hu (pv 4) pe_str (fun _ _ => rfl)) (pv 2) (fun _ _ => rfl)) rfl)) (pss_one (ps_dput hu (pv 4) pe_str (pv 9) rfl)))))))
      (pss_one (PS.pre PRet (ps_ret (pe_tup (pa_cons (pv 4) (pa_cons (pe_dget2 hu (pe_disp (pps_cons pe_str (pe_lst (pa_cons pe_str pa_nil)) (pps_cons pe_str (pe_lst (pa_cons pe_str pa_nil)) (pps_cons pe_str (pe_lst (pa_cons pe_str pa_nil)) (pps_cons pe_str (pe_lst (pa_cons pe_str pa_nil)) pps_nil)))) rfl rfl (by decide) (by decide)) (pv 7) (pe_lst pa_nil) ⟨rfl, rfl, rfl, rfl⟩) pa_nil)))) ?wret))))))))))))))), ?_⟩
    case w0 =>
      rintro D2 σ H ⟨td, fo, b0, sd, sn, s, t, Hb, ht, hL, y5, y7, y8, y9, y6, rfl, rfl, D, q⟩
      have smt := isNameTI t ht
      have smt : t.cps.size ≤ 900 ∧ PyData.strOk t = true := ⟨smt.2.1, smt.2.2.1⟩
      refine ⟨_, rfl, by show 3 ≤ sizeLine; decide, fun a0 n0 => ⟨_, rfl, by show 3 ≤ sizeLine; decide, fun a1 n1 => ⟨by show 3 ≤ sizeLine; decide, fun a2 n2 => ⟨_, rfl, by show 3 ≤ sizeLine; decide, fun a3 n3 => ⟨by show 4 ≤ sizeLine; decide, fun a4 n4 => ?_⟩⟩⟩⟩⟩
      have S0 : Same Hb Hb := Same.refl _
      have q0 : Hb a0 = none := S0.free n0
      have S1 : Same Hb (upd Hb a0 (.tup [.str "start", .str t, .int 100])) := S0.trans (same_new n0)
      have q1 : Hb a1 = none := S1.free n1
      have S2 : Same Hb (upd (upd Hb a0 (.tup [.str "start", .str t, .int 100])) a1 (.tup [.str "start", .str t, .bl true])) := S1.trans (same_new n1)
      have q2 : Hb a2 = none := S2.free n2
      have S3 : Same Hb (upd (upd (upd Hb a0 (.tup [.str "start", .str t, .int 100])) a1 (.tup [.str "start", .str t, .bl true])) a2 (.tup [.str "start", .str "t", .int 0])) := S2.trans (same_new n2)
      have q3 : Hb a3 = none := S3.free n3
      have S4 : Same Hb (upd (upd (upd (upd Hb a0 (.tup [.str "start", .str t, .int 100])) a1 (.tup [.str "start", .str t, .bl true])) a2 (.tup [.str "start", .str "t", .int 0])) a3 (.tup [.str "start", .str t, .str "0"])) := S3.trans (same_new n3)
      have q4 : Hb a4 = none := S4.free n4
      have S5 : Same Hb (upd (upd (upd (upd (upd Hb a0 (.tup [.str "start", .str t, .int 100])) a1 (.tup [.str "start", .str t, .bl true])) a2 (.tup [.str "start", .str "t", .int 0])) a3 (.tup [.str "start", .str t, .str "0"])) a4 (.lst [.ref a0, .ref a1, .ref a2, .ref a3])) := S4.trans (same_new n4)
      have R5 : Same (upd (upd (upd (upd (upd Hb a0 (.tup [.str "start", .str t, .int 100])) a1 (.tup [.str "start", .str t, .bl true])) a2 (.tup [.str "start", .str "t", .int 0])) a3 (.tup [.str "start", .str t, .str "0"])) a4 (.lst [.ref a0, .ref a1, .ref a2, .ref a3])) (upd (upd (upd (upd (upd Hb a0 (.tup [.str "start", .str t, .int 100])) a1 (.tup [.str "start", .str t, .bl true])) a2 (.tup [.str "start", .str "t", .int 0])) a3 (.tup [.str "start", .str t, .str "0"])) a4 (.lst [.ref a0, .ref a1, .ref a2, .ref a3])) := Same.refl _
      have e4 : (upd (upd (upd (upd (upd Hb a0 (.tup [.str "start", .str t, .int 100])) a1 (.tup [.str "start", .str t, .bl true])) a2 (.tup [.str "start", .str "t", .int 0])) a3 (.tup [.str "start", .str t, .str "0"])) a4 (.lst [.ref a0, .ref a1, .ref a2, .ref a3])) a4 = some (.lst [.ref a0, .ref a1, .ref a2, .ref a3]) := R5 _ _ upd_same
      have R4 : Same (upd (upd (upd (upd Hb a0 (.tup [.str "start", .str t, .int 100])) a1 (.tup [.str "start", .str t, .bl true])) a2 (.tup [.str "start", .str "t", .int 0])) a3 (.tup [.str "start", .str t, .str "0"])) (upd (upd (upd (upd (upd Hb a0 (.tup [.str "start", .str t, .int 100])) a1 (.tup [.str "start", .str t, .bl true])) a2 (.tup [.str "start", .str "t", .int 0])) a3 (.tup [.str "start", .str t, .str "0"])) a4 (.lst [.ref a0, .ref a1, .ref a2, .ref a3])) := (same_new n4).trans R5
      have e3 : (upd (upd (upd (upd (upd Hb a0 (.tup [.str "start", .str t, .int 100])) a1 (.tup [.str "start", .str t, .bl true])) a2 (.tup [.str "start", .str "t", .int 0])) a3 (.tup [.str "start", .str t, .str "0"])) a4 (.lst [.ref a0, .ref a1, .ref a2, .ref a3])) a3 = some (.tup [.str "start", .str t, .str "0"]) := R4 _ _ upd_same
      have R3 : Same (upd (upd (upd Hb a0 (.tup [.str "start", .str t, .int 100])) a1 (.tup [.str "start", .str t, .bl true])) a2 (.tup [.str "start", .str "t", .int 0])) (upd (upd (upd (upd (upd Hb a0 (.tup [.str "start", .str t, .int 100])) a1 (.tup [.str "start", .str t, .bl true])) a2 (.tup [.str "start", .str "t", .int 0])) a3 (.tup [.str "start", .str t, .str "0"])) a4 (.lst [.ref a0, .ref a1, .ref a2, .ref a3])) := (same_new n3).trans R4
      have e2 : (upd (upd (upd (upd (upd Hb a0 (.tup [.str "start", .str t, .int 100])) a1 (.tup [.str "start", .str t, .bl true])) a2 (.tup [.str "start", .str "t", .int 0])) a3 (.tup [.str "start", .str t, .str "0"])) a4 (.lst [.ref a0, .ref a1, .ref a2, .ref a3])) a2 = some (.tup [.str "start", .str "t", .int 0]) := R3 _ _ upd_same
      have R2 : Same (upd (upd Hb a0 (.tup [.str "start", .str t, .int 100])) a1 (.tup [.str "start", .str t, .bl true])) (upd (upd (upd (upd (upd Hb a0 (.tup [.str "start", .str t, .int 100])) a1 (.tup [.str "start", .str t, .bl true])) a2 (.tup [.str "start", .str "t", .int 0])) a3 (.tup [.str "start", .str t, .str "0"])) a4 (.lst [.ref a0, .ref a1, .ref a2, .ref a3])) := (same_new n2).trans R3
      have e1 : (upd (upd (upd (upd (upd Hb a0 (.tup [.str "start", .str t, .int 100])) a1 (.tup [.str "start", .str t, .bl true])) a2 (.tup [.str "start", .str "t", .int 0])) a3 (.tup [.str "start", .str t, .str "0"])) a4 (.lst [.ref a0, .ref a1, .ref a2, .ref a3])) a1 = some (.tup [.str "start", .str t, .bl true]) := R2 _ _ upd_same
      have R1 : Same (upd Hb a0 (.tup [.str "start", .str t, .int 100])) (upd (upd (upd (upd (upd Hb a0 (.tup [.str "start", .str t, .int 100])) a1 (.tup [.str "start", .str t, .bl true])) a2 (.tup [.str "start", .str "t", .int 0])) a3 (.tup [.str "start", .str t, .str "0"])) a4 (.lst [.ref a0, .ref a1, .ref a2, .ref a3])) := (same_new n1).trans R2
      have e0 : (upd (upd (upd (upd (upd Hb a0 (.tup [.str "start", .str t, .int 100])) a1 (.tup [.str "start", .str t, .bl true])) a2 (.tup [.str "start", .str "t", .int 0])) a3 (.tup [.str "start", .str t, .str "0"])) a4 (.lst [.ref a0, .ref a1, .ref a2, .ref a3])) a0 = some (.tup [.str "start", .str t, .int 100]) := R1 _ _ upd_same
      clear R1 R2 R3 R4 R5
      generalize (upd (upd (upd (upd (upd Hb a0 (.tup [.str "start", .str t, .int 100])) a1 (.tup [.str "start", .str t, .bl true])) a2 (.tup [.str "start", .str "t", .int 0])) a3 (.tup [.str "start", .str t, .str "0"])) a4 (.lst [.ref a0, .ref a1, .ref a2, .ref a3])) = H1 at S5 e0 e1 e2 e3 e4 ⊢
      have D1 := D.same S5
      have cc : ∀ {a : Addr} {o : HO}, Hb a = none → H1 a = some o → (∀ ps, o ≠ .tbl ps) → a ≠ a4 → rest d l [a4, b0, fo, sd, sn] H1 a = some o := fun n e nt c => rest_at e (D.off n).1 (D.off n).2 (fun z => (List.mem_cons.mp z).elim c fun z => by obtain ⟨o, y⟩ := hL _ z; rw [n] at y; cases y) nt
      have new : ∀ x ∈ [V.ref a0, V.ref a1, V.ref a2, V.ref a3], Way (rest d l [a4, b0, fo, sd, sn] H1) t x := by
        intro x hx
        simp only [List.mem_cons, List.not_mem_nil, or_false] at hx
        rcases hx with rfl | rfl | rfl | rfl
        · exact .start (cc q0 e0 (fun _ z => by cases z) (by intro z; have y := e0; rw [z, e4] at y; cases y)) (.int 100) rfl
        · exact .start (cc q1 e1 (fun _ z => by cases z) (by intro z; have y := e1; rw [z, e4] at y; cases y)) (.bl true) rfl
        · exact .startT (cc q2 e2 (fun _ z => by cases z) (by intro z; have y := e2; rw [z, e4] at y; cases y))
        · exact .start (cc q3 e3 (fun _ z => by cases z) (by intro z; have y := e3; rw [z, e4] at y; cases y)) (.str _ (by decide) (by decide +kernel)) rfl
      exact q _ _ ⟨_, _, _, _, a4, _, rfl, D, S5, D1, e4, q4, rfl, new⟩
    case w1 =>
      rintro D2 σ H ⟨td, fo, b0, sd, sn, s, t, Hb, ht, hL, ⟨y5, y7, y8, y9, wl, xs, rfl, DB, sb, D, hwl, nwl, len, hx⟩, q⟩
      have smt := isNameTI t ht
      have smt : t.cps.size ≤ 900 ∧ PyData.strOk t = true := ⟨smt.2.1, smt.2.2.1⟩
      refine ⟨_, rfl, _, rfl, by show 3 ≤ sizeLine; decide, fun a0 n0 => ⟨_, rfl, _, rfl, by show 3 ≤ sizeLine; decide, fun a1 n1 => ⟨by show 1 ≤ sizeLine; decide, fun a2 n2 => ⟨by show 3 ≤ sizeLine; decide, fun a3 n3 => ⟨_, rfl, _, rfl, by show 3 ≤ sizeLine; decide, fun a4 n4 => ⟨by show 1 ≤ sizeLine; decide, fun a5 n5 => ⟨by show 3 ≤ sizeLine; decide, fun a6 n6 => ⟨by show 3 ≤ sizeLine; decide, fun a7 n7 => ?_⟩⟩⟩⟩⟩⟩⟩⟩
      have S0 : Same H H := Same.refl _
      have q0 : H a0 = none := S0.free n0
      have S1 : Same H (upd H a0 (.tup [.str "none", .str t, .int 99])) := S0.trans (same_new n0)
      have q1 : H a1 = none := S1.free n1
      have S2 : Same H (upd (upd H a0 (.tup [.str "none", .str t, .int 99])) a1 (.tup [.str t, .int 3, .int 1])) := S1.trans (same_new n1)
      have q2 : H a2 = none := S2.free n2
      have S3 : Same H (upd (upd (upd H a0 (.tup [.str "none", .str t, .int 99])) a1 (.tup [.str t, .int 3, .int 1])) a2 (.tup [.ref a1])) := S2.trans (same_new n2)
      have q3 : H a3 = none := S3.free n3
      have S4 : Same H (upd (upd (upd (upd H a0 (.tup [.str "none", .str t, .int 99])) a1 (.tup [.str t, .int 3, .int 1])) a2 (.tup [.ref a1])) a3 (.tup [.str "steps", .str t, .ref a2])) := S3.trans (same_new n3)
      have q4 : H a4 = none := S4.free n4
      have S5 : Same H (upd (upd (upd (upd (upd H a0 (.tup [.str "none", .str t, .int 99])) a1 (.tup [.str t, .int 3, .int 1])) a2 (.tup [.ref a1])) a3 (.tup [.str "steps", .str t, .ref a2])) a4 (.tup [.str t, .int 0, .int 1])) := S4.trans (same_new n4)
      have q5 : H a5 = none := S5.free n5
      have S6 : Same H (upd (upd (upd (upd (upd (upd H a0 (.tup [.str "none", .str t, .int 99])) a1 (.tup [.str t, .int 3, .int 1])) a2 (.tup [.ref a1])) a3 (.tup [.str "steps", .str t, .ref a2])) a4 (.tup [.str t, .int 0, .int 1])) a5 (.lst [.ref a4])) := S5.trans (same_new n5)
      have q6 : H a6 = none := S6.free n6
      have S7 : Same H (upd (upd (upd (upd (upd (upd (upd H a0 (.tup [.str "none", .str t, .int 99])) a1 (.tup [.str t, .int 3, .int 1])) a2 (.tup [.ref a1])) a3 (.tup [.str "steps", .str t, .ref a2])) a4 (.tup [.str t, .int 0, .int 1])) a5 (.lst [.ref a4])) a6 (.tup [.str "steps", .str t, .ref a5])) := S6.trans (same_new n6)
      have q7 : H a7 = none := S7.free n7
      have S8 : Same H (upd (upd (upd (upd (upd (upd (upd (upd H a0 (.tup [.str "none", .str t, .int 99])) a1 (.tup [.str t, .int 3, .int 1])) a2 (.tup [.ref a1])) a3 (.tup [.str "steps", .str t, .ref a2])) a4 (.tup [.str t, .int 0, .int 1])) a5 (.lst [.ref a4])) a6 (.tup [.str "steps", .str t, .ref a5])) a7 (.lst [.ref a0, .ref a3, .ref a6])) := S7.trans (same_new n7)
      have R8 : Same (upd (upd (upd (upd (upd (upd (upd (upd H a0 (.tup [.str "none", .str t, .int 99])) a1 (.tup [.str t, .int 3, .int 1])) a2 (.tup [.ref a1])) a3 (.tup [.str "steps", .str t, .ref a2])) a4 (.tup [.str t, .int 0, .int 1])) a5 (.lst [.ref a4])) a6 (.tup [.str "steps", .str t, .ref a5])) a7 (.lst [.ref a0, .ref a3, .ref a6])) (upd (upd (upd (upd (upd (upd (upd (upd H a0 (.tup [.str "none", .str t, .int 99])) a1 (.tup [.str t, .int 3, .int 1])) a2 (.tup [.ref a1])) a3 (.tup [.str "steps", .str t, .ref a2])) a4 (.tup [.str t, .int 0, .int 1])) a5 (.lst [.ref a4])) a6 (.tup [.str "steps", .str t, .ref a5])) a7 (.lst [.ref a0, .ref a3, .ref a6])) := Same.refl _
      have e7 : (upd (upd (upd (upd (upd (upd (upd (upd H a0 (.tup [.str "none", .str t, .int 99])) a1 (.tup [.str t, .int 3, .int 1])) a2 (.tup [.ref a1])) a3 (.tup [.str "steps", .str t, .ref a2])) a4 (.tup [.str t, .int 0, .int 1])) a5 (.lst [.ref a4])) a6 (.tup [.str "steps", .str t, .ref a5])) a7 (.lst [.ref a0, .ref a3, .ref a6])) a7 = some (.lst [.ref a0, .ref a3, .ref a6]) := R8 _ _ upd_same
      have R7 : Same (upd (upd (upd (upd (upd (upd (upd H a0 (.tup [.str "none", .str t, .int 99])) a1 (.tup [.str t, .int 3, .int 1])) a2 (.tup [.ref a1])) a3 (.tup [.str "steps", .str t, .ref a2])) a4 (.tup [.str t, .int 0, .int 1])) a5 (.lst [.ref a4])) a6 (.tup [.str "steps", .str t, .ref a5])) (upd (upd (upd (upd (upd (upd (upd (upd H a0 (.tup [.str "none", .str t, .int 99])) a1 (.tup [.str t, .int 3, .int 1])) a2 (.tup [.ref a1])) a3 (.tup [.str "steps", .str t, .ref a2])) a4 (.tup [.str t, .int 0, .int 1])) a5 (.lst [.ref a4])) a6 (.tup [.str "steps", .str t, .ref a5])) a7 (.lst [.ref a0, .ref a3, .ref a6])) := (same_new n7).trans R8
      have e6 : (upd (upd (upd (upd (upd (upd (upd (upd H a0 (.tup [.str "none", .str t, .int 99])) a1 (.tup [.str t, .int 3, .int 1])) a2 (.tup [.ref a1])) a3 (.tup [.str "steps", .str t, .ref a2])) a4 (.tup [.str t, .int 0, .int 1])) a5 (.lst [.ref a4])) a6 (.tup [.str "steps", .str t, .ref a5])) a7 (.lst [.ref a0, .ref a3, .ref a6])) a6 = some (.tup [.str "steps", .str t, .ref a5]) := R7 _ _ upd_same
      have R6 : Same (upd (upd (upd (upd (upd (upd H a0 (.tup [.str "none", .str t, .int 99])) a1 (.tup [.str t, .int 3, .int 1])) a2 (.tup [.ref a1])) a3 (.tup [.str "steps", .str t, .ref a2])) a4 (.tup [.str t, .int 0, .int 1])) a5 (.lst [.ref a4])) (upd (upd (upd (upd (upd (upd (upd (upd H a0 (.tup [.str "none", .str t, .int 99])) a1 (.tup [.str t, .int 3, .int 1])) a2 (.tup [.ref a1])) a3 (.tup [.str "steps", .str t, .ref a2])) a4 (.tup [.str t, .int 0, .int 1])) a5 (.lst [.ref a4])) a6 (.tup [.str "steps", .str t, .ref a5])) a7 (.lst [.ref a0, .ref a3, .ref a6])) := (same_new n6).trans R7
      have e5 : (upd (upd (upd (upd (upd (upd (upd (upd H a0 (.tup [.str "none", .str t, .int 99])) a1 (.tup [.str t, .int 3, .int 1])) a2 (.tup [.ref a1])) a3 (.tup [.str "steps", .str t, .ref a2])) a4 (.tup [.str t, .int 0, .int 1])) a5 (.lst [.ref a4])) a6 (.tup [.str "steps", .str t, .ref a5])) a7 (.lst [.ref a0, .ref a3, .ref a6])) a5 = some (.lst [.ref a4]) := R6 _ _ upd_same
      have R5 : Same (upd (upd (upd (upd (upd H a0 (.tup [.str "none", .str t, .int 99])) a1 (.tup [.str t, .int 3, .int 1])) a2 (.tup [.ref a1])) a3 (.tup [.str "steps", .str t, .ref a2])) a4 (.tup [.str t, .int 0, .int 1])) (upd (upd (upd (upd (upd (upd (upd (upd H a0 (.tup [.str "none", .str t, .int 99])) a1 (.tup [.str t, .int 3, .int 1])) a2 (.tup [.ref a1])) a3 (.tup [.str "steps", .str t, .ref a2])) a4 (.tup [.str t, .int 0, .int 1])) a5 (.lst [.ref a4])) a6 (.tup [.str "steps", .str t, .ref a5])) a7 (.lst [.ref a0, .ref a3, .ref a6])) := (same_new n5).trans R6
      have e4 : (upd (upd (upd (upd (upd (upd (upd (upd H a0 (.tup [.str "none", .str t, .int 99])) a1 (.tup [.str t, .int 3, .int 1])) a2 (.tup [.ref a1])) a3 (.tup [.str "steps", .str t, .ref a2])) a4 (.tup [.str t, .int 0, .int 1])) a5 (.lst [.ref a4])) a6 (.tup [.str "steps", .str t, .ref a5])) a7 (.lst [.ref a0, .ref a3, .ref a6])) a4 = some (.tup [.str t, .int 0, .int 1]) := R5 _ _ upd_same
      have R4 : Same (upd (upd (upd (upd H a0 (.tup [.str "none", .str t, .int 99])) a1 (.tup [.str t, .int 3, .int 1])) a2 (.tup [.ref a1])) a3 (.tup [.str "steps", .str t, .ref a2])) (upd (upd (upd (upd (upd (upd (upd (upd H a0 (.tup [.str "none", .str t, .int 99])) a1 (.tup [.str t, .int 3, .int 1])) a2 (.tup [.ref a1])) a3 (.tup [.str "steps", .str t, .ref a2])) a4 (.tup [.str t, .int 0, .int 1])) a5 (.lst [.ref a4])) a6 (.tup [.str "steps", .str t, .ref a5])) a7 (.lst [.ref a0, .ref a3, .ref a6])) := (same_new n4).trans R5
      have e3 : (upd (upd (upd (upd (upd (upd (upd (upd H a0 (.tup [.str "none", .str t, .int 99])) a1 (.tup [.str t, .int 3, .int 1])) a2 (.tup [.ref a1])) a3 (.tup [.str "steps", .str t, .ref a2])) a4 (.tup [.str t, .int 0, .int 1])) a5 (.lst [.ref a4])) a6 (.tup [.str "steps", .str t, .ref a5])) a7 (.lst [.ref a0, .ref a3, .ref a6])) a3 = some (.tup [.str "steps", .str t, .ref a2]) := R4 _ _ upd_same
      have R3 : Same (upd (upd (upd H a0 (.tup [.str "none", .str t, .int 99])) a1 (.tup [.str t, .int 3, .int 1])) a2 (.tup [.ref a1])) (upd (upd (upd (upd (upd (upd (upd (upd H a0 (.tup [.str "none", .str t, .int 99])) a1 (.tup [.str t, .int 3, .int 1])) a2 (.tup [.ref a1])) a3 (.tup [.str "steps", .str t, .ref a2])) a4 (.tup [.str t, .int 0, .int 1])) a5 (.lst [.ref a4])) a6 (.tup [.str "steps", .str t, .ref a5])) a7 (.lst [.ref a0, .ref a3, .ref a6])) := (same_new n3).trans R4
      have e2 : (upd (upd (upd (upd (upd (upd (upd (upd H a0 (.tup [.str "none", .str t, .int 99])) a1 (.tup [.str t, .int 3, .int 1])) a2 (.tup [.ref a1])) a3 (.tup [.str "steps", .str t, .ref a2])) a4 (.tup [.str t, .int 0, .int 1])) a5 (.lst [.ref a4])) a6 (.tup [.str "steps", .str t, .ref a5])) a7 (.lst [.ref a0, .ref a3, .ref a6])) a2 = some (.tup [.ref a1]) := R3 _ _ upd_same
      have R2 : Same (upd (upd H a0 (.tup [.str "none", .str t, .int 99])) a1 (.tup [.str t, .int 3, .int 1])) (upd (upd (upd (upd (upd (upd (upd (upd H a0 (.tup [.str "none", .str t, .int 99])) a1 (.tup [.str t, .int 3, .int 1])) a2 (.tup [.ref a1])) a3 (.tup [.str "steps", .str t, .ref a2])) a4 (.tup [.str t, .int 0, .int 1])) a5 (.lst [.ref a4])) a6 (.tup [.str "steps", .str t, .ref a5])) a7 (.lst [.ref a0, .ref a3, .ref a6])) := (same_new n2).trans R3
      have e1 : (upd (upd (upd (upd (upd (upd (upd (upd H a0 (.tup [.str "none", .str t, .int 99])) a1 (.tup [.str t, .int 3, .int 1])) a2 (.tup [.ref a1])) a3 (.tup [.str "steps", .str t, .ref a2])) a4 (.tup [.str t, .int 0, .int 1])) a5 (.lst [.ref a4])) a6 (.tup [.str "steps", .str t, .ref a5])) a7 (.lst [.ref a0, .ref a3, .ref a6])) a1 = some (.tup [.str t, .int 3, .int 1]) := R2 _ _ upd_same
      have R1 : Same (upd H a0 (.tup [.str "none", .str t, .int 99])) (upd (upd (upd (upd (upd (upd (upd (upd H a0 (.tup [.str "none", .str t, .int 99])) a1 (.tup [.str t, .int 3, .int 1])) a2 (.tup [.ref a1])) a3 (.tup [.str "steps", .str t, .ref a2])) a4 (.tup [.str t, .int 0, .int 1])) a5 (.lst [.ref a4])) a6 (.tup [.str "steps", .str t, .ref a5])) a7 (.lst [.ref a0, .ref a3, .ref a6])) := (same_new n1).trans R2
      have e0 : (upd (upd (upd (upd (upd (upd (upd (upd H a0 (.tup [.str "none", .str t, .int 99])) a1 (.tup [.str t, .int 3, .int 1])) a2 (.tup [.ref a1])) a3 (.tup [.str "steps", .str t, .ref a2])) a4 (.tup [.str t, .int 0, .int 1])) a5 (.lst [.ref a4])) a6 (.tup [.str "steps", .str t, .ref a5])) a7 (.lst [.ref a0, .ref a3, .ref a6])) a0 = some (.tup [.str "none", .str t, .int 99]) := R1 _ _ upd_same
      clear R1 R2 R3 R4 R5 R6 R7 R8
      generalize (upd (upd (upd (upd (upd (upd (upd (upd H a0 (.tup [.str "none", .str t, .int 99])) a1 (.tup [.str t, .int 3, .int 1])) a2 (.tup [.ref a1])) a3 (.tup [.str "steps", .str t, .ref a2])) a4 (.tup [.str t, .int 0, .int 1])) a5 (.lst [.ref a4])) a6 (.tup [.str "steps", .str t, .ref a5])) a7 (.lst [.ref a0, .ref a3, .ref a6])) = H1 at S8 e0 e1 e2 e3 e4 e5 e6 e7 ⊢
      have D1 := D.same S8
      have cc : ∀ {a : Addr} {o : HO}, H a = none → H1 a = some o → (∀ ps, o ≠ .tbl ps) → True → rest d l [b0, fo, sd, sn] H1 a = some o := fun n e nt c => rest_at e (D.off n).1 (D.off n).2 (fun z => by obtain ⟨o, y⟩ := hL _ z; rw [(sb.free n)] at y; cases y) nt
      have new : ∀ x ∈ [V.ref a0, V.ref a3, V.ref a6], Way (rest d l [b0, fo, sd, sn] H1) t x := by
        intro x hx
        simp only [List.mem_cons, List.not_mem_nil, or_false] at hx
        rcases hx with rfl | rfl | rfl
        · exact .none (cc q0 e0 (fun _ z => by cases z) trivial)
        · exact .steps (cc q3 e3 (fun _ z => by cases z) trivial) (is_tm1 (cc q2 e2 (fun _ z => by cases z) trivial) (cc q1 e1 (fun _ z => by cases z) trivial) smt (.int 3) (.int 1)) (bad_one t rfl)
        · exact .steps (cc q6 e6 (fun _ z => by cases z) trivial) (is_lm1 (cc q5 e5 (fun _ z => by cases z) trivial) (cc q4 e4 (fun _ z => by cases z) trivial) smt (.int 0) (.int 1)) (bad_lst t _)
      have hwl1 := S8 _ _ hwl
      have hx1 : ∀ x ∈ xs, Way (rest d l [wl, b0, fo, sd, sn] H1) t x := fun x h => (hx x h).same (rest_but (But.of (d := d) (l := l) S8))
      refine ⟨wl, a7, xs, _, rfl, rfl, hwl1, e7, by rw [len]; show 4 + 3 ≤ sizeLine; decide, fun p np => q _ _ ⟨_, _, _, _, p, _, rfl, DB, (sb.trans S8).trans (same_new np), D1.new np, upd_same, (sb.trans S8).free np, by rw [List.length_append, len]; rfl, fun x h => ?_⟩⟩
      refine Way.same ?_ (rest_new (L := [b0, fo, sd, sn]) np)
      exact (List.mem_append.mp h).elim (fun h => (hx1 x h).same rest_drop) (new x)
    case w2 =>
      rintro D2 σ H ⟨td, fo, b0, sd, sn, s, t, Hb, ht, hL, ⟨y5, y7, y8, y9, wl, xs, rfl, DB, sb, D, hwl, nwl, len, hx⟩, q⟩
      have smt := isNameTI t ht
      have smt : t.cps.size ≤ 900 ∧ PyData.strOk t = true := ⟨smt.2.1, smt.2.2.1⟩
      refine ⟨_, rfl, _, rfl, by show 3 ≤ sizeLine; decide, fun a0 n0 => ⟨by show 1 ≤ sizeLine; decide, fun a1 n1 => ⟨by show 3 ≤ sizeLine; decide, fun a2 n2 => ⟨_, rfl, _, rfl, by show 3 ≤ sizeLine; decide, fun a3 n3 => ⟨by show 3 ≤ sizeLine; decide, fun a4 n4 => ⟨by show 2 ≤ sizeLine; decide, fun a5 n5 => ⟨by show 3 ≤ sizeLine; decide, fun a6 n6 => ⟨by show 2 ≤ sizeLine; decide, fun a7 n7 => ?_⟩⟩⟩⟩⟩⟩⟩⟩
      have S0 : Same H H := Same.refl _
      have q0 : H a0 = none := S0.free n0
      have S1 : Same H (upd H a0 (.tup [.str "q", .int 0, .int 1])) := S0.trans (same_new n0)
      have q1 : H a1 = none := S1.free n1
      have S2 : Same H (upd (upd H a0 (.tup [.str "q", .int 0, .int 1])) a1 (.tup [.ref a0])) := S1.trans (same_new n1)
      have q2 : H a2 = none := S2.free n2
      have S3 : Same H (upd (upd (upd H a0 (.tup [.str "q", .int 0, .int 1])) a1 (.tup [.ref a0])) a2 (.tup [.str "steps", .str t, .ref a1])) := S2.trans (same_new n2)
      have q3 : H a3 = none := S3.free n3
      have S4 : Same H (upd (upd (upd (upd H a0 (.tup [.str "q", .int 0, .int 1])) a1 (.tup [.ref a0])) a2 (.tup [.str "steps", .str t, .ref a1])) a3 (.tup [.str t, .int 0, .int 1])) := S3.trans (same_new n3)
      have q4 : H a4 = none := S4.free n4
      have S5 : Same H (upd (upd (upd (upd (upd H a0 (.tup [.str "q", .int 0, .int 1])) a1 (.tup [.ref a0])) a2 (.tup [.str "steps", .str t, .ref a1])) a3 (.tup [.str t, .int 0, .int 1])) a4 (.tup [.str "", .int 0, .int 1])) := S4.trans (same_new n4)
      have q5 : H a5 = none := S5.free n5
      have S6 : Same H (upd (upd (upd (upd (upd (upd H a0 (.tup [.str "q", .int 0, .int 1])) a1 (.tup [.ref a0])) a2 (.tup [.str "steps", .str t, .ref a1])) a3 (.tup [.str t, .int 0, .int 1])) a4 (.tup [.str "", .int 0, .int 1])) a5 (.tup [.ref a3, .ref a4])) := S5.trans (same_new n5)
      have q6 : H a6 = none := S6.free n6
      have S7 : Same H (upd (upd (upd (upd (upd (upd (upd H a0 (.tup [.str "q", .int 0, .int 1])) a1 (.tup [.ref a0])) a2 (.tup [.str "steps", .str t, .ref a1])) a3 (.tup [.str t, .int 0, .int 1])) a4 (.tup [.str "", .int 0, .int 1])) a5 (.tup [.ref a3, .ref a4])) a6 (.tup [.str "steps", .str t, .ref a5])) := S6.trans (same_new n6)
      have q7 : H a7 = none := S7.free n7
      have S8 : Same H (upd (upd (upd (upd (upd (upd (upd (upd H a0 (.tup [.str "q", .int 0, .int 1])) a1 (.tup [.ref a0])) a2 (.tup [.str "steps", .str t, .ref a1])) a3 (.tup [.str t, .int 0, .int 1])) a4 (.tup [.str "", .int 0, .int 1])) a5 (.tup [.ref a3, .ref a4])) a6 (.tup [.str "steps", .str t, .ref a5])) a7 (.lst [.ref a2, .ref a6])) := S7.trans (same_new n7)
      have R8 : Same (upd (upd (upd (upd (upd (upd (upd (upd H a0 (.tup [.str "q", .int 0, .int 1])) a1 (.tup [.ref a0])) a2 (.tup [.str "steps", .str t, .ref a1])) a3 (.tup [.str t, .int 0, .int 1])) a4 (.tup [.str "", .int 0, .int 1])) a5 (.tup [.ref a3, .ref a4])) a6 (.tup [.str "steps", .str t, .ref a5])) a7 (.lst [.ref a2, .ref a6])) (upd (upd (upd (upd (upd (upd (upd (upd H a0 (.tup [.str "q", .int 0, .int 1])) a1 (.tup [.ref a0])) a2 (.tup [.str "steps", .str t, .ref a1])) a3 (.tup [.str t, .int 0, .int 1])) a4 (.tup [.str "", .int 0, .int 1])) a5 (.tup [.ref a3, .ref a4])) a6 (.tup [.str "steps", .str t, .ref a5])) a7 (.lst [.ref a2, .ref a6])) := Same.refl _
      have e7 : (upd (upd (upd (upd (upd (upd (upd (upd H a0 (.tup [.str "q", .int 0, .int 1])) a1 (.tup [.ref a0])) a2 (.tup [.str "steps", .str t, .ref a1])) a3 (.tup [.str t, .int 0, .int 1])) a4 (.tup [.str "", .int 0, .int 1])) a5 (.tup [.ref a3, .ref a4])) a6 (.tup [.str "steps", .str t, .ref a5])) a7 (.lst [.ref a2, .ref a6])) a7 = some (.lst [.ref a2, .ref a6]) := R8 _ _ upd_same
      have R7 : Same (upd (upd (upd (upd (upd (upd (upd H a0 (.tup [.str "q", .int 0, .int 1])) a1 (.tup [.ref a0])) a2 (.tup [.str "steps", .str t, .ref a1])) a3 (.tup [.str t, .int 0, .int 1])) a4 (.tup [.str "", .int 0, .int 1])) a5 (.tup [.ref a3, .ref a4])) a6 (.tup [.str "steps", .str t, .ref a5])) (upd (upd (upd (upd (upd (upd (upd (upd H a0 (.tup [.str "q", .int 0, .int 1])) a1 (.tup [.ref a0])) a2 (.tup [.str "steps", .str t, .ref a1])) a3 (.tup [.str t, .int 0, .int 1])) a4 (.tup [.str "", .int 0, .int 1])) a5 (.tup [.ref a3, .ref a4])) a6 (.tup [.str "steps", .str t, .ref a5])) a7 (.lst [.ref a2, .ref a6])) := (same_new n7).trans R8
      have e6 : (upd (upd (upd (upd (upd (upd (upd (upd H a0 (.tup [.str "q", .int 0, .int 1])) a1 (.tup [.ref a0])) a2 (.tup [.str "steps", .str t, .ref a1])) a3 (.tup [.str t, .int 0, .int 1])) a4 (.tup [.str "", .int 0, .int 1])) a5 (.tup [.ref a3, .ref a4])) a6 (.tup [.str "steps", .str t, .ref a5])) a7 (.lst [.ref a2, .ref a6])) a6 = some (.tup [.str "steps", .str t, .ref a5]) := R7 _ _ upd_same
      have R6 : Same (upd (upd (upd (upd (upd (upd H a0 (.tup [.str "q", .int 0, .int 1])) a1 (.tup [.ref a0])) a2 (.tup [.str "steps", .str t, .ref a1])) a3 (.tup [.str t, .int 0, .int 1])) a4 (.tup [.str "", .int 0, .int 1])) a5 (.tup [.ref a3, .ref a4])) (upd (upd (upd (upd (upd (upd (upd (upd H a0 (.tup [.str "q", .int 0, .int 1])) a1 (.tup [.ref a0])) a2 (.tup [.str "steps", .str t, .ref a1])) a3 (.tup [.str t, .int 0, .int 1])) a4 (.tup [.str "", .int 0, .int 1])) a5 (.tup [.ref a3, .ref a4])) a6 (.tup [.str "steps", .str t, .ref a5])) a7 (.lst [.ref a2, .ref a6])) := (same_new n6).trans R7
      have e5 : (upd (upd (upd (upd (upd (upd (upd (upd H a0 (.tup [.str "q", .int 0, .int 1])) a1 (.tup [.ref a0])) a2 (.tup [.str "steps", .str t, .ref a1])) a3 (.tup [.str t, .int 0, .int 1])) a4 (.tup [.str "", .int 0, .int 1])) a5 (.tup [.ref a3, .ref a4])) a6 (.tup [.str "steps", .str t, .ref a5])) a7 (.lst [.ref a2, .ref a6])) a5 = some (.tup [.ref a3, .ref a4]) := R6 _ _ upd_same
      have R5 : Same (upd (upd (upd (upd (upd H a0 (.tup [.str "q", .int 0, .int 1])) a1 (.tup [.ref a0])) a2 (.tup [.str "steps", .str t, .ref a1])) a3 (.tup [.str t, .int 0, .int 1])) a4 (.tup [.str "", .int 0, .int 1])) (upd (upd (upd (upd (upd (upd (upd (upd H a0 (.tup [.str "q", .int 0, .int 1])) a1 (.tup [.ref a0])) a2 (.tup [.str "steps", .str t, .ref a1])) a3 (.tup [.str t, .int 0, .int 1])) a4 (.tup [.str "", .int 0, .int 1])) a5 (.tup [.ref a3, .ref a4])) a6 (.tup [.str "steps", .str t, .ref a5])) a7 (.lst [.ref a2, .ref a6])) := (same_new n5).trans R6
      have e4 : (upd (upd (upd (upd (upd (upd (upd (upd H a0 (.tup [.str "q", .int 0, .int 1])) a1 (.tup [.ref a0])) a2 (.tup [.str "steps", .str t, .ref a1])) a3 (.tup [.str t, .int 0, .int 1])) a4 (.tup [.str "", .int 0, .int 1])) a5 (.tup [.ref a3, .ref a4])) a6 (.tup [.str "steps", .str t, .ref a5])) a7 (.lst [.ref a2, .ref a6])) a4 = some (.tup [.str "", .int 0, .int 1]) := R5 _ _ upd_same
      have R4 : Same (upd (upd (upd (upd H a0 (.tup [.str "q", .int 0, .int 1])) a1 (.tup [.ref a0])) a2 (.tup [.str "steps", .str t, .ref a1])) a3 (.tup [.str t, .int 0, .int 1])) (upd (upd (upd (upd (upd (upd (upd (upd H a0 (.tup [.str "q", .int 0, .int 1])) a1 (.tup [.ref a0])) a2 (.tup [.str "steps", .str t, .ref a1])) a3 (.tup [.str t, .int 0, .int 1])) a4 (.tup [.str "", .int 0, .int 1])) a5 (.tup [.ref a3, .ref a4])) a6 (.tup [.str "steps", .str t, .ref a5])) a7 (.lst [.ref a2, .ref a6])) := (same_new n4).trans R5
      have e3 : (upd (upd (upd (upd (upd (upd (upd (upd H a0 (.tup [.str "q", .int 0, .int 1])) a1 (.tup [.ref a0])) a2 (.tup [.str "steps", .str t, .ref a1])) a3 (.tup [.str t, .int 0, .int 1])) a4 (.tup [.str "", .int 0, .int 1])) a5 (.tup [.ref a3, .ref a4])) a6 (.tup [.str "steps", .str t, .ref a5])) a7 (.lst [.ref a2, .ref a6])) a3 = some (.tup [.str t, .int 0, .int 1]) := R4 _ _ upd_same
      have R3 : Same (upd (upd (upd H a0 (.tup [.str "q", .int 0, .int 1])) a1 (.tup [.ref a0])) a2 (.tup [.str "steps", .str t, .ref a1])) (upd (upd (upd (upd (upd (upd (upd (upd H a0 (.tup [.str "q", .int 0, .int 1])) a1 (.tup [.ref a0])) a2 (.tup [.str "steps", .str t, .ref a1])) a3 (.tup [.str t, .int 0, .int 1])) a4 (.tup [.str "", .int 0, .int 1])) a5 (.tup [.ref a3, .ref a4])) a6 (.tup [.str "steps", .str t, .ref a5])) a7 (.lst [.ref a2, .ref a6])) := (same_new n3).trans R4
      have e2 : (upd (upd (upd (upd (upd (upd (upd (upd H a0 (.tup [.str "q", .int 0, .int 1])) a1 (.tup [.ref a0])) a2 (.tup [.str "steps", .str t, .ref a1])) a3 (.tup [.str t, .int 0, .int 1])) a4 (.tup [.str "", .int 0, .int 1])) a5 (.tup [.ref a3, .ref a4])) a6 (.tup [.str "steps", .str t, .ref a5])) a7 (.lst [.ref a2, .ref a6])) a2 = some (.tup [.str "steps", .str t, .ref a1]) := R3 _ _ upd_same
      have R2 : Same (upd (upd H a0 (.tup [.str "q", .int 0, .int 1])) a1 (.tup [.ref a0])) (upd (upd (upd (upd (upd (upd (upd (upd H a0 (.tup [.str "q", .int 0, .int 1])) a1 (.tup [.ref a0])) a2 (.tup [.str "steps", .str t, .ref a1])) a3 (.tup [.str t, .int 0, .int 1])) a4 (.tup [.str "", .int 0, .int 1])) a5 (.tup [.ref a3, .ref a4])) a6 (.tup [.str "steps", .str t, .ref a5])) a7 (.lst [.ref a2, .ref a6])) := (same_new n2).trans R3
      have e1 : (upd (upd (upd (upd (upd (upd (upd (upd H a0 (.tup [.str "q", .int 0, .int 1])) a1 (.tup [.ref a0])) a2 (.tup [.str "steps", .str t, .ref a1])) a3 (.tup [.str t, .int 0, .int 1])) a4 (.tup [.str "", .int 0, .int 1])) a5 (.tup [.ref a3, .ref a4])) a6 (.tup [.str "steps", .str t, .ref a5])) a7 (.lst [.ref a2, .ref a6])) a1 = some (.tup [.ref a0]) := R2 _ _ upd_same
      have R1 : Same (upd H a0 (.tup [.str "q", .int 0, .int 1])) (upd (upd (upd (upd (upd (upd (upd (upd H a0 (.tup [.str "q", .int 0, .int 1])) a1 (.tup [.ref a0])) a2 (.tup [.str "steps", .str t, .ref a1])) a3 (.tup [.str t, .int 0, .int 1])) a4 (.tup [.str "", .int 0, .int 1])) a5 (.tup [.ref a3, .ref a4])) a6 (.tup [.str "steps", .str t, .ref a5])) a7 (.lst [.ref a2, .ref a6])) := (same_new n1).trans R2
      have e0 : (upd (upd (upd (upd (upd (upd (upd (upd H a0 (.tup [.str "q", .int 0, .int 1])) a1 (.tup [.ref a0])) a2 (.tup [.str "steps", .str t, .ref a1])) a3 (.tup [.str t, .int 0, .int 1])) a4 (.tup [.str "", .int 0, .int 1])) a5 (.tup [.ref a3, .ref a4])) a6 (.tup [.str "steps", .str t, .ref a5])) a7 (.lst [.ref a2, .ref a6])) a0 = some (.tup [.str "q", .int 0, .int 1]) := R1 _ _ upd_same
      clear R1 R2 R3 R4 R5 R6 R7 R8
      generalize (upd (upd (upd (upd (upd (upd (upd (upd H a0 (.tup [.str "q", .int 0, .int 1])) a1 (.tup [.ref a0])) a2 (.tup [.str "steps", .str t, .ref a1])) a3 (.tup [.str t, .int 0, .int 1])) a4 (.tup [.str "", .int 0, .int 1])) a5 (.tup [.ref a3, .ref a4])) a6 (.tup [.str "steps", .str t, .ref a5])) a7 (.lst [.ref a2, .ref a6])) = H1 at S8 e0 e1 e2 e3 e4 e5 e6 e7 ⊢
      have D1 := D.same S8
      have cc : ∀ {a : Addr} {o : HO}, H a = none → H1 a = some o → (∀ ps, o ≠ .tbl ps) → True → rest d l [b0, fo, sd, sn] H1 a = some o := fun n e nt c => rest_at e (D.off n).1 (D.off n).2 (fun z => by obtain ⟨o, y⟩ := hL _ z; rw [(sb.free n)] at y; cases y) nt
      have new : ∀ x ∈ [V.ref a2, V.ref a6], Way (rest d l [b0, fo, sd, sn] H1) t x := by
        intro x hx
        simp only [List.mem_cons, List.not_mem_nil, or_false] at hx
        rcases hx with rfl | rfl
        · exact .steps (cc q2 e2 (fun _ z => by cases z) trivial) (is_tm1 (cc q1 e1 (fun _ z => by cases z) trivial) (cc q0 e0 (fun _ z => by cases z) trivial) smq (.int 0) (.int 1)) (bad_q t)
        · exact .steps (cc q6 e6 (fun _ z => by cases z) trivial) (is_sum2 (cc q5 e5 (fun _ z => by cases z) trivial) (cc q3 e3 (fun _ z => by cases z) trivial) (cc q4 e4 (fun _ z => by cases z) trivial) smt sme) (bad_two ht)
      have hwl1 := S8 _ _ hwl
      have hx1 : ∀ x ∈ xs, Way (rest d l [wl, b0, fo, sd, sn] H1) t x := fun x h => (hx x h).same (rest_but (But.of (d := d) (l := l) S8))
      refine ⟨wl, a7, xs, _, rfl, rfl, hwl1, e7, by rw [len]; show 7 + 2 ≤ sizeLine; decide, fun p np => q _ _ ⟨_, _, _, _, p, _, rfl, DB, (sb.trans S8).trans (same_new np), D1.new np, upd_same, (sb.trans S8).free np, by rw [List.length_append, len]; rfl, fun x h => ?_⟩⟩
      refine Way.same ?_ (rest_new (L := [b0, fo, sd, sn]) np)
      exact (List.mem_append.mp h).elim (fun h => (hx1 x h).same rest_drop) (new x)
    case w3 =>
      rintro D2 σ H ⟨td, fo, b0, sd, sn, s, t, Hb, ht, hL, ⟨y5, y7, y8, y9, wl, xs, rfl, DB, sb, D, hwl, nwl, len, hx⟩, q⟩
      have smt := isNameTI t ht
      have smt : t.cps.size ≤ 900 ∧ PyData.strOk t = true := ⟨smt.2.1, smt.2.2.1⟩
      refine ⟨_, rfl, _, rfl, _, rfl, by show 3 ≤ sizeLine; decide, fun a0 n0 => ⟨by show 1 ≤ sizeLine; decide, fun a1 n1 => ⟨by show 3 ≤ sizeLine; decide, fun a2 n2 => ⟨by show 0 ≤ sizeLine; decide, fun a3 n3 => ⟨by show 3 ≤ sizeLine; decide, fun a4 n4 => ⟨_, rfl, _, rfl, by show 3 ≤ sizeLine; decide, fun a5 n5 => ⟨by show 1 ≤ sizeLine; decide, fun a6 n6 => ⟨by show 3 ≤ sizeLine; decide, fun a7 n7 => ⟨by show 3 ≤ sizeLine; decide, fun a8 n8 => ?_⟩⟩⟩⟩⟩⟩⟩⟩⟩
      have S0 : Same H H := Same.refl _
      have q0 : H a0 = none := S0.free n0
      have S1 : Same H (upd H a0 (.tup [.str t, .int 0, .int 10])) := S0.trans (same_new n0)
      have q1 : H a1 = none := S1.free n1
      have S2 : Same H (upd (upd H a0 (.tup [.str t, .int 0, .int 10])) a1 (.tup [.ref a0])) := S1.trans (same_new n1)
      have q2 : H a2 = none := S2.free n2
      have S3 : Same H (upd (upd (upd H a0 (.tup [.str t, .int 0, .int 10])) a1 (.tup [.ref a0])) a2 (.tup [.str "steps", .str t, .ref a1])) := S2.trans (same_new n2)
      have q3 : H a3 = none := S3.free n3
      have S4 : Same H (upd (upd (upd (upd H a0 (.tup [.str t, .int 0, .int 10])) a1 (.tup [.ref a0])) a2 (.tup [.str "steps", .str t, .ref a1])) a3 (.tup [])) := S3.trans (same_new n3)
      have q4 : H a4 = none := S4.free n4
      have S5 : Same H (upd (upd (upd (upd (upd H a0 (.tup [.str t, .int 0, .int 10])) a1 (.tup [.ref a0])) a2 (.tup [.str "steps", .str t, .ref a1])) a3 (.tup [])) a4 (.tup [.str "steps", .str "q", .ref a3])) := S4.trans (same_new n4)
      have q5 : H a5 = none := S5.free n5
      have S6 : Same H (upd (upd (upd (upd (upd (upd H a0 (.tup [.str t, .int 0, .int 10])) a1 (.tup [.ref a0])) a2 (.tup [.str "steps", .str t, .ref a1])) a3 (.tup [])) a4 (.tup [.str "steps", .str "q", .ref a3])) a5 (.tup [.str t, .int 0, .int 0])) := S5.trans (same_new n5)
      have q6 : H a6 = none := S6.free n6
      have S7 : Same H (upd (upd (upd (upd (upd (upd (upd H a0 (.tup [.str t, .int 0, .int 10])) a1 (.tup [.ref a0])) a2 (.tup [.str "steps", .str t, .ref a1])) a3 (.tup [])) a4 (.tup [.str "steps", .str "q", .ref a3])) a5 (.tup [.str t, .int 0, .int 0])) a6 (.tup [.ref a5])) := S6.trans (same_new n6)
      have q7 : H a7 = none := S7.free n7
      have S8 : Same H (upd (upd (upd (upd (upd (upd (upd (upd H a0 (.tup [.str t, .int 0, .int 10])) a1 (.tup [.ref a0])) a2 (.tup [.str "steps", .str t, .ref a1])) a3 (.tup [])) a4 (.tup [.str "steps", .str "q", .ref a3])) a5 (.tup [.str t, .int 0, .int 0])) a6 (.tup [.ref a5])) a7 (.tup [.str "steps", .str t, .ref a6])) := S7.trans (same_new n7)
      have q8 : H a8 = none := S8.free n8
      have S9 : Same H (upd (upd (upd (upd (upd (upd (upd (upd (upd H a0 (.tup [.str t, .int 0, .int 10])) a1 (.tup [.ref a0])) a2 (.tup [.str "steps", .str t, .ref a1])) a3 (.tup [])) a4 (.tup [.str "steps", .str "q", .ref a3])) a5 (.tup [.str t, .int 0, .int 0])) a6 (.tup [.ref a5])) a7 (.tup [.str "steps", .str t, .ref a6])) a8 (.lst [.ref a2, .ref a4, .ref a7])) := S8.trans (same_new n8)
      have R9 : Same (upd (upd (upd (upd (upd (upd (upd (upd (upd H a0 (.tup [.str t, .int 0, .int 10])) a1 (.tup [.ref a0])) a2 (.tup [.str "steps", .str t, .ref a1])) a3 (.tup [])) a4 (.tup [.str "steps", .str "q", .ref a3])) a5 (.tup [.str t, .int 0, .int 0])) a6 (.tup [.ref a5])) a7 (.tup [.str "steps", .str t, .ref a6])) a8 (.lst [.ref a2, .ref a4, .ref a7])) (upd (upd (upd (upd (upd (upd (upd (upd (upd H a0 (.tup [.str t, .int 0, .int 10])) a1 (.tup [.ref a0])) a2 (.tup [.str "steps", .str t, .ref a1])) a3 (.tup [])) a4 (.tup [.str "steps", .str "q", .ref a3])) a5 (.tup [.str t, .int 0, .int 0])) a6 (.tup [.ref a5])) a7 (.tup [.str "steps", .str t, .ref a6])) a8 (.lst [.ref a2, .ref a4, .ref a7])) := Same.refl _
      have e8 : (upd (upd (upd (upd (upd (upd (upd (upd (upd H a0 (.tup [.str t, .int 0, .int 10])) a1 (.tup [.ref a0])) a2 (.tup [.str "steps", .str t, .ref a1])) a3 (.tup [])) a4 (.tup [.str "steps", .str "q", .ref a3])) a5 (.tup [.str t, .int 0, .int 0])) a6 (.tup [.ref a5])) a7 (.tup [.str "steps", .str t, .ref a6])) a8 (.lst [.ref a2, .ref a4, .ref a7])) a8 = some (.lst [.ref a2, .ref a4, .ref a7]) := R9 _ _ upd_same
      have R8 : Same (upd (upd (upd (upd (upd (upd (upd (upd H a0 (.tup [.str t, .int 0, .int 10])) a1 (.tup [.ref a0])) a2 (.tup [.str "steps", .str t, .ref a1])) a3 (.tup [])) a4 (.tup [.str "steps", .str "q", .ref a3])) a5 (.tup [.str t, .int 0, .int 0])) a6 (.tup [.ref a5])) a7 (.tup [.str "steps", .str t, .ref a6])) (upd (upd (upd (upd (upd (upd (upd (upd (upd H a0 (.tup [.str t, .int 0, .int 10])) a1 (.tup [.ref a0])) a2 (.tup [.str "steps", .str t, .ref a1])) a3 (.tup [])) a4 (.tup [.str "steps", .str "q", .ref a3])) a5 (.tup [.str t, .int 0, .int 0])) a6 (.tup [.ref a5])) a7 (.tup [.str "steps", .str t, .ref a6])) a8 (.lst [.ref a2, .ref a4, .ref a7])) := (same_new n8).trans R9
      have e7 : (upd (upd (upd (upd (upd (upd (upd (upd (upd H a0 (.tup [.str t, .int 0, .int 10])) a1 (.tup [.ref a0])) a2 (.tup [.str "steps", .str t, .ref a1])) a3 (.tup [])) a4 (.tup [.str "steps", .str "q", .ref a3])) a5 (.tup [.str t, .int 0, .int 0])) a6 (.tup [.ref a5])) a7 (.tup [.str "steps", .str t, .ref a6])) a8 (.lst [.ref a2, .ref a4, .ref a7])) a7 = some (.tup [.str "steps", .str t, .ref a6]) := R8 _ _ upd_same
      have R7 : Same (upd (upd (upd (upd (upd (upd (upd H a0 (.tup [.str t, .int 0, .int 10])) a1 (.tup [.ref a0])) a2 (.tup [.str "steps", .str t, .ref a1])) a3 (.tup [])) a4 (.tup [.str "steps", .str "q", .ref a3])) a5 (.tup [.str t, .int 0, .int 0])) a6 (.tup [.ref a5])) (upd (upd (upd (upd (upd (upd (upd (upd (upd H a0 (.tup [.str t, .int 0, .int 10])) a1 (.tup [.ref a0])) a2 (.tup [.str "steps", .str t, .ref a1])) a3 (.tup [])) a4 (.tup [.str "steps", .str "q", .ref a3])) a5 (.tup [.str t, .int 0, .int 0])) a6 (.tup [.ref a5])) a7 (.tup [.str "steps", .str t, .ref a6])) a8 (.lst [.ref a2, .ref a4, .ref a7])) := (same_new n7).trans R8
      have e6 : (upd (upd (upd (upd (upd (upd (upd (upd (upd H a0 (.tup [.str t, .int 0, .int 10])) a1 (.tup [.ref a0])) a2 (.tup [.str "steps", .str t, .ref a1])) a3 (.tup [])) a4 (.tup [.str "steps", .str "q", .ref a3])) a5 (.tup [.str t, .int 0, .int 0])) a6 (.tup [.ref a5])) a7 (.tup [.str "steps", .str t, .ref a6])) a8 (.lst [.ref a2, .ref a4, .ref a7])) a6 = some (.tup [.ref a5]) := R7 _ _ upd_same
      have R6 : Same (upd (upd (upd (upd (upd (upd H a0 (.tup [.str t, .int 0, .int 10])) a1 (.tup [.ref a0])) a2 (.tup [.str "steps", .str t, .ref a1])) a3 (.tup [])) a4 (.tup [.str "steps", .str "q", .ref a3])) a5 (.tup [.str t, .int 0, .int 0])) (upd (upd (upd (upd (upd (upd (upd (upd (upd H a0 (.tup [.str t, .int 0, .int 10])) a1 (.tup [.ref a0])) a2 (.tup [.str "steps", .str t, .ref a1])) a3 (.tup [])) a4 (.tup [.str "steps", .str "q", .ref a3])) a5 (.tup [.str t, .int 0, .int 0])) a6 (.tup [.ref a5])) a7 (.tup [.str "steps", .str t, .ref a6])) a8 (.lst [.ref a2, .ref a4, .ref a7])) := (same_new n6).trans R7
      have e5 : (upd (upd (upd (upd (upd (upd (upd (upd (upd H a0 (.tup [.str t, .int 0, .int 10])) a1 (.tup [.ref a0])) a2 (.tup [.str "steps", .str t, .ref a1])) a3 (.tup [])) a4 (.tup [.str "steps", .str "q", .ref a3])) a5 (.tup [.str t, .int 0, .int 0])) a6 (.tup [.ref a5])) a7 (.tup [.str "steps", .str t, .ref a6])) a8 (.lst [.ref a2, .ref a4, .ref a7])) a5 = some (.tup [.str t, .int 0, .int 0]) := R6 _ _ upd_same
      have R5 : Same (upd (upd (upd (upd (upd H a0 (.tup [.str t, .int 0, .int 10])) a1 (.tup [.ref a0])) a2 (.tup [.str "steps", .str t, .ref a1])) a3 (.tup [])) a4 (.tup [.str "steps", .str "q", .ref a3])) (upd (upd (upd (upd (upd (upd (upd (upd (upd H a0 (.tup [.str t, .int 0, .int 10])) a1 (.tup [.ref a0])) a2 (.tup [.str "steps", .str t, .ref a1])) a3 (.tup [])) a4 (.tup [.str "steps", .str "q", .ref a3])) a5 (.tup [.str t, .int 0, .int 0])) a6 (.tup [.ref a5])) a7 (.tup [.str "steps", .str t, .ref a6])) a8 (.lst [.ref a2, .ref a4, .ref a7])) := (same_new n5).trans R6
      have e4 : (upd (upd (upd (upd (upd (upd (upd (upd (upd H a0 (.tup [.str t, .int 0, .int 10])) a1 (.tup [.ref a0])) a2 (.tup [.str "steps", .str t, .ref a1])) a3 (.tup [])) a4 (.tup [.str "steps", .str "q", .ref a3])) a5 (.tup [.str t, .int 0, .int 0])) a6 (.tup [.ref a5])) a7 (.tup [.str "steps", .str t, .ref a6])) a8 (.lst [.ref a2, .ref a4, .ref a7])) a4 = some (.tup [.str "steps", .str "q", .ref a3]) := R5 _ _ upd_same
      have R4 : Same (upd (upd (upd (upd H a0 (.tup [.str t, .int 0, .int 10])) a1 (.tup [.ref a0])) a2 (.tup [.str "steps", .str t, .ref a1])) a3 (.tup [])) (upd (upd (upd (upd (upd (upd (upd (upd (upd H a0 (.tup [.str t, .int 0, .int 10])) a1 (.tup [.ref a0])) a2 (.tup [.str "steps", .str t, .ref a1])) a3 (.tup [])) a4 (.tup [.str "steps", .str "q", .ref a3])) a5 (.tup [.str t, .int 0, .int 0])) a6 (.tup [.ref a5])) a7 (.tup [.str "steps", .str t, .ref a6])) a8 (.lst [.ref a2, .ref a4, .ref a7])) := (same_new n4).trans R5
      have e3 : (upd (upd (upd (upd (upd (upd (upd (upd (upd H a0 (.tup [.str t, .int 0, .int 10])) a1 (.tup [.ref a0])) a2 (.tup [.str "steps", .str t, .ref a1])) a3 (.tup [])) a4 (.tup [.str "steps", .str "q", .ref a3])) a5 (.tup [.str t, .int 0, .int 0])) a6 (.tup [.ref a5])) a7 (.tup [.str "steps", .str t, .ref a6])) a8 (.lst [.ref a2, .ref a4, .ref a7])) a3 = some (.tup []) := R4 _ _ upd_same
      have R3 : Same (upd (upd (upd H a0 (.tup [.str t, .int 0, .int 10])) a1 (.tup [.ref a0])) a2 (.tup [.str "steps", .str t, .ref a1])) (upd (upd (upd (upd (upd (upd (upd (upd (upd H a0 (.tup [.str t, .int 0, .int 10])) a1 (.tup [.ref a0])) a2 (.tup [.str "steps", .str t, .ref a1])) a3 (.tup [])) a4 (.tup [.str "steps", .str "q", .ref a3])) a5 (.tup [.str t, .int 0, .int 0])) a6 (.tup [.ref a5])) a7 (.tup [.str "steps", .str t, .ref a6])) a8 (.lst [.ref a2, .ref a4, .ref a7])) := (same_new n3).trans R4
      have e2 : (upd (upd (upd (upd (upd (upd (upd (upd (upd H a0 (.tup [.str t, .int 0, .int 10])) a1 (.tup [.ref a0])) a2 (.tup [.str "steps", .str t, .ref a1])) a3 (.tup [])) a4 (.tup [.str "steps", .str "q", .ref a3])) a5 (.tup [.str t, .int 0, .int 0])) a6 (.tup [.ref a5])) a7 (.tup [.str "steps", .str t, .ref a6])) a8 (.lst [.ref a2, .ref a4, .ref a7])) a2 = some (.tup [.str "steps", .str t, .ref a1]) := R3 _ _ upd_same
      have R2 : Same (upd (upd H a0 (.tup [.str t, .int 0, .int 10])) a1 (.tup [.ref a0])) (upd (upd (upd (upd (upd (upd (upd (upd (upd H a0 (.tup [.str t, .int 0, .int 10])) a1 (.tup [.ref a0])) a2 (.tup [.str "steps", .str t, .ref a1])) a3 (.tup [])) a4 (.tup [.str "steps", .str "q", .ref a3])) a5 (.tup [.str t, .int 0, .int 0])) a6 (.tup [.ref a5])) a7 (.tup [.str "steps", .str t, .ref a6])) a8 (.lst [.ref a2, .ref a4, .ref a7])) := (same_new n2).trans R3
      have e1 : (upd (upd (upd (upd (upd (upd (upd (upd (upd H a0 (.tup [.str t, .int 0, .int 10])) a1 (.tup [.ref a0])) a2 (.tup [.str "steps", .str t, .ref a1])) a3 (.tup [])) a4 (.tup [.str "steps", .str "q", .ref a3])) a5 (.tup [.str t, .int 0, .int 0])) a6 (.tup [.ref a5])) a7 (.tup [.str "steps", .str t, .ref a6])) a8 (.lst [.ref a2, .ref a4, .ref a7])) a1 = some (.tup [.ref a0]) := R2 _ _ upd_same
      have R1 : Same (upd H a0 (.tup [.str t, .int 0, .int 10])) (upd (upd (upd (upd (upd (upd (upd (upd (upd H a0 (.tup [.str t, .int 0, .int 10])) a1 (.tup [.ref a0])) a2 (.tup [.str "steps", .str t, .ref a1])) a3 (.tup [])) a4 (.tup [.str "steps", .str "q", .ref a3])) a5 (.tup [.str t, .int 0, .int 0])) a6 (.tup [.ref a5])) a7 (.tup [.str "steps", .str t, .ref a6])) a8 (.lst [.ref a2, .ref a4, .ref a7])) := (same_new n1).trans R2
      have e0 : (upd (upd (upd (upd (upd (upd (upd (upd (upd H a0 (.tup [.str t, .int 0, .int 10])) a1 (.tup [.ref a0])) a2 (.tup [.str "steps", .str t, .ref a1])) a3 (.tup [])) a4 (.tup [.str "steps", .str "q", .ref a3])) a5 (.tup [.str t, .int 0, .int 0])) a6 (.tup [.ref a5])) a7 (.tup [.str "steps", .str t, .ref a6])) a8 (.lst [.ref a2, .ref a4, .ref a7])) a0 = some (.tup [.str t, .int 0, .int 10]) := R1 _ _ upd_same
      clear R1 R2 R3 R4 R5 R6 R7 R8 R9
      generalize (upd (upd (upd (upd (upd (upd (upd (upd (upd H a0 (.tup [.str t, .int 0, .int 10])) a1 (.tup [.ref a0])) a2 (.tup [.str "steps", .str t, .ref a1])) a3 (.tup [])) a4 (.tup [.str "steps", .str "q", .ref a3])) a5 (.tup [.str t, .int 0, .int 0])) a6 (.tup [.ref a5])) a7 (.tup [.str "steps", .str t, .ref a6])) a8 (.lst [.ref a2, .ref a4, .ref a7])) = H1 at S9 e0 e1 e2 e3 e4 e5 e6 e7 e8 ⊢
      have D1 := D.same S9
      have cc : ∀ {a : Addr} {o : HO}, H a = none → H1 a = some o → (∀ ps, o ≠ .tbl ps) → True → rest d l [b0, fo, sd, sn] H1 a = some o := fun n e nt c => rest_at e (D.off n).1 (D.off n).2 (fun z => by obtain ⟨o, y⟩ := hL _ z; rw [(sb.free n)] at y; cases y) nt
      have new : ∀ x ∈ [V.ref a2, V.ref a4, V.ref a7], Way (rest d l [b0, fo, sd, sn] H1) t x := by
        intro x hx
        simp only [List.mem_cons, List.not_mem_nil, or_false] at hx
        rcases hx with rfl | rfl | rfl
        · exact .steps (cc q2 e2 (fun _ z => by cases z) trivial) (is_tm1 (cc q1 e1 (fun _ z => by cases z) trivial) (cc q0 e0 (fun _ z => by cases z) trivial) smt (.int 0) (.int 10)) (bad_one t rfl)
        · exact .stepsQ (cc q4 e4 (fun _ z => by cases z) trivial) (is_sum0 (cc q3 e3 (fun _ z => by cases z) trivial))
        · exact .steps (cc q7 e7 (fun _ z => by cases z) trivial) (is_tm1 (cc q6 e6 (fun _ z => by cases z) trivial) (cc q5 e5 (fun _ z => by cases z) trivial) smt (.int 0) (.int 0)) (bad_one t rfl)
      have hwl1 := S9 _ _ hwl
      have hx1 : ∀ x ∈ xs, Way (rest d l [wl, b0, fo, sd, sn] H1) t x := fun x h => (hx x h).same (rest_but (But.of (d := d) (l := l) S9))
      refine ⟨wl, a8, xs, _, rfl, rfl, hwl1, e8, by rw [len]; show 9 + 3 ≤ sizeLine; decide, fun p np => q _ _ ⟨_, _, _, _, p, _, rfl, DB, (sb.trans S9).trans (same_new np), D1.new np, upd_same, (sb.trans S9).free np, by rw [List.length_append, len]; rfl, fun x h => ?_⟩⟩
      refine Way.same ?_ (rest_new (L := [b0, fo, sd, sn]) np)
      exact (List.mem_append.mp h).elim (fun h => (hx1 x h).same rest_drop) (new x)
    case w4 =>
      rintro D2 σ H ⟨td, fo, b0, sd, sn, s, t, Hb, ht, hL, ⟨y5, y7, y8, y9, wl, xs, rfl, DB, sb, D, hwl, nwl, len, hx⟩, q⟩
      have smt := isNameTI t ht
      have smt : t.cps.size ≤ 900 ∧ PyData.strOk t = true := ⟨smt.2.1, smt.2.2.1⟩
      refine ⟨_, rfl, _, rfl, _, rfl, by show 3 ≤ sizeLine; decide, fun a0 n0 => ⟨by show 1 ≤ sizeLine; decide, fun a1 n1 => ⟨by show 3 ≤ sizeLine; decide, fun a2 n2 => ⟨_, rfl, by show 3 ≤ sizeLine; decide, fun a3 n3 => ⟨_, rfl, by show 3 ≤ sizeLine; decide, fun a4 n4 => ⟨by show 1 ≤ sizeLine; decide, fun a5 n5 => ⟨by show 3 ≤ sizeLine; decide, fun a6 n6 => ⟨by show 3 ≤ sizeLine; decide, fun a7 n7 => ?_⟩⟩⟩⟩⟩⟩⟩⟩
      have S0 : Same H H := Same.refl _
      have q0 : H a0 = none := S0.free n0
      have S1 : Same H (upd H a0 (.tup [.str t, .bl true, .int 1])) := S0.trans (same_new n0)
      have q1 : H a1 = none := S1.free n1
      have S2 : Same H (upd (upd H a0 (.tup [.str t, .bl true, .int 1])) a1 (.tup [.ref a0])) := S1.trans (same_new n1)
      have q2 : H a2 = none := S2.free n2
      have S3 : Same H (upd (upd (upd H a0 (.tup [.str t, .bl true, .int 1])) a1 (.tup [.ref a0])) a2 (.tup [.str "steps", .str t, .ref a1])) := S2.trans (same_new n2)
      have q3 : H a3 = none := S3.free n3
      have S4 : Same H (upd (upd (upd (upd H a0 (.tup [.str t, .bl true, .int 1])) a1 (.tup [.ref a0])) a2 (.tup [.str "steps", .str t, .ref a1])) a3 (.tup [.str "steps", .str t, .non])) := S3.trans (same_new n3)
      have q4 : H a4 = none := S4.free n4
      have S5 : Same H (upd (upd (upd (upd (upd H a0 (.tup [.str t, .bl true, .int 1])) a1 (.tup [.ref a0])) a2 (.tup [.str "steps", .str t, .ref a1])) a3 (.tup [.str "steps", .str t, .non])) a4 (.tup [.str t, .int 1, .int 1])) := S4.trans (same_new n4)
      have q5 : H a5 = none := S5.free n5
      have S6 : Same H (upd (upd (upd (upd (upd (upd H a0 (.tup [.str t, .bl true, .int 1])) a1 (.tup [.ref a0])) a2 (.tup [.str "steps", .str t, .ref a1])) a3 (.tup [.str "steps", .str t, .non])) a4 (.tup [.str t, .int 1, .int 1])) a5 (.tup [.ref a4])) := S5.trans (same_new n5)
      have q6 : H a6 = none := S6.free n6
      have S7 : Same H (upd (upd (upd (upd (upd (upd (upd H a0 (.tup [.str t, .bl true, .int 1])) a1 (.tup [.ref a0])) a2 (.tup [.str "steps", .str t, .ref a1])) a3 (.tup [.str "steps", .str t, .non])) a4 (.tup [.str t, .int 1, .int 1])) a5 (.tup [.ref a4])) a6 (.tup [.str "last", .str "", .ref a5])) := S6.trans (same_new n6)
      have q7 : H a7 = none := S7.free n7
      have S8 : Same H (upd (upd (upd (upd (upd (upd (upd (upd H a0 (.tup [.str t, .bl true, .int 1])) a1 (.tup [.ref a0])) a2 (.tup [.str "steps", .str t, .ref a1])) a3 (.tup [.str "steps", .str t, .non])) a4 (.tup [.str t, .int 1, .int 1])) a5 (.tup [.ref a4])) a6 (.tup [.str "last", .str "", .ref a5])) a7 (.lst [.ref a2, .ref a3, .ref a6])) := S7.trans (same_new n7)
      have R8 : Same (upd (upd (upd (upd (upd (upd (upd (upd H a0 (.tup [.str t, .bl true, .int 1])) a1 (.tup [.ref a0])) a2 (.tup [.str "steps", .str t, .ref a1])) a3 (.tup [.str "steps", .str t, .non])) a4 (.tup [.str t, .int 1, .int 1])) a5 (.tup [.ref a4])) a6 (.tup [.str "last", .str "", .ref a5])) a7 (.lst [.ref a2, .ref a3, .ref a6])) (upd (upd (upd (upd (upd (upd (upd (upd H a0 (.tup [.str t, .bl true, .int 1])) a1 (.tup [.ref a0])) a2 (.tup [.str "steps", .str t, .ref a1])) a3 (.tup [.str "steps", .str t, .non])) a4 (.tup [.str t, .int 1, .int 1])) a5 (.tup [.ref a4])) a6 (.tup [.str "last", .str "", .ref a5])) a7 (.lst [.ref a2, .ref a3, .ref a6])) := Same.refl _
      have e7 : (upd (upd (upd (upd (upd (upd (upd (upd H a0 (.tup [.str t, .bl true, .int 1])) a1 (.tup [.ref a0])) a2 (.tup [.str "steps", .str t, .ref a1])) a3 (.tup [.str "steps", .str t, .non])) a4 (.tup [.str t, .int 1, .int 1])) a5 (.tup [.ref a4])) a6 (.tup [.str "last", .str "", .ref a5])) a7 (.lst [.ref a2, .ref a3, .ref a6])) a7 = some (.lst [.ref a2, .ref a3, .ref a6]) := R8 _ _ upd_same
      have R7 : Same (upd (upd (upd (upd (upd (upd (upd H a0 (.tup [.str t, .bl true, .int 1])) a1 (.tup [.ref a0])) a2 (.tup [.str "steps", .str t, .ref a1])) a3 (.tup [.str "steps", .str t, .non])) a4 (.tup [.str t, .int 1, .int 1])) a5 (.tup [.ref a4])) a6 (.tup [.str "last", .str "", .ref a5])) (upd (upd (upd (upd (upd (upd (upd (upd H a0 (.tup [.str t, .bl true, .int 1])) a1 (.tup [.ref a0])) a2 (.tup [.str "steps", .str t, .ref a1])) a3 (.tup [.str "steps", .str t, .non])) a4 (.tup [.str t, .int 1, .int 1])) a5 (.tup [.ref a4])) a6 (.tup [.str "last", .str "", .ref a5])) a7 (.lst [.ref a2, .ref a3, .ref a6])) := (same_new n7).trans R8
      have e6 : (upd (upd (upd (upd (upd (upd (upd (upd H a0 (.tup [.str t, .bl true, .int 1])) a1 (.tup [.ref a0])) a2 (.tup [.str "steps", .str t, .ref a1])) a3 (.tup [.str "steps", .str t, .non])) a4 (.tup [.str t, .int 1, .int 1])) a5 (.tup [.ref a4])) a6 (.tup [.str "last", .str "", .ref a5])) a7 (.lst [.ref a2, .ref a3, .ref a6])) a6 = some (.tup [.str "last", .str "", .ref a5]) := R7 _ _ upd_same
      have R6 : Same (upd (upd (upd (upd (upd (upd H a0 (.tup [.str t, .bl true, .int 1])) a1 (.tup [.ref a0])) a2 (.tup [.str "steps", .str t, .ref a1])) a3 (.tup [.str "steps", .str t, .non])) a4 (.tup [.str t, .int 1, .int 1])) a5 (.tup [.ref a4])) (upd (upd (upd (upd (upd (upd (upd (upd H a0 (.tup [.str t, .bl true, .int 1])) a1 (.tup [.ref a0])) a2 (.tup [.str "steps", .str t, .ref a1])) a3 (.tup [.str "steps", .str t, .non])) a4 (.tup [.str t, .int 1, .int 1])) a5 (.tup [.ref a4])) a6 (.tup [.str "last", .str "", .ref a5])) a7 (.lst [.ref a2, .ref a3, .ref a6])) := (same_new n6).trans R7
      have e5 : (upd (upd (upd (upd (upd (upd (upd (upd H a0 (.tup [.str t, .bl true, .int 1])) a1 (.tup [.ref a0])) a2 (.tup [.str "steps", .str t, .ref a1])) a3 (.tup [.str "steps", .str t, .non])) a4 (.tup [.str t, .int 1, .int 1])) a5 (.tup [.ref a4])) a6 (.tup [.str "last", .str "", .ref a5])) a7 (.lst [.ref a2, .ref a3, .ref a6])) a5 = some (.tup [.ref a4]) := R6 _ _ upd_same
      have R5 : Same (upd (upd (upd (upd (upd H a0 (.tup [.str t, .bl true, .int 1])) a1 (.tup [.ref a0])) a2 (.tup [.str "steps", .str t, .ref a1])) a3 (.tup [.str "steps", .str t, .non])) a4 (.tup [.str t, .int 1, .int 1])) (upd (upd (upd (upd (upd (upd (upd (upd H a0 (.tup [.str t, .bl true, .int 1])) a1 (.tup [.ref a0])) a2 (.tup [.str "steps", .str t, .ref a1])) a3 (.tup [.str "steps", .str t, .non])) a4 (.tup [.str t, .int 1, .int 1])) a5 (.tup [.ref a4])) a6 (.tup [.str "last", .str "", .ref a5])) a7 (.lst [.ref a2, .ref a3, .ref a6])) := (same_new n5).trans R6
      have e4 : (upd (upd (upd (upd (upd (upd (upd (upd H a0 (.tup [.str t, .bl true, .int 1])) a1 (.tup [.ref a0])) a2 (.tup [.str "steps", .str t, .ref a1])) a3 (.tup [.str "steps", .str t, .non])) a4 (.tup [.str t, .int 1, .int 1])) a5 (.tup [.ref a4])) a6 (.tup [.str "last", .str "", .ref a5])) a7 (.lst [.ref a2, .ref a3, .ref a6])) a4 = some (.tup [.str t, .int 1, .int 1]) := R5 _ _ upd_same
      have R4 : Same (upd (upd (upd (upd H a0 (.tup [.str t, .bl true, .int 1])) a1 (.tup [.ref a0])) a2 (.tup [.str "steps", .str t, .ref a1])) a3 (.tup [.str "steps", .str t, .non])) (upd (upd (upd (upd (upd (upd (upd (upd H a0 (.tup [.str t, .bl true, .int 1])) a1 (.tup [.ref a0])) a2 (.tup [.str "steps", .str t, .ref a1])) a3 (.tup [.str "steps", .str t, .non])) a4 (.tup [.str t, .int 1, .int 1])) a5 (.tup [.ref a4])) a6 (.tup [.str "last", .str "", .ref a5])) a7 (.lst [.ref a2, .ref a3, .ref a6])) := (same_new n4).trans R5
      have e3 : (upd (upd (upd (upd (upd (upd (upd (upd H a0 (.tup [.str t, .bl true, .int 1])) a1 (.tup [.ref a0])) a2 (.tup [.str "steps", .str t, .ref a1])) a3 (.tup [.str "steps", .str t, .non])) a4 (.tup [.str t, .int 1, .int 1])) a5 (.tup [.ref a4])) a6 (.tup [.str "last", .str "", .ref a5])) a7 (.lst [.ref a2, .ref a3, .ref a6])) a3 = some (.tup [.str "steps", .str t, .non]) := R4 _ _ upd_same
      have R3 : Same (upd (upd (upd H a0 (.tup [.str t, .bl true, .int 1])) a1 (.tup [.ref a0])) a2 (.tup [.str "steps", .str t, .ref a1])) (upd (upd (upd (upd (upd (upd (upd (upd H a0 (.tup [.str t, .bl true, .int 1])) a1 (.tup [.ref a0])) a2 (.tup [.str "steps", .str t, .ref a1])) a3 (.tup [.str "steps", .str t, .non])) a4 (.tup [.str t, .int 1, .int 1])) a5 (.tup [.ref a4])) a6 (.tup [.str "last", .str "", .ref a5])) a7 (.lst [.ref a2, .ref a3, .ref a6])) := (same_new n3).trans R4
      have e2 : (upd (upd (upd (upd (upd (upd (upd (upd H a0 (.tup [.str t, .bl true, .int 1])) a1 (.tup [.ref a0])) a2 (.tup [.str "steps", .str t, .ref a1])) a3 (.tup [.str "steps", .str t, .non])) a4 (.tup [.str t, .int 1, .int 1])) a5 (.tup [.ref a4])) a6 (.tup [.str "last", .str "", .ref a5])) a7 (.lst [.ref a2, .ref a3, .ref a6])) a2 = some (.tup [.str "steps", .str t, .ref a1]) := R3 _ _ upd_same
      have R2 : Same (upd (upd H a0 (.tup [.str t, .bl true, .int 1])) a1 (.tup [.ref a0])) (upd (upd (upd (upd (upd (upd (upd (upd H a0 (.tup [.str t, .bl true, .int 1])) a1 (.tup [.ref a0])) a2 (.tup [.str "steps", .str t, .ref a1])) a3 (.tup [.str "steps", .str t, .non])) a4 (.tup [.str t, .int 1, .int 1])) a5 (.tup [.ref a4])) a6 (.tup [.str "last", .str "", .ref a5])) a7 (.lst [.ref a2, .ref a3, .ref a6])) := (same_new n2).trans R3
      have e1 : (upd (upd (upd (upd (upd (upd (upd (upd H a0 (.tup [.str t, .bl true, .int 1])) a1 (.tup [.ref a0])) a2 (.tup [.str "steps", .str t, .ref a1])) a3 (.tup [.str "steps", .str t, .non])) a4 (.tup [.str t, .int 1, .int 1])) a5 (.tup [.ref a4])) a6 (.tup [.str "last", .str "", .ref a5])) a7 (.lst [.ref a2, .ref a3, .ref a6])) a1 = some (.tup [.ref a0]) := R2 _ _ upd_same
      have R1 : Same (upd H a0 (.tup [.str t, .bl true, .int 1])) (upd (upd (upd (upd (upd (upd (upd (upd H a0 (.tup [.str t, .bl true, .int 1])) a1 (.tup [.ref a0])) a2 (.tup [.str "steps", .str t, .ref a1])) a3 (.tup [.str "steps", .str t, .non])) a4 (.tup [.str t, .int 1, .int 1])) a5 (.tup [.ref a4])) a6 (.tup [.str "last", .str "", .ref a5])) a7 (.lst [.ref a2, .ref a3, .ref a6])) := (same_new n1).trans R2
      have e0 : (upd (upd (upd (upd (upd (upd (upd (upd H a0 (.tup [.str t, .bl true, .int 1])) a1 (.tup [.ref a0])) a2 (.tup [.str "steps", .str t, .ref a1])) a3 (.tup [.str "steps", .str t, .non])) a4 (.tup [.str t, .int 1, .int 1])) a5 (.tup [.ref a4])) a6 (.tup [.str "last", .str "", .ref a5])) a7 (.lst [.ref a2, .ref a3, .ref a6])) a0 = some (.tup [.str t, .bl true, .int 1]) := R1 _ _ upd_same
      clear R1 R2 R3 R4 R5 R6 R7 R8
      generalize (upd (upd (upd (upd (upd (upd (upd (upd H a0 (.tup [.str t, .bl true, .int 1])) a1 (.tup [.ref a0])) a2 (.tup [.str "steps", .str t, .ref a1])) a3 (.tup [.str "steps", .str t, .non])) a4 (.tup [.str t, .int 1, .int 1])) a5 (.tup [.ref a4])) a6 (.tup [.str "last", .str "", .ref a5])) a7 (.lst [.ref a2, .ref a3, .ref a6])) = H1 at S8 e0 e1 e2 e3 e4 e5 e6 e7 ⊢
      have D1 := D.same S8
      have cc : ∀ {a : Addr} {o : HO}, H a = none → H1 a = some o → (∀ ps, o ≠ .tbl ps) → True → rest d l [b0, fo, sd, sn] H1 a = some o := fun n e nt c => rest_at e (D.off n).1 (D.off n).2 (fun z => by obtain ⟨o, y⟩ := hL _ z; rw [(sb.free n)] at y; cases y) nt
      have new : ∀ x ∈ [V.ref a2, V.ref a3, V.ref a6], Way (rest d l [b0, fo, sd, sn] H1) t x := by
        intro x hx
        simp only [List.mem_cons, List.not_mem_nil, or_false] at hx
        rcases hx with rfl | rfl | rfl
        · exact .steps (cc q2 e2 (fun _ z => by cases z) trivial) (is_tm1 (cc q1 e1 (fun _ z => by cases z) trivial) (cc q0 e0 (fun _ z => by cases z) trivial) smt (.bl true) (.int 1)) (bad_one t rfl)
        · exact .steps (cc q3 e3 (fun _ z => by cases z) trivial) .non (bad_non t)
        · exact .last (cc q6 e6 (fun _ z => by cases z) trivial) (is_tm1 (cc q5 e5 (fun _ z => by cases z) trivial) (cc q4 e4 (fun _ z => by cases z) trivial) smt (.int 1) (.int 1)) (bad_last1 t)
      have hwl1 := S8 _ _ hwl
      have hx1 : ∀ x ∈ xs, Way (rest d l [wl, b0, fo, sd, sn] H1) t x := fun x h => (hx x h).same (rest_but (But.of (d := d) (l := l) S8))
      refine ⟨wl, a7, xs, _, rfl, rfl, hwl1, e7, by rw [len]; show 12 + 3 ≤ sizeLine; decide, fun p np => q _ _ ⟨_, _, _, _, p, _, rfl, DB, (sb.trans S8).trans (same_new np), D1.new np, upd_same, (sb.trans S8).free np, by rw [List.length_append, len]; rfl, fun x h => ?_⟩⟩
      refine Way.same ?_ (rest_new (L := [b0, fo, sd, sn]) np)
      exact (List.mem_append.mp h).elim (fun h => (hx1 x h).same rest_drop) (new x)
    case w5 =>
      rintro D2 σ H ⟨td, fo, b0, sd, sn, s, t, Hb, ht, hL, ⟨y5, y7, y8, y9, wl, xs, rfl, DB, sb, D, hwl, nwl, len, hx⟩, q⟩
      have smt := isNameTI t ht
      have smt : t.cps.size ≤ 900 ∧ PyData.strOk t = true := ⟨smt.2.1, smt.2.2.1⟩
      refine ⟨_, rfl, _, rfl, by show 3 ≤ sizeLine; decide, fun a0 n0 => ⟨by show 1 ≤ sizeLine; decide, fun a1 n1 => ⟨by show 3 ≤ sizeLine; decide, fun a2 n2 => ⟨_, rfl, by show 3 ≤ sizeLine; decide, fun a3 n3 => ⟨by show 3 ≤ sizeLine; decide, fun a4 n4 => ⟨by show 3 ≤ sizeLine; decide, fun a5 n5 => ⟨_, rfl, by show 0 ≤ sizeLine; decide, fun a6 n6 => ⟨by show 3 ≤ sizeLine; decide, fun a7 n7 => ⟨by show 4 ≤ sizeLine; decide, fun a8 n8 => ?_⟩⟩⟩⟩⟩⟩⟩⟩⟩
      have S0 : Same H H := Same.refl _
      have q0 : H a0 = none := S0.free n0
      have S1 : Same H (upd H a0 (.tup [.str t, .int 0, .int 1])) := S0.trans (same_new n0)
      have q1 : H a1 = none := S1.free n1
      have S2 : Same H (upd (upd H a0 (.tup [.str t, .int 0, .int 1])) a1 (.lst [.ref a0])) := S1.trans (same_new n1)
      have q2 : H a2 = none := S2.free n2
      have S3 : Same H (upd (upd (upd H a0 (.tup [.str t, .int 0, .int 1])) a1 (.lst [.ref a0])) a2 (.tup [.str "last", .str "", .ref a1])) := S2.trans (same_new n2)
      have q3 : H a3 = none := S3.free n3
      have S4 : Same H (upd (upd (upd (upd H a0 (.tup [.str t, .int 0, .int 1])) a1 (.lst [.ref a0])) a2 (.tup [.str "last", .str "", .ref a1])) a3 (.tup [.str t, .int 0, .int 1])) := S3.trans (same_new n3)
      have q4 : H a4 = none := S4.free n4
      have S5 : Same H (upd (upd (upd (upd (upd H a0 (.tup [.str t, .int 0, .int 1])) a1 (.lst [.ref a0])) a2 (.tup [.str "last", .str "", .ref a1])) a3 (.tup [.str t, .int 0, .int 1])) a4 (.tup [.str "last", .str "", .ref a3])) := S4.trans (same_new n4)
      have q5 : H a5 = none := S5.free n5
      have S6 : Same H (upd (upd (upd (upd (upd (upd H a0 (.tup [.str t, .int 0, .int 1])) a1 (.lst [.ref a0])) a2 (.tup [.str "last", .str "", .ref a1])) a3 (.tup [.str t, .int 0, .int 1])) a4 (.tup [.str "last", .str "", .ref a3])) a5 (.tup [.str "last", .str "", .int 0])) := S5.trans (same_new n5)
      have q6 : H a6 = none := S6.free n6
      have S7 : Same H (upd (upd (upd (upd (upd (upd (upd H a0 (.tup [.str t, .int 0, .int 1])) a1 (.lst [.ref a0])) a2 (.tup [.str "last", .str "", .ref a1])) a3 (.tup [.str t, .int 0, .int 1])) a4 (.tup [.str "last", .str "", .ref a3])) a5 (.tup [.str "last", .str "", .int 0])) a6 (.tup [])) := S6.trans (same_new n6)
      have q7 : H a7 = none := S7.free n7
      have S8 : Same H (upd (upd (upd (upd (upd (upd (upd (upd H a0 (.tup [.str t, .int 0, .int 1])) a1 (.lst [.ref a0])) a2 (.tup [.str "last", .str "", .ref a1])) a3 (.tup [.str t, .int 0, .int 1])) a4 (.tup [.str "last", .str "", .ref a3])) a5 (.tup [.str "last", .str "", .int 0])) a6 (.tup [])) a7 (.tup [.str "fine", .str t, .ref a6])) := S7.trans (same_new n7)
      have q8 : H a8 = none := S8.free n8
      have S9 : Same H (upd (upd (upd (upd (upd (upd (upd (upd (upd H a0 (.tup [.str t, .int 0, .int 1])) a1 (.lst [.ref a0])) a2 (.tup [.str "last", .str "", .ref a1])) a3 (.tup [.str t, .int 0, .int 1])) a4 (.tup [.str "last", .str "", .ref a3])) a5 (.tup [.str "last", .str "", .int 0])) a6 (.tup [])) a7 (.tup [.str "fine", .str t, .ref a6])) a8 (.lst [.ref a2, .ref a4, .ref a5, .ref a7])) := S8.trans (same_new n8)
      have R9 : Same (upd (upd (upd (upd (upd (upd (upd (upd (upd H a0 (.tup [.str t, .int 0, .int 1])) a1 (.lst [.ref a0])) a2 (.tup [.str "last", .str "", .ref a1])) a3 (.tup [.str t, .int 0, .int 1])) a4 (.tup [.str "last", .str "", .ref a3])) a5 (.tup [.str "last", .str "", .int 0])) a6 (.tup [])) a7 (.tup [.str "fine", .str t, .ref a6])) a8 (.lst [.ref a2, .ref a4, .ref a5, .ref a7])) (upd (upd (upd (upd (upd (upd (upd (upd (upd H a0 (.tup [.str t, .int 0, .int 1])) a1 (.lst [.ref a0])) a2 (.tup [.str "last", .str "", .ref a1])) a3 (.tup [.str t, .int 0, .int 1])) a4 (.tup [.str "last", .str "", .ref a3])) a5 (.tup [.str "last", .str "", .int 0])) a6 (.tup [])) a7 (.tup [.str "fine", .str t, .ref a6])) a8 (.lst [.ref a2, .ref a4, .ref a5, .ref a7])) := Same.refl _
      have e8 : (upd (upd (upd (upd (upd (upd (upd (upd (upd H a0 (.tup [.str t, .int 0, .int 1])) a1 (.lst [.ref a0])) a2 (.tup [.str "last", .str "", .ref a1])) a3 (.tup [.str t, .int 0, .int 1])) a4 (.tup [.str "last", .str "", .ref a3])) a5 (.tup [.str "last", .str "", .int 0])) a6 (.tup [])) a7 (.tup [.str "fine", .str t, .ref a6])) a8 (.lst [.ref a2, .ref a4, .ref a5, .ref a7])) a8 = some (.lst [.ref a2, .ref a4, .ref a5, .ref a7]) := R9 _ _ upd_same
      have R8 : Same (upd (upd (upd (upd (upd (upd (upd (upd H a0 (.tup [.str t, .int 0, .int 1])) a1 (.lst [.ref a0])) a2 (.tup [.str "last", .str "", .ref a1])) a3 (.tup [.str t, .int 0, .int 1])) a4 (.tup [.str "last", .str "", .ref a3])) a5 (.tup [.str "last", .str "", .int 0])) a6 (.tup [])) a7 (.tup [.str "fine", .str t, .ref a6])) (upd (upd (upd (upd (upd (upd (upd (upd (upd H a0 (.tup [.str t, .int 0, .int 1])) a1 (.lst [.ref a0])) a2 (.tup [.str "last", .str "", .ref a1])) a3 (.tup [.str t, .int 0, .int 1])) a4 (.tup [.str "last", .str "", .ref a3])) a5 (.tup [.str "last", .str "", .int 0])) a6 (.tup [])) a7 (.tup [.str "fine", .str t, .ref a6])) a8 (.lst [.ref a2, .ref a4, .ref a5, .ref a7])) := (same_new n8).trans R9
      have e7 : (upd (upd (upd (upd (upd (upd (upd (upd (upd H a0 (.tup [.str t, .int 0, .int 1])) a1 (.lst [.ref a0])) a2 (.tup [.str "last", .str "", .ref a1])) a3 (.tup [.str t, .int 0, .int 1])) a4 (.tup [.str "last", .str "", .ref a3])) a5 (.tup [.str "last", .str "", .int 0])) a6 (.tup [])) a7 (.tup [.str "fine", .str t, .ref a6])) a8 (.lst [.ref a2, .ref a4, .ref a5, .ref a7])) a7 = some (.tup [.str "fine", .str t, .ref a6]) := R8 _ _ upd_same
      have R7 : Same (upd (upd (upd (upd (upd (upd (upd H a0 (.tup [.str t, .int 0, .int 1])) a1 (.lst [.ref a0])) a2 (.tup [.str "last", .str "", .ref a1])) a3 (.tup [.str t, .int 0, .int 1])) a4 (.tup [.str "last", .str "", .ref a3])) a5 (.tup [.str "last", .str "", .int 0])) a6 (.tup [])) (upd (upd (upd (upd (upd (upd (upd (upd (upd H a0 (.tup [.str t, .int 0, .int 1])) a1 (.lst [.ref a0])) a2 (.tup [.str "last", .str "", .ref a1])) a3 (.tup [.str t, .int 0, .int 1])) a4 (.tup [.str "last", .str "", .ref a3])) a5 (.tup [.str "last", .str "", .int 0])) a6 (.tup [])) a7 (.tup [.str "fine", .str t, .ref a6])) a8 (.lst [.ref a2, .ref a4, .ref a5, .ref a7])) := (same_new n7).trans R8
      have e6 : (upd (upd (upd (upd (upd (upd (upd (upd (upd H a0 (.tup [.str t, .int 0, .int 1])) a1 (.lst [.ref a0])) a2 (.tup [.str "last", .str "", .ref a1])) a3 (.tup [.str t, .int 0, .int 1])) a4 (.tup [.str "last", .str "", .ref a3])) a5 (.tup [.str "last", .str "", .int 0])) a6 (.tup [])) a7 (.tup [.str "fine", .str t, .ref a6])) a8 (.lst [.ref a2, .ref a4, .ref a5, .ref a7])) a6 = some (.tup []) := R7 _ _ upd_same
      have R6 : Same (upd (upd (upd (upd (upd (upd H a0 (.tup [.str t, .int 0, .int 1])) a1 (.lst [.ref a0])) a2 (.tup [.str "last", .str "", .ref a1])) a3 (.tup [.str t, .int 0, .int 1])) a4 (.tup [.str "last", .str "", .ref a3])) a5 (.tup [.str "last", .str "", .int 0])) (upd (upd (upd (upd (upd (upd (upd (upd (upd H a0 (.tup [.str t, .int 0, .int 1])) a1 (.lst [.ref a0])) a2 (.tup [.str "last", .str "", .ref a1])) a3 (.tup [.str t, .int 0, .int 1])) a4 (.tup [.str "last", .str "", .ref a3])) a5 (.tup [.str "last", .str "", .int 0])) a6 (.tup [])) a7 (.tup [.str "fine", .str t, .ref a6])) a8 (.lst [.ref a2, .ref a4, .ref a5, .ref a7])) := (same_new n6).trans R7
      have e5 : (upd (upd (upd (upd (upd (upd (upd (upd (upd H a0 (.tup [.str t, .int 0, .int 1])) a1 (.lst [.ref a0])) a2 (.tup [.str "last", .str "", .ref a1])) a3 (.tup [.str t, .int 0, .int 1])) a4 (.tup [.str "last", .str "", .ref a3])) a5 (.tup [.str "last", .str "", .int 0])) a6 (.tup [])) a7 (.tup [.str "fine", .str t, .ref a6])) a8 (.lst [.ref a2, .ref a4, .ref a5, .ref a7])) a5 = some (.tup [.str "last", .str "", .int 0]) := R6 _ _ upd_same
      have R5 : Same (upd (upd (upd (upd (upd H a0 (.tup [.str t, .int 0, .int 1])) a1 (.lst [.ref a0])) a2 (.tup [.str "last", .str "", .ref a1])) a3 (.tup [.str t, .int 0, .int 1])) a4 (.tup [.str "last", .str "", .ref a3])) (upd (upd (upd (upd (upd (upd (upd (upd (upd H a0 (.tup [.str t, .int 0, .int 1])) a1 (.lst [.ref a0])) a2 (.tup [.str "last", .str "", .ref a1])) a3 (.tup [.str t, .int 0, .int 1])) a4 (.tup [.str "last", .str "", .ref a3])) a5 (.tup [.str "last", .str "", .int 0])) a6 (.tup [])) a7 (.tup [.str "fine", .str t, .ref a6])) a8 (.lst [.ref a2, .ref a4, .ref a5, .ref a7])) := (same_new n5).trans R6
      have e4 : (upd (upd (upd (upd (upd (upd (upd (upd (upd H a0 (.tup [.str t, .int 0, .int 1])) a1 (.lst [.ref a0])) a2 (.tup [.str "last", .str "", .ref a1])) a3 (.tup [.str t, .int 0, .int 1])) a4 (.tup [.str "last", .str "", .ref a3])) a5 (.tup [.str "last", .str "", .int 0])) a6 (.tup [])) a7 (.tup [.str "fine", .str t, .ref a6])) a8 (.lst [.ref a2, .ref a4, .ref a5, .ref a7])) a4 = some (.tup [.str "last", .str "", .ref a3]) := R5 _ _ upd_same
      have R4 : Same (upd (upd (upd (upd H a0 (.tup [.str t, .int 0, .int 1])) a1 (.lst [.ref a0])) a2 (.tup [.str "last", .str "", .ref a1])) a3 (.tup [.str t, .int 0, .int 1])) (upd (upd (upd (upd (upd (upd (upd (upd (upd H a0 (.tup [.str t, .int 0, .int 1])) a1 (.lst [.ref a0])) a2 (.tup [.str "last", .str "", .ref a1])) a3 (.tup [.str t, .int 0, .int 1])) a4 (.tup [.str "last", .str "", .ref a3])) a5 (.tup [.str "last", .str "", .int 0])) a6 (.tup [])) a7 (.tup [.str "fine", .str t, .ref a6])) a8 (.lst [.ref a2, .ref a4, .ref a5, .ref a7])) := (same_new n4).trans R5
      have e3 : (upd (upd (upd (upd (upd (upd (upd (upd (upd H a0 (.tup [.str t, .int 0, .int 1])) a1 (.lst [.ref a0])) a2 (.tup [.str "last", .str "", .ref a1])) a3 (.tup [.str t, .int 0, .int 1])) a4 (.tup [.str "last", .str "", .ref a3])) a5 (.tup [.str "last", .str "", .int 0])) a6 (.tup [])) a7 (.tup [.str "fine", .str t, .ref a6])) a8 (.lst [.ref a2, .ref a4, .ref a5, .ref a7])) a3 = some (.tup [.str t, .int 0, .int 1]) := R4 _ _ upd_same
      have R3 : Same (upd (upd (upd H a0 (.tup [.str t, .int 0, .int 1])) a1 (.lst [.ref a0])) a2 (.tup [.str "last", .str "", .ref a1])) (upd (upd (upd (upd (upd (upd (upd (upd (upd H a0 (.tup [.str t, .int 0, .int 1])) a1 (.lst [.ref a0])) a2 (.tup [.str "last", .str "", .ref a1])) a3 (.tup [.str t, .int 0, .int 1])) a4 (.tup [.str "last", .str "", .ref a3])) a5 (.tup [.str "last", .str "", .int 0])) a6 (.tup [])) a7 (.tup [.str "fine", .str t, .ref a6])) a8 (.lst [.ref a2, .ref a4, .ref a5, .ref a7])) := (same_new n3).trans R4
      have e2 : (upd (upd (upd (upd (upd (upd (upd (upd (upd H a0 (.tup [.str t, .int 0, .int 1])) a1 (.lst [.ref a0])) a2 (.tup [.str "last", .str "", .ref a1])) a3 (.tup [.str t, .int 0, .int 1])) a4 (.tup [.str "last", .str "", .ref a3])) a5 (.tup [.str "last", .str "", .int 0])) a6 (.tup [])) a7 (.tup [.str "fine", .str t, .ref a6])) a8 (.lst [.ref a2, .ref a4, .ref a5, .ref a7])) a2 = some (.tup [.str "last", .str "", .ref a1]) := R3 _ _ upd_same
      have R2 : Same (upd (upd H a0 (.tup [.str t, .int 0, .int 1])) a1 (.lst [.ref a0])) (upd (upd (upd (upd (upd (upd (upd (upd (upd H a0 (.tup [.str t, .int 0, .int 1])) a1 (.lst [.ref a0])) a2 (.tup [.str "last", .str "", .ref a1])) a3 (.tup [.str t, .int 0, .int 1])) a4 (.tup [.str "last", .str "", .ref a3])) a5 (.tup [.str "last", .str "", .int 0])) a6 (.tup [])) a7 (.tup [.str "fine", .str t, .ref a6])) a8 (.lst [.ref a2, .ref a4, .ref a5, .ref a7])) := (same_new n2).trans R3
      have e1 : (upd (upd (upd (upd (upd (upd (upd (upd (upd H a0 (.tup [.str t, .int 0, .int 1])) a1 (.lst [.ref a0])) a2 (.tup [.str "last", .str "", .ref a1])) a3 (.tup [.str t, .int 0, .int 1])) a4 (.tup [.str "last", .str "", .ref a3])) a5 (.tup [.str "last", .str "", .int 0])) a6 (.tup [])) a7 (.tup [.str "fine", .str t, .ref a6])) a8 (.lst [.ref a2, .ref a4, .ref a5, .ref a7])) a1 = some (.lst [.ref a0]) := R2 _ _ upd_same
      have R1 : Same (upd H a0 (.tup [.str t, .int 0, .int 1])) (upd (upd (upd (upd (upd (upd (upd (upd (upd H a0 (.tup [.str t, .int 0, .int 1])) a1 (.lst [.ref a0])) a2 (.tup [.str "last", .str "", .ref a1])) a3 (.tup [.str t, .int 0, .int 1])) a4 (.tup [.str "last", .str "", .ref a3])) a5 (.tup [.str "last", .str "", .int 0])) a6 (.tup [])) a7 (.tup [.str "fine", .str t, .ref a6])) a8 (.lst [.ref a2, .ref a4, .ref a5, .ref a7])) := (same_new n1).trans R2
      have e0 : (upd (upd (upd (upd (upd (upd (upd (upd (upd H a0 (.tup [.str t, .int 0, .int 1])) a1 (.lst [.ref a0])) a2 (.tup [.str "last", .str "", .ref a1])) a3 (.tup [.str t, .int 0, .int 1])) a4 (.tup [.str "last", .str "", .ref a3])) a5 (.tup [.str "last", .str "", .int 0])) a6 (.tup [])) a7 (.tup [.str "fine", .str t, .ref a6])) a8 (.lst [.ref a2, .ref a4, .ref a5, .ref a7])) a0 = some (.tup [.str t, .int 0, .int 1]) := R1 _ _ upd_same
      clear R1 R2 R3 R4 R5 R6 R7 R8 R9
      generalize (upd (upd (upd (upd (upd (upd (upd (upd (upd H a0 (.tup [.str t, .int 0, .int 1])) a1 (.lst [.ref a0])) a2 (.tup [.str "last", .str "", .ref a1])) a3 (.tup [.str t, .int 0, .int 1])) a4 (.tup [.str "last", .str "", .ref a3])) a5 (.tup [.str "last", .str "", .int 0])) a6 (.tup [])) a7 (.tup [.str "fine", .str t, .ref a6])) a8 (.lst [.ref a2, .ref a4, .ref a5, .ref a7])) = H1 at S9 e0 e1 e2 e3 e4 e5 e6 e7 e8 ⊢
      have D1 := D.same S9
      have cc : ∀ {a : Addr} {o : HO}, H a = none → H1 a = some o → (∀ ps, o ≠ .tbl ps) → True → rest d l [b0, fo, sd, sn] H1 a = some o := fun n e nt c => rest_at e (D.off n).1 (D.off n).2 (fun z => by obtain ⟨o, y⟩ := hL _ z; rw [(sb.free n)] at y; cases y) nt
      have new : ∀ x ∈ [V.ref a2, V.ref a4, V.ref a5, V.ref a7], Way (rest d l [b0, fo, sd, sn] H1) t x := by
        intro x hx
        simp only [List.mem_cons, List.not_mem_nil, or_false] at hx
        rcases hx with rfl | rfl | rfl | rfl
        · exact .last (cc q2 e2 (fun _ z => by cases z) trivial) (is_lm1 (cc q1 e1 (fun _ z => by cases z) trivial) (cc q0 e0 (fun _ z => by cases z) trivial) smt (.int 0) (.int 1)) (bad_last2 t _)
        · exact .last (cc q4 e4 (fun _ z => by cases z) trivial) (is_t3 (cc q3 e3 (fun _ z => by cases z) trivial) smt (.int 0) (.int 1)) (bad_last3 t)
        · exact .last (cc q5 e5 (fun _ z => by cases z) trivial) (.int 0) (bad_last4 t)
        · exact .fine (cc q7 e7 (fun _ z => by cases z) trivial) (is_sum0 (cc q6 e6 (fun _ z => by cases z) trivial)) (fun _ _ => none_ok)
      have hwl1 := S9 _ _ hwl
      have hx1 : ∀ x ∈ xs, Way (rest d l [wl, b0, fo, sd, sn] H1) t x := fun x h => (hx x h).same (rest_but (But.of (d := d) (l := l) S9))
      refine ⟨wl, a8, xs, _, rfl, rfl, hwl1, e8, by rw [len]; show 15 + 4 ≤ sizeLine; decide, fun p np => q _ _ ⟨_, _, _, _, p, _, rfl, DB, (sb.trans S9).trans (same_new np), D1.new np, upd_same, (sb.trans S9).free np, by rw [List.length_append, len]; rfl, fun x h => ?_⟩⟩
      refine Way.same ?_ (rest_new (L := [b0, fo, sd, sn]) np)
      exact (List.mem_append.mp h).elim (fun h => (hx1 x h).same rest_drop) (new x)
    case w6 =>
      rintro D2 σ H ⟨td, fo, b0, sd, sn, s, t, Hb, ht, hL, ⟨y5, y7, y8, y9, wl, xs, rfl, DB, sb, D, hwl, nwl, len, hx⟩, q⟩
      have smt := isNameTI t ht
      have smt : t.cps.size ≤ 900 ∧ PyData.strOk t = true := ⟨smt.2.1, smt.2.2.1⟩
      refine ⟨_, rfl, _, rfl, _, rfl, by show 3 ≤ sizeLine; decide, fun a0 n0 => ⟨_, rfl, by show 3 ≤ sizeLine; decide, fun a1 n1 => ⟨by show 2 ≤ sizeLine; decide, fun a2 n2 => ⟨by show 3 ≤ sizeLine; decide, fun a3 n3 => ⟨by show 3 ≤ sizeLine; decide, fun a4 n4 => ⟨by show 3 ≤ sizeLine; decide, fun a5 n5 => ⟨by show 3 ≤ sizeLine; decide, fun a6 n6 => ?_⟩⟩⟩⟩⟩⟩⟩
      have S0 : Same H H := Same.refl _
      have q0 : H a0 = none := S0.free n0
      have S1 : Same H (upd H a0 (.tup [.str "", .int 2, .int (-9)])) := S0.trans (same_new n0)
      have q1 : H a1 = none := S1.free n1
      have S2 : Same H (upd (upd H a0 (.tup [.str "", .int 2, .int (-9)])) a1 (.tup [.str t, .int 2, .int 9])) := S1.trans (same_new n1)
      have q2 : H a2 = none := S2.free n2
      have S3 : Same H (upd (upd (upd H a0 (.tup [.str "", .int 2, .int (-9)])) a1 (.tup [.str t, .int 2, .int 9])) a2 (.tup [.ref a0, .ref a1])) := S2.trans (same_new n2)
      have q3 : H a3 = none := S3.free n3
      have S4 : Same H (upd (upd (upd (upd H a0 (.tup [.str "", .int 2, .int (-9)])) a1 (.tup [.str t, .int 2, .int 9])) a2 (.tup [.ref a0, .ref a1])) a3 (.tup [.str "fine", .str t, .ref a2])) := S3.trans (same_new n3)
      have q4 : H a4 = none := S4.free n4
      have S5 : Same H (upd (upd (upd (upd (upd H a0 (.tup [.str "", .int 2, .int (-9)])) a1 (.tup [.str t, .int 2, .int 9])) a2 (.tup [.ref a0, .ref a1])) a3 (.tup [.str "fine", .str t, .ref a2])) a4 (.tup [.str "kinds", .str "t", .int 0])) := S4.trans (same_new n4)
      have q5 : H a5 = none := S5.free n5
      have S6 : Same H (upd (upd (upd (upd (upd (upd H a0 (.tup [.str "", .int 2, .int (-9)])) a1 (.tup [.str t, .int 2, .int 9])) a2 (.tup [.ref a0, .ref a1])) a3 (.tup [.str "fine", .str t, .ref a2])) a4 (.tup [.str "kinds", .str "t", .int 0])) a5 (.tup [.str "kinds", .str "", .int 0])) := S5.trans (same_new n5)
      have q6 : H a6 = none := S6.free n6
      have S7 : Same H (upd (upd (upd (upd (upd (upd (upd H a0 (.tup [.str "", .int 2, .int (-9)])) a1 (.tup [.str t, .int 2, .int 9])) a2 (.tup [.ref a0, .ref a1])) a3 (.tup [.str "fine", .str t, .ref a2])) a4 (.tup [.str "kinds", .str "t", .int 0])) a5 (.tup [.str "kinds", .str "", .int 0])) a6 (.lst [.ref a3, .ref a4, .ref a5])) := S6.trans (same_new n6)
      have R7 : Same (upd (upd (upd (upd (upd (upd (upd H a0 (.tup [.str "", .int 2, .int (-9)])) a1 (.tup [.str t, .int 2, .int 9])) a2 (.tup [.ref a0, .ref a1])) a3 (.tup [.str "fine", .str t, .ref a2])) a4 (.tup [.str "kinds", .str "t", .int 0])) a5 (.tup [.str "kinds", .str "", .int 0])) a6 (.lst [.ref a3, .ref a4, .ref a5])) (upd (upd (upd (upd (upd (upd (upd H a0 (.tup [.str "", .int 2, .int (-9)])) a1 (.tup [.str t, .int 2, .int 9])) a2 (.tup [.ref a0, .ref a1])) a3 (.tup [.str "fine", .str t, .ref a2])) a4 (.tup [.str "kinds", .str "t", .int 0])) a5 (.tup [.str "kinds", .str "", .int 0])) a6 (.lst [.ref a3, .ref a4, .ref a5])) := Same.refl _
      have e6 : (upd (upd (upd (upd (upd (upd (upd H a0 (.tup [.str "", .int 2, .int (-9)])) a1 (.tup [.str t, .int 2, .int 9])) a2 (.tup [.ref a0, .ref a1])) a3 (.tup [.str "fine", .str t, .ref a2])) a4 (.tup [.str "kinds", .str "t", .int 0])) a5 (.tup [.str "kinds", .str "", .int 0])) a6 (.lst [.ref a3, .ref a4, .ref a5])) a6 = some (.lst [.ref a3, .ref a4, .ref a5]) := R7 _ _ upd_same
      have R6 : Same (upd (upd (upd (upd (upd (upd H a0 (.tup [.str "", .int 2, .int (-9)])) a1 (.tup [.str t, .int 2, .int 9])) a2 (.tup [.ref a0, .ref a1])) a3 (.tup [.str "fine", .str t, .ref a2])) a4 (.tup [.str "kinds", .str "t", .int 0])) a5 (.tup [.str "kinds", .str "", .int 0])) (upd (upd (upd (upd (upd (upd (upd H a0 (.tup [.str "", .int 2, .int (-9)])) a1 (.tup [.str t, .int 2, .int 9])) a2 (.tup [.ref a0, .ref a1])) a3 (.tup [.str "fine", .str t, .ref a2])) a4 (.tup [.str "kinds", .str "t", .int 0])) a5 (.tup [.str "kinds", .str "", .int 0])) a6 (.lst [.ref a3, .ref a4, .ref a5])) := (same_new n6).trans R7
      have e5 : (upd (upd (upd (upd (upd (upd (upd H a0 (.tup [.str "", .int 2, .int (-9)])) a1 (.tup [.str t, .int 2, .int 9])) a2 (.tup [.ref a0, .ref a1])) a3 (.tup [.str "fine", .str t, .ref a2])) a4 (.tup [.str "kinds", .str "t", .int 0])) a5 (.tup [.str "kinds", .str "", .int 0])) a6 (.lst [.ref a3, .ref a4, .ref a5])) a5 = some (.tup [.str "kinds", .str "", .int 0]) := R6 _ _ upd_same
      have R5 : Same (upd (upd (upd (upd (upd H a0 (.tup [.str "", .int 2, .int (-9)])) a1 (.tup [.str t, .int 2, .int 9])) a2 (.tup [.ref a0, .ref a1])) a3 (.tup [.str "fine", .str t, .ref a2])) a4 (.tup [.str "kinds", .str "t", .int 0])) (upd (upd (upd (upd (upd (upd (upd H a0 (.tup [.str "", .int 2, .int (-9)])) a1 (.tup [.str t, .int 2, .int 9])) a2 (.tup [.ref a0, .ref a1])) a3 (.tup [.str "fine", .str t, .ref a2])) a4 (.tup [.str "kinds", .str "t", .int 0])) a5 (.tup [.str "kinds", .str "", .int 0])) a6 (.lst [.ref a3, .ref a4, .ref a5])) := (same_new n5).trans R6
      have e4 : (upd (upd (upd (upd (upd (upd (upd H a0 (.tup [.str "", .int 2, .int (-9)])) a1 (.tup [.str t, .int 2, .int 9])) a2 (.tup [.ref a0, .ref a1])) a3 (.tup [.str "fine", .str t, .ref a2])) a4 (.tup [.str "kinds", .str "t", .int 0])) a5 (.tup [.str "kinds", .str "", .int 0])) a6 (.lst [.ref a3, .ref a4, .ref a5])) a4 = some (.tup [.str "kinds", .str "t", .int 0]) := R5 _ _ upd_same
      have R4 : Same (upd (upd (upd (upd H a0 (.tup [.str "", .int 2, .int (-9)])) a1 (.tup [.str t, .int 2, .int 9])) a2 (.tup [.ref a0, .ref a1])) a3 (.tup [.str "fine", .str t, .ref a2])) (upd (upd (upd (upd (upd (upd (upd H a0 (.tup [.str "", .int 2, .int (-9)])) a1 (.tup [.str t, .int 2, .int 9])) a2 (.tup [.ref a0, .ref a1])) a3 (.tup [.str "fine", .str t, .ref a2])) a4 (.tup [.str "kinds", .str "t", .int 0])) a5 (.tup [.str "kinds", .str "", .int 0])) a6 (.lst [.ref a3, .ref a4, .ref a5])) := (same_new n4).trans R5
      have e3 : (upd (upd (upd (upd (upd (upd (upd H a0 (.tup [.str "", .int 2, .int (-9)])) a1 (.tup [.str t, .int 2, .int 9])) a2 (.tup [.ref a0, .ref a1])) a3 (.tup [.str "fine", .str t, .ref a2])) a4 (.tup [.str "kinds", .str "t", .int 0])) a5 (.tup [.str "kinds", .str "", .int 0])) a6 (.lst [.ref a3, .ref a4, .ref a5])) a3 = some (.tup [.str "fine", .str t, .ref a2]) := R4 _ _ upd_same
      have R3 : Same (upd (upd (upd H a0 (.tup [.str "", .int 2, .int (-9)])) a1 (.tup [.str t, .int 2, .int 9])) a2 (.tup [.ref a0, .ref a1])) (upd (upd (upd (upd (upd (upd (upd H a0 (.tup [.str "", .int 2, .int (-9)])) a1 (.tup [.str t, .int 2, .int 9])) a2 (.tup [.ref a0, .ref a1])) a3 (.tup [.str "fine", .str t, .ref a2])) a4 (.tup [.str "kinds", .str "t", .int 0])) a5 (.tup [.str "kinds", .str "", .int 0])) a6 (.lst [.ref a3, .ref a4, .ref a5])) := (same_new n3).trans R4
      have e2 : (upd (upd (upd (upd (upd (upd (upd H a0 (.tup [.str "", .int 2, .int (-9)])) a1 (.tup [.str t, .int 2, .int 9])) a2 (.tup [.ref a0, .ref a1])) a3 (.tup [.str "fine", .str t, .ref a2])) a4 (.tup [.str "kinds", .str "t", .int 0])) a5 (.tup [.str "kinds", .str "", .int 0])) a6 (.lst [.ref a3, .ref a4, .ref a5])) a2 = some (.tup [.ref a0, .ref a1]) := R3 _ _ upd_same
      have R2 : Same (upd (upd H a0 (.tup [.str "", .int 2, .int (-9)])) a1 (.tup [.str t, .int 2, .int 9])) (upd (upd (upd (upd (upd (upd (upd H a0 (.tup [.str "", .int 2, .int (-9)])) a1 (.tup [.str t, .int 2, .int 9])) a2 (.tup [.ref a0, .ref a1])) a3 (.tup [.str "fine", .str t, .ref a2])) a4 (.tup [.str "kinds", .str "t", .int 0])) a5 (.tup [.str "kinds", .str "", .int 0])) a6 (.lst [.ref a3, .ref a4, .ref a5])) := (same_new n2).trans R3
      have e1 : (upd (upd (upd (upd (upd (upd (upd H a0 (.tup [.str "", .int 2, .int (-9)])) a1 (.tup [.str t, .int 2, .int 9])) a2 (.tup [.ref a0, .ref a1])) a3 (.tup [.str "fine", .str t, .ref a2])) a4 (.tup [.str "kinds", .str "t", .int 0])) a5 (.tup [.str "kinds", .str "", .int 0])) a6 (.lst [.ref a3, .ref a4, .ref a5])) a1 = some (.tup [.str t, .int 2, .int 9]) := R2 _ _ upd_same
      have R1 : Same (upd H a0 (.tup [.str "", .int 2, .int (-9)])) (upd (upd (upd (upd (upd (upd (upd H a0 (.tup [.str "", .int 2, .int (-9)])) a1 (.tup [.str t, .int 2, .int 9])) a2 (.tup [.ref a0, .ref a1])) a3 (.tup [.str "fine", .str t, .ref a2])) a4 (.tup [.str "kinds", .str "t", .int 0])) a5 (.tup [.str "kinds", .str "", .int 0])) a6 (.lst [.ref a3, .ref a4, .ref a5])) := (same_new n1).trans R2
      have e0 : (upd (upd (upd (upd (upd (upd (upd H a0 (.tup [.str "", .int 2, .int (-9)])) a1 (.tup [.str t, .int 2, .int 9])) a2 (.tup [.ref a0, .ref a1])) a3 (.tup [.str "fine", .str t, .ref a2])) a4 (.tup [.str "kinds", .str "t", .int 0])) a5 (.tup [.str "kinds", .str "", .int 0])) a6 (.lst [.ref a3, .ref a4, .ref a5])) a0 = some (.tup [.str "", .int 2, .int (-9)]) := R1 _ _ upd_same
      clear R1 R2 R3 R4 R5 R6 R7
      generalize (upd (upd (upd (upd (upd (upd (upd H a0 (.tup [.str "", .int 2, .int (-9)])) a1 (.tup [.str t, .int 2, .int 9])) a2 (.tup [.ref a0, .ref a1])) a3 (.tup [.str "fine", .str t, .ref a2])) a4 (.tup [.str "kinds", .str "t", .int 0])) a5 (.tup [.str "kinds", .str "", .int 0])) a6 (.lst [.ref a3, .ref a4, .ref a5])) = H1 at S7 e0 e1 e2 e3 e4 e5 e6 ⊢
      have D1 := D.same S7
      have cc : ∀ {a : Addr} {o : HO}, H a = none → H1 a = some o → (∀ ps, o ≠ .tbl ps) → True → rest d l [b0, fo, sd, sn] H1 a = some o := fun n e nt c => rest_at e (D.off n).1 (D.off n).2 (fun z => by obtain ⟨o, y⟩ := hL _ z; rw [(sb.free n)] at y; cases y) nt
      have new : ∀ x ∈ [V.ref a3, V.ref a4, V.ref a5], Way (rest d l [b0, fo, sd, sn] H1) t x := by
        intro x hx
        simp only [List.mem_cons, List.not_mem_nil, or_false] at hx
        rcases hx with rfl | rfl | rfl
        · exact .fine (cc q3 e3 (fun _ z => by cases z) trivial) (is_sum2 (cc q2 e2 (fun _ z => by cases z) trivial) (cc q0 e0 (fun _ z => by cases z) trivial) (cc q1 e1 (fun _ z => by cases z) trivial) sme smt) (fine_two ht)
        · exact .kinds (cc q4 e4 (fun _ z => by cases z) trivial) (.inl rfl)
        · exact .kinds (cc q5 e5 (fun _ z => by cases z) trivial) (.inr rfl)
      have hwl1 := S7 _ _ hwl
      have hx1 : ∀ x ∈ xs, Way (rest d l [wl, b0, fo, sd, sn] H1) t x := fun x h => (hx x h).same (rest_but (But.of (d := d) (l := l) S7))
      refine ⟨wl, a6, xs, _, rfl, rfl, hwl1, e6, by rw [len]; show 19 + 3 ≤ sizeLine; decide, fun p np => q _ _ ⟨_, _, _, _, p, _, rfl, DB, (sb.trans S7).trans (same_new np), D1.new np, upd_same, (sb.trans S7).free np, by rw [List.length_append, len]; rfl, fun x h => ?_⟩⟩
      refine Way.same ?_ (rest_new (L := [b0, fo, sd, sn]) np)
      exact (List.mem_append.mp h).elim (fun h => (hx1 x h).same rest_drop) (new x)
    case w7 =>
      rintro D2 σ H ⟨td, fo, b0, sd, sn, s, t, Hb, ht, hL, ⟨y5, y7, y8, y9, wl, xs, rfl, DB, sb, D, hwl, nwl, len, hx⟩, q⟩
      have smt := isNameTI t ht
      have smt : t.cps.size ≤ 900 ∧ PyData.strOk t = true := ⟨smt.2.1, smt.2.2.1⟩
      refine ⟨_, rfl, .inl ⟨rfl, _, SqL.of hwl⟩, _, rfl, _, rfl, by show 3 ≤ sizeLine; decide, fun a0 n0 => ⟨by show 1 ≤ sizeLine; decide, fun a1 n1 => ⟨by show 3 ≤ sizeLine; decide, fun a2 n2 => ?_⟩⟩⟩
      have S0 : Same H H := Same.refl _
      have q0 : H a0 = none := S0.free n0
      have S1 : Same H (upd H a0 (.tup [.str t, .int 0, .bl true])) := S0.trans (same_new n0)
      have q1 : H a1 = none := S1.free n1
      have S2 : Same H (upd (upd H a0 (.tup [.str t, .int 0, .bl true])) a1 (.tup [.ref a0])) := S1.trans (same_new n1)
      have q2 : H a2 = none := S2.free n2
      have S3 : Same H (upd (upd (upd H a0 (.tup [.str t, .int 0, .bl true])) a1 (.tup [.ref a0])) a2 (.tup [.str "steps", .str t, .ref a1])) := S2.trans (same_new n2)
      have R3 : Same (upd (upd (upd H a0 (.tup [.str t, .int 0, .bl true])) a1 (.tup [.ref a0])) a2 (.tup [.str "steps", .str t, .ref a1])) (upd (upd (upd H a0 (.tup [.str t, .int 0, .bl true])) a1 (.tup [.ref a0])) a2 (.tup [.str "steps", .str t, .ref a1])) := Same.refl _
      have e2 : (upd (upd (upd H a0 (.tup [.str t, .int 0, .bl true])) a1 (.tup [.ref a0])) a2 (.tup [.str "steps", .str t, .ref a1])) a2 = some (.tup [.str "steps", .str t, .ref a1]) := R3 _ _ upd_same
      have R2 : Same (upd (upd H a0 (.tup [.str t, .int 0, .bl true])) a1 (.tup [.ref a0])) (upd (upd (upd H a0 (.tup [.str t, .int 0, .bl true])) a1 (.tup [.ref a0])) a2 (.tup [.str "steps", .str t, .ref a1])) := (same_new n2).trans R3
      have e1 : (upd (upd (upd H a0 (.tup [.str t, .int 0, .bl true])) a1 (.tup [.ref a0])) a2 (.tup [.str "steps", .str t, .ref a1])) a1 = some (.tup [.ref a0]) := R2 _ _ upd_same
      have R1 : Same (upd H a0 (.tup [.str t, .int 0, .bl true])) (upd (upd (upd H a0 (.tup [.str t, .int 0, .bl true])) a1 (.tup [.ref a0])) a2 (.tup [.str "steps", .str t, .ref a1])) := (same_new n1).trans R2
      have e0 : (upd (upd (upd H a0 (.tup [.str t, .int 0, .bl true])) a1 (.tup [.ref a0])) a2 (.tup [.str "steps", .str t, .ref a1])) a0 = some (.tup [.str t, .int 0, .bl true]) := R1 _ _ upd_same
      clear R1 R2 R3
      generalize (upd (upd (upd H a0 (.tup [.str t, .int 0, .bl true])) a1 (.tup [.ref a0])) a2 (.tup [.str "steps", .str t, .ref a1])) = H1 at S3 e0 e1 e2 ⊢
      have D1 := D.same S3
      have cc : ∀ {a : Addr} {o : HO}, H a = none → H1 a = some o → (∀ ps, o ≠ .tbl ps) → a ≠ wl → rest d l [wl, b0, fo, sd, sn] H1 a = some o := fun n e nt c => rest_at e (D.off n).1 (D.off n).2 (fun z => (List.mem_cons.mp z).elim c fun z => by obtain ⟨o, y⟩ := hL _ z; rw [(sb.free n)] at y; cases y) nt
      have new : ∀ x ∈ [V.ref a2], Way (rest d l [wl, b0, fo, sd, sn] H1) t x := by
        intro x hx
        simp only [List.mem_cons, List.not_mem_nil, or_false] at hx
        rcases hx with rfl
        · exact .steps (cc q2 e2 (fun _ z => by cases z) (fun z => by have y := q2; rw [z, hwl] at y; cases y)) (is_tm1 (cc q1 e1 (fun _ z => by cases z) (fun z => by have y := q1; rw [z, hwl] at y; cases y)) (cc q0 e0 (fun _ z => by cases z) (fun z => by have y := q0; rw [z, hwl] at y; cases y)) smt (.int 0) (.bl true)) (bad_one t rfl)
      have hwl1 := S3 _ _ hwl
      have hx1 : ∀ x ∈ xs, Way (rest d l [wl, b0, fo, sd, sn] H1) t x := fun x h => (hx x h).same (rest_but (But.of (d := d) (l := l) S3))
      refine ⟨wl, xs, .ref a2, rfl, rfl, hwl1, small1000 (by omega), q _ _ ⟨_, _, _, _, wl, xs ++ [.ref a2], rfl, DB, same_own nwl (sb.trans S3), D1.own DB nwl, upd_same, nwl, by rw [List.length_append, len]; rfl, fun x h => ?_⟩⟩
      exact ((List.mem_append.mp h).elim (hx1 x) (new x)).same (rest_upd (List.mem_cons_self ..))
    case wret =>
      rintro D2 σ H ⟨y0, y1, y2, y3, fo, y5, y6, part, y8, y9, due, rfl, hp, q⟩
      refine ⟨_, rfl, fun dd ndd => ⟨by show 1 ≤ sizeLine; decide, fun l1 nl1 => ⟨by show 1 ≤ sizeLine; decide, fun l2 nl2 => ⟨by show 1 ≤ sizeLine; decide, fun l3 nl3 => ⟨by show 1 ≤ sizeLine; decide, fun l4 nl4 => ?_⟩⟩⟩⟩⟩
      have s1 : Same (upd H dd (.dK [])) (upd (upd (upd (upd (upd H dd (.dK [])) l1 (.lst [.str "start"])) l2 (.lst [.str "steps"])) l3 (.lst [.str "steps"])) l4 (.lst [.str "last"])) := ((same_new nl1).trans (same_new nl2)).trans ((same_new nl3).trans (same_new nl4))
      have e1 : (upd (upd (upd (upd (upd H dd (.dK [])) l1 (.lst [.str "start"])) l2 (.lst [.str "steps"])) l3 (.lst [.str "steps"])) l4 (.lst [.str "last"])) l1 = some (.lst [.str "start"]) := ((same_new nl2).trans ((same_new nl3).trans (same_new nl4))) _ _ upd_same
      have e2 : (upd (upd (upd (upd (upd H dd (.dK [])) l1 (.lst [.str "start"])) l2 (.lst [.str "steps"])) l3 (.lst [.str "steps"])) l4 (.lst [.str "last"])) l2 = some (.lst [.str "steps"]) := ((same_new nl3).trans (same_new nl4)) _ _ upd_same
      have e3 : (upd (upd (upd (upd (upd H dd (.dK [])) l1 (.lst [.str "start"])) l2 (.lst [.str "steps"])) l3 (.lst [.str "steps"])) l4 (.lst [.str "last"])) l3 = some (.lst [.str "steps"]) := (same_new nl4) _ _ upd_same
      have e4 : (upd (upd (upd (upd (upd H dd (.dK [])) l1 (.lst [.str "start"])) l2 (.lst [.str "steps"])) l3 (.lst [.str "steps"])) l4 (.lst [.str "last"])) l4 = some (.lst [.str "last"]) := upd_same
      have e0 := s1 _ _ (upd_same (H := H) (a := dd) (o := .dK []))
      generalize upd (upd (upd (upd (upd H dd (.dK [])) l1 (.lst [.str "start"])) l2 (.lst [.str "steps"])) l3 (.lst [.str "steps"])) l4 (.lst [.str "last"]) = H1 at s1 e0 e1 e2 e3 e4 ⊢
      refine ⟨e0, [(.inr "start", .ref l1), (.inr "steps", .ref l2), (.inr "kinds", .ref l3), (.inr "last", .ref l4)], rfl, by show 4 ≤ 15; decide, ?_⟩
      have em : mergeK [] [((.inr "start" : Key), V.ref l1), (.inr "steps", .ref l2), (.inr "kinds", .ref l3), (.inr "last", .ref l4)] = [((.inr "start" : Key), V.ref l1), (.inr "steps", .ref l2), (.inr "kinds", .ref l3), (.inr "last", .ref l4)] := by kernel_rfl
      rw [em]
      have ne : ∀ {x : Addr} {ys : List V}, H1 x = some (.lst ys) → x ≠ dd := fun e z => by rw [z, e0] at e; cases e
      have sH : Same H (upd H1 dd (.dK [(.inr "start", .ref l1), (.inr "steps", .ref l2), (.inr "kinds", .ref l3), (.inr "last", .ref l4)])) := same_own ndd ((same_new ndd).trans s1)
      have e1 : (upd H1 dd (.dK [(.inr "start", .ref l1), (.inr "steps", .ref l2), (.inr "kinds", .ref l3), (.inr "last", .ref l4)])) l1 = some (.lst [.str "start"]) := by rw [upd_ne (ne e1)]; exact e1
      have e2 : (upd H1 dd (.dK [(.inr "start", .ref l1), (.inr "steps", .ref l2), (.inr "kinds", .ref l3), (.inr "last", .ref l4)])) l2 = some (.lst [.str "steps"]) := by rw [upd_ne (ne e2)]; exact e2
      have e3 : (upd H1 dd (.dK [(.inr "start", .ref l1), (.inr "steps", .ref l2), (.inr "kinds", .ref l3), (.inr "last", .ref l4)])) l3 = some (.lst [.str "steps"]) := by rw [upd_ne (ne e3)]; exact e3
      have e4 : (upd H1 dd (.dK [(.inr "start", .ref l1), (.inr "steps", .ref l2), (.inr "kinds", .ref l3), (.inr "last", .ref l4)])) l4 = some (.lst [.str "last"]) := by rw [upd_ne (ne e4)]; exact e4
      have ed : (upd H1 dd (.dK [(.inr "start", .ref l1), (.inr "steps", .ref l2), (.inr "kinds", .ref l3), (.inr "last", .ref l4)])) dd = some (.dK [(.inr "start", .ref l1), (.inr "steps", .ref l2), (.inr "kinds", .ref l3), (.inr "last", .ref l4)]) := upd_same
      generalize upd H1 dd (.dK [(.inr "start", .ref l1), (.inr "steps", .ref l2), (.inr "kinds", .ref l3), (.inr "last", .ref l4)]) = H2 at sH e1 e2 e3 e4 ed ⊢
      refine ⟨dd, rfl, .inl ⟨_, .inl ed⟩, _, rfl, by show 0 ≤ sizeLine; decide, fun l5 nl5 => ⟨_, DGet.k (k := .inr part) (same_new nl5 _ _ ed), by show 2 ≤ sizeLine; decide, fun T nT => ?_⟩⟩
      have s5 : Same H2 (upd (upd H2 l5 (.lst [])) T (.tup [.ref fo, ((valV [((.inr "start" : Key), V.ref l1), (.inr "steps", .ref l2), (.inr "kinds", .ref l3), (.inr "last", .ref l4)] (.inr part)).getD (.ref l5))])) := (same_new nl5).trans (same_new nT)
      have e5 : (upd (upd H2 l5 (.lst [])) T (.tup [.ref fo, ((valV [((.inr "start" : Key), V.ref l1), (.inr "steps", .ref l2), (.inr "kinds", .ref l3), (.inr "last", .ref l4)] (.inr part)).getD (.ref l5))])) l5 = some (.lst []) := same_new nT _ _ upd_same
      simp only [duePairs, List.mem_cons, List.not_mem_nil, or_false, Prod.mk.injEq] at hp
      rcases hp with ⟨rfl, rfl⟩ | ⟨rfl, rfl⟩ | ⟨rfl, rfl⟩ | ⟨rfl, rfl⟩ | ⟨rfl, rfl⟩ | ⟨rfl, rfl⟩
      · exact q T l1 _ (sH.trans s5) upd_same (s5 _ _ e1)
      · exact q T l2 _ (sH.trans s5) upd_same (s5 _ _ e2)
      · exact q T l3 _ (sH.trans s5) upd_same (s5 _ _ e3)
      · exact q T l4 _ (sH.trans s5) upd_same (s5 _ _ e4)
      · exact q T l5 _ (sH.trans s5) upd_same e5
      · exact q T l5 _ (sH.trans s5) upd_same e5
    -- the first kind and variable
    obtain ⟨kt0, sd0, st0, ls, htd1, v1, v2, v3, hsd, hst, hls⟩ := id htd.ex
    obtain ⟨n1d, n1l, htdH⟩ := cut_ne htd1
    obtain ⟨ks0, hks0, hkp0⟩ := id hsd
    obtain ⟨kt, hkt, hktp⟩ := id hst
    obtain ⟨n2d, n2l, hksH⟩ := cut_ne hks0
    obtain ⟨n3d, n3l, hktH⟩ := cut_ne hkt
    have nkn := ok.kn.n3
    have nnm := ok.nm.n3
    refine ⟨_, rfl, td, _, rfl, v2 ▸ DGet.k (k := Sum.inr "steps") htdH, st0, kt, m.steps.map (·.1), rfl, .inl hktH, hktp.keys, by omega, fun ys la perm srt nla => ?_⟩
    obtain rfl : ys = m.steps.map (·.1) := sorted_one perm srt ok.kn.ti.so ok.kn.ti.inT
    obtain ⟨mst, mstp, mla⟩ := m
    obtain ⟨t, i0, st', rfl⟩ : ∃ t i0 st', mst = (t, i0) :: st' := by
      cases mst with
      | nil => exact absurd (show 1 ≤ 0 from ok.nm.n1) (by decide)
      | cons p r => exact ⟨p.1, p.2, r, rfl⟩
    obtain ⟨s, sm0, stp', rfl⟩ : ∃ s sm0 stp', mstp = (s, sm0) :: stp' := by
      cases mstp with
      | nil => exact absurd (show 1 ≤ 0 from ok.kn.n1) (by decide)
      | cons p r => exact ⟨p.1, p.2, r, rfl⟩
    obtain ⟨ts0, sm', rfl⟩ : ∃ ts0 sm', sm0 = (t, ts0) :: sm' := by
      have e := (ok.ss _ (List.mem_cons_self ..)).1
      cases sm0 with
      | nil => cases e
      | cons p r =>
        obtain ⟨e1, _⟩ := List.cons.inj (show p.1 :: r.map (·.1) = t :: st'.map (·.1) from e)
        obtain ⟨a, b⟩ := p
        subst e1
        exact ⟨b, r, rfl⟩
    have s1 : Same H (upd H la (.lst ((((s, (t, ts0) :: sm') :: stp').map (·.1)).map V.str))) := same_new nla
    refine ⟨la, _, 0, V.str s, rfl, rfl, SqL.of upd_same, at_of (j := 0) rfl rfl, ?_⟩
    generalize upd H la (.lst ((((s, (t, ts0) :: sm') :: stp').map (·.1)).map V.str)) = H1 at s1 ⊢
    refine ⟨_, rfl, td, _, rfl, v1 ▸ DGet.k (k := Sum.inr "start") (s1 _ _ htdH), sd0, ks0, ((t, i0) :: st').map (·.1), rfl, .inl (s1 _ _ hksH), hkp0.keys, by show (((t, i0) :: st').map (·.1)).length < 64; exact Nat.lt_of_le_of_lt nnm (by decide), fun ys lb perm srt nlb => ?_⟩
    obtain rfl : ys = ((t, i0) :: st').map (·.1) := sorted_one perm srt ok.nm.ti.so ok.nm.ti.inT
    have s2 : Same H1 (upd H1 lb (.lst ((((t, i0) :: st').map (·.1)).map V.str))) := same_new nlb
    refine ⟨lb, _, 0, V.str t, rfl, rfl, SqL.of upd_same, at_of (j := 0) rfl rfl, _, _, rfl, ?_⟩
    generalize upd H1 lb (.lst ((((t, i0) :: st').map (·.1)).map V.str)) = H2 at s2 ⊢
    have u2 := s1.trans s2
    have hst_td : td ≠ st0 := fun z => by
      rw [z] at htdH
      rw [hktH] at htdH
      cases htdH
      have q := hktp.miss (x := "start") fun z => start_ti (ok.kn.ti.inT _ z)
      rw [q] at v1
      cases v1
    -- the copy
    refine fun fo nfo => ?_
    have s3 : Same H2 (upd H2 fo (.dK [])) := same_new nfo
    have eF : (upd H2 fo (.dK [])) fo = some (.dK []) := upd_same
    generalize upd H2 fo (.dK []) = H3 at s3 eF ⊢
    have u3 := u2.trans s3
    refine ⟨_, rfl, td, _, rfl, v1 ▸ DGet.k (k := Sum.inr "start") (u3 _ _ htdH), sd0, ks0, rfl, u3 _ _ hksH, fun H4 p0 as s4 np0 nas pas hp0 hpr => ⟨p0, as, ks0, rfl, SqL.of hp0, paired_kv hpr, fun sd nsd => ?_⟩⟩
    have nd0 : (ks0.map (·.1)).Nodup := by
      rw [hkp0.keys]
      exact List.pairwise_map.mpr (ok.nm.ti.nd.imp fun h z => h (Sum.inr.inj z))
    rw [mergeK_nodup (by rw [List.nil_append]; exact nd0), List.nil_append]
    have s5 : Same H4 (upd H4 sd (.dK ks0)) := same_new nsd
    have eS : (upd H4 sd (.dK ks0)) sd = some (.dK ks0) := upd_same
    generalize upd H4 sd (.dK ks0) = H5 at s5 eS ⊢
    have s35 : Same H3 H5 := (show Same H3 H4 from s4).trans s5
    have u5 := u3.trans s35
    refine fun sn nsn => ?_
    have s6 : Same H5 (upd H5 sn (.dK [])) := same_new nsn
    have eN : (upd H5 sn (.dK [])) sn = some (.dK []) := upd_same
    generalize upd H5 sn (.dK []) = H6 at s6 eN ⊢
    have u6 := u5.trans s6
    refine ⟨_, rfl, td, _, rfl, v3 ▸ DGet.k (k := Sum.inr "last") (u6 _ _ htdH), (s35.trans s6) _ _ eF, fok sd sn (.ref ls), rfl, by show 3 ≤ 15; decide, ?_⟩
    have em : mergeK [] (fok sd sn (.ref ls)) = fok sd sn (.ref ls) := by kernel_rfl
    rw [em]
    have nfH : H fo = none := u2.free nfo
    have nsH : H sd = none := (u3.trans s4).free nsd
    have nnH : H sn = none := u5.free nsn
    have d1 : fo ≠ sd := fun z => by rw [← z] at nsd; rw [s4 _ _ eF] at nsd; cases nsd
    have d2 : fo ≠ sn := fun z => by rw [← z] at nsn; rw [s35 _ _ eF] at nsn; cases nsn
    have d4 : sd ≠ sn := fun z => by rw [← z] at nsn; rw [eS] at nsn; cases nsn
    have u7 : Same H (upd H6 fo (.dK (fok sd sn (.ref ls)))) := same_own nfH u6
    have eF7 : (upd H6 fo (.dK (fok sd sn (.ref ls)))) fo = some (.dK (fok sd sn (.ref ls))) := upd_same
    have eS7 : (upd H6 fo (.dK (fok sd sn (.ref ls)))) sd = some (.dK ks0) := by rw [upd_ne d1.symm]; exact s6 _ _ eS
    have eN7 : (upd H6 fo (.dK (fok sd sn (.ref ls)))) sn = some (.dK []) := by rw [upd_ne d2.symm]; exact eN
    show tSeq _ _ _ _ (upd H6 fo (.dK (fok sd sn (.ref ls))))
    generalize upd H6 fo (.dK (fok sd sn (.ref ls))) = H7 at u7 eF7 eS7 eN7 ⊢
    clear s3 s4 s5 s6 s35 u3 u5 u6 eF eS eN em nfo nsd nsn nla nlb perm srt hpr hp0 nas pas np0
    have hktp' := hktp
    generalize hstp : (s, (t, ts0) :: sm') :: stp' = stps at ok hktp hst nkn htd
    have kln := hktp.len
    rw [List.length_map] at nkn
    have nstn : st0 ≠ sn := fun z => by rw [z] at hktH; rw [hktH] at nnH; cases nnH
    refine ⟨st0, .dK kt, u7 _ _ hktH, trivial, fun od => ⟨_, rfl, td, _, rfl, v2 ▸ DGet.k (k := Sum.inr "steps") (by rw [upd_ne (fun z => hst_td z)]; exact u7 _ _ htdH), st0, od, rfl, .inl ⟨kt, upd_same, for_it walk_keys (fun i σ H' => ∃ y5 kn, σ = [some (.ref d), some (.ref td), some (.str s), some (.str t), some (.ref fo), y5, none, none, none, none] ∧
        Same (hole sn (upd H7 st0 (.frz od (.dK kt)))) H' ∧ H' sn = some (.dK kn) ∧ KvP (fun v sm => ∃ b kb, v = .ref b ∧ H' b = some (.dK kb) ∧ KvP (SumR (cut d l H)) kb sm ∧ H7 b = none) kn (stps.take i) ∧ (kn.map (·.2)).Nodup)
      ⟨_, [], rfl, fun b o e => (hole_ne e).2, by rw [upd_ne nstn.symm]; exact eN7, .nil, List.nodup_nil⟩ (fun i σ H' _ ⟨_, _, _, S7, _⟩ => S7 _ _ (hole_at upd_same nstn)) ?_ ?_⟩⟩⟩
    · rintro i x σ H9 H8 hi ⟨y5, kn, rfl, S8, e8, hk8, nd8⟩ ⟨rfl, kk, v, hkk, rfl⟩
      obtain ⟨nm, sm, hsm, rfl, bt, rfl, ⟨kb, hbt, hkb⟩⟩ := hktp.at_ hkk
      have hsmm := List.mem_of_getElem? hsm
      obtain ⟨smn, _⟩ := ok.ss _ hsmm
      obtain ⟨_, _, hbtH⟩ := cut_ne hbt
      have hne : sm ≠ [] := fun z => by
        have n1 := ok.nm.n1
        rw [← smn, z] at n1
        exact absurd (show 1 ≤ 0 from n1) (by decide)
      have nbs : bt ≠ st0 := fun z => hst.ne_sum ⟨kb, hbt, hkb⟩ (steps_ne ok) z.symm
      have old : ∀ {b : Addr} {o : HO}, H b = some o → b ≠ st0 → H8 b = some o := fun {b o} e n => S8 _ _ (hole_at (by rw [upd_ne n]; exact u7 _ _ e) (fun z => by rw [z, nnH] at e; cases e))
      have nfs : fo ≠ st0 := fun z => by rw [z, hktH] at nfH; cases nfH
      have eF8 : H8 fo = some (.dK (fok sd sn (.ref ls))) := S8 _ _ (hole_at (by rw [upd_ne nfs]; exact eF7) d2)
      have ef8 : H8 st0 = some (.frz od (.dK kt)) := S8 _ _ (hole_at upd_same nstn)
      have ndt : (kt.map (·.1)).Nodup := by
        rw [hktp.keys]
        exact List.pairwise_map.mpr (ok.kn.ti.nd.imp fun h z => h (Sum.inr.inj z))
      have hv : valV kt (.inr nm) = some (.ref bt) := val_nodup ndt _ (List.mem_of_getElem? hkk)
      refine ⟨_, rfl, td, _, rfl, v2 ▸ DGet.k (k := Sum.inr "steps") (old htdH hst_td), _, rfl, st0, _, rfl, .inl ⟨kt, .inr nm, .inr ⟨od, ef8⟩, rfl, hv.symm⟩, bt, kb, rfl, old hbtH nbs, fun H10 p0 as s10 np0 nas pas hp0 hpr => ⟨p0, as, kb, rfl, SqL.of hp0, paired_kv hpr, fun h0 nh0 => ?_⟩⟩
      have ndb : (kb.map (·.1)).Nodup := by
        rw [hkb.keys, smn]
        exact List.pairwise_map.mpr (ok.nm.ti.nd.imp fun h z => h (Sum.inr.inj z))
      rw [mergeK_nodup (by rw [List.nil_append]; exact ndb), List.nil_append]
      have s10 : Same H8 H10 := s10
      have s11 : Same H8 (upd H10 h0 (.dK kb)) := s10.trans (same_new nh0)
      have eh : (upd H10 h0 (.dK kb)) h0 = some (.dK kb) := upd_same
      have n8 : H8 h0 = none := s10.free nh0
      generalize upd H10 h0 (.dK kb) = H11 at s11 eh ⊢
      have nin : valV kn (.inr nm) = none := name_new hk8 (by rw [List.map_take]) ok.kn.ti.nd (by rw [List.getElem?_map, hsm]; rfl)
      have lkn : kn.length ≤ 3 := by
        have := hk8.len
        rw [List.length_take] at this
        omega
      refine ⟨_, rfl, fo, _, rfl, fok2 sd sn (.ref ls) ▸ DGet.k (k := Sum.inr "steps") (s11 _ _ eF8), _, rfl, sn, _, rfl, DPut.k (k := .inr nm) (s11 _ _ e8) (small1000 (by omega)), ?_⟩
      rw [putK_new _ nin]
      have nhn : h0 ≠ sn := fun z => by rw [z, e8] at n8; cases n8
      have n7 : H7 h0 = none := by
        cases z : H7 h0 with
        | none => rfl
        | some o =>
          by_cases y : h0 = st0
          · rw [y, ef8] at n8; cases n8
          · rw [S8 _ _ (hole_at (by rw [upd_ne y]; exact z) nhn)] at n8; cases n8
      have tk : stps.take (i + 1) = stps.take i ++ [(nm, sm)] := by rw [List.take_add_one, hsm]; rfl
      refine ⟨_, kn ++ [(.inr nm, .ref h0)], rfl, fun b o e => ?_, upd_same, ?_, ?_⟩
      · rw [upd_ne (hole_ne e).1]
        exact s11 _ _ (S8 _ _ e)
      · rw [tk]
        refine KvP.snoc (hk8.mono fun v sm ⟨b, kb, e1, e2, e3, e4⟩ => ⟨b, kb, e1, by rw [upd_ne (fun z => by rw [z, eN7] at e4; cases e4)]; exact s11 _ _ e2, e3, e4⟩) ⟨h0, kb, rfl, by rw [upd_ne nhn]; exact eh, hkb, n7⟩
      · rw [List.map_append]
        refine List.nodup_append.mpr ⟨nd8, List.nodup_cons.mpr ⟨by simp, List.nodup_nil⟩, fun a ha b hb z => ?_⟩
        rw [List.mem_singleton.mp hb] at z
        obtain ⟨⟨k2, v2⟩, hp2, e2⟩ := List.mem_map.mp ha
        obtain ⟨j, hj⟩ := List.getElem?_of_mem hp2
        obtain ⟨_, _, _, _, b2, _, e3, e4, _⟩ := hk8.at_ hj
        have e5 : b2 = h0 := V.ref.inj (e3.symm.trans (e2.trans z))
        rw [e5, n8] at e4
        cases e4
    · rintro σ H8 ⟨y5, kn, rfl, S8, e8, hk8, nd8⟩
      refine ⟨S8 _ _ (hole_at upd_same nstn), ?_⟩
      rw [kln, List.take_length] at hk8
      have S9 : Same (hole sn H7) (upd H8 st0 (.dK kt)) := fun b o e => by
        obtain ⟨n1, e⟩ := hole_ne e
        by_cases y : b = st0
        · rw [y, u7 _ _ hktH] at e
          rw [y, upd_same]
          exact e
        · rw [upd_ne y]
          exact S8 _ _ (hole_at (by rw [upd_ne y]; exact e) n1)
      have e9 : (upd H8 st0 (.dK kt)) sn = some (.dK kn) := by rw [upd_ne nstn.symm]; exact e8
      have hk9 : KvP (fun v sm => ∃ b kb, v = .ref b ∧ (upd H8 st0 (.dK kt)) b = some (.dK kb) ∧ KvP (SumR (cut d l H)) kb sm ∧ H7 b = none) kn stps := hk8.mono fun v sm ⟨b, kb, e1, e2, e3, e4⟩ => ⟨b, kb, e1, by rw [upd_ne (fun z => by rw [z, u7 _ _ hktH] at e4; cases e4)]; exact e2, e3, e4⟩
      generalize upd H8 st0 (.dK kt) = H9 at S9 e9 hk9 ⊢
      have u9 : Same H H9 := fun b o e => S9 _ _ (hole_at (u7 _ _ e) (fun z => by rw [z, nnH] at e; cases e))
      have D9 := D.same u9
      have nf' : fo ≠ d ∧ fo ≠ l := D.off nfH
      have ns' : sd ≠ d ∧ sd ≠ l := D.off nsH
      have nn' : sn ≠ d ∧ sn ≠ l := D.off nnH
      subst hstp
      have eF9 : H9 fo = some (.dK (fok sd sn (.ref ls))) := S9 _ _ (hole_at eF7 d2)
      have eS9 : H9 sd = some (.dK ks0) := S9 _ _ (hole_at eS7 d4)
      cases hk9 with
      | @cons kn _ _ _ _ hh rr =>
      obtain ⟨b0, kb0, rfl, eB, hkb0, nb7⟩ := hh
      cases hkb0 with
      | @cons kb _ _ v0 _ g1 r1 =>
      cases hkp0 with
      | @cons ks _ _ vv _ g2 r2 =>
      obtain rfl : vv = V.int i0 := g2
      have nbH : H b0 = none := u7.free nb7
      have nb' : b0 ≠ d ∧ b0 ≠ l := D.off nbH
      have d3 : fo ≠ b0 := fun z => by rw [← z, eF7] at nb7; cases nb7
      have d5 : sd ≠ b0 := fun z => by rw [← z, eS7] at nb7; cases nb7
      have d6 : sn ≠ b0 := fun z => by rw [← z, eN7] at nb7; cases nb7
      have hL : ∀ x ∈ [b0, fo, sd, sn], ∃ kvs, H9 x = some (.dK kvs) := by
        intro x hx
        simp only [List.mem_cons, List.not_mem_nil, or_false] at hx
        rcases hx with rfl | rfl | rfl | rfl
        · exact ⟨_, eB⟩
        · exact ⟨_, eF9⟩
        · exact ⟨_, eS9⟩
        · exact ⟨_, e9⟩
      have c9 : Same (cut d l H) (cut d l H9) := (But.of u9).cut
      have sums : ∀ {v : V} {ts : List Tm}, SumR (cut d l H) v ts → SumR (rest d l [b0, fo, sd, sn] H9) v ts := fun ⟨q, e, i⟩ => ⟨q, e, sum_rest hL (i.same c9)⟩
      have nr : V.ref b0 ∉ kn.map (·.2) := (List.nodup_cons.mp (show (V.ref b0 :: kn.map (·.2)).Nodup from nd8)).1
      have tT : t ∈ TI := ok.nm.ti.inT t (List.mem_cons_self ..)
      have cp : Cpy H9 d l c fo sd sn b0 ls s t i0 st' ts0 sm' stp' mla ks kn kb v0 := by
        refine ⟨D9, eF9, eS9, r2, e9, rr.imp_mem fun v sm hv ⟨b, kb, e1, e2, e3, e4⟩ => ⟨b, e1, kb, rest_at e2 (D.off (u7.free e4)).1 (D.off (u7.free e4)).2 (fun z => ?_), e3.mono fun _ _ r => sums r⟩, eB, sums g1, r1.mono fun _ _ r => sums r, sum_rest hL (hls.same c9), d1, d2, d3, d4, d5, d6, nf', ns', nn', nb'⟩
        simp only [List.mem_cons, List.not_mem_nil, or_false] at z
        rcases z with z | z | z | z
        · rw [z] at e1
          rw [e1] at hv
          exact nr hv
        · rw [z, eF7] at e4
          cases e4
        · rw [z, eS7] at e4
          cases e4
        · rw [z, eN7] at e4
          cases e4
      have hL2 : ∀ x ∈ [b0, fo, sd, sn], ∃ o, H9 x = some o := fun x hx => by
        obtain ⟨k, e⟩ := hL x hx
        exact ⟨_, e⟩
      refine ⟨td, fo, b0, sd, sn, s, t, H9, tT, hL2, _, _, _, _, _, rfl, rfl, D9, fun σ1 G1 w1 => ⟨td, fo, b0, sd, sn, s, t, H9, tT, hL2, w1, fun σ2 G2 w2 => ⟨td, fo, b0, sd, sn, s, t, H9, tT, hL2, w2, fun σ3 G3 w3 => ⟨td, fo, b0, sd, sn, s, t, H9, tT, hL2, w3, fun σ4 G4 w4 =>
        ⟨td, fo, b0, sd, sn, s, t, H9, tT, hL2, w4, fun σ5 G5 w5 => ⟨td, fo, b0, sd, sn, s, t, H9, tT, hL2, w5, fun σ6 G6 w6 => ⟨td, fo, b0, sd, sn, s, t, H9, tT, hL2, w6, fun σ7 G7 w7 => ⟨td, fo, b0, sd, sn, s, t, H9, tT, hL2, w7, fun σ8 G8 w8 => ?_⟩⟩⟩⟩⟩⟩⟩⟩
      clear w1 w2 w3 w4 w5 w6 w7
      obtain ⟨y5', y7, y8, y9, wl, xs, rfl, _, sb, D10, hwl, nwl, len, hx⟩ := w8
      have cp10 := cp.go D10 (But.of sb)
      have nwl' : wl ≠ d ∧ wl ≠ l := D9.off nwl
      refine ⟨_, rfl, _, rfl, d, l, c, wl, xs, rfl, D10, hwl, nwl'.2, by omega, by omega, fun kx x H11 hkx D11 B11 => ?_⟩
      have hw := (hx x (List.mem_of_getElem? hkx)).same (rest_but B11)
      have cp11 := cp10.go D11 B11
      have B11' : But d l H H11 := ((But.of u9).trans (But.of sb)).trans B11
      clear hx hkx hwl len sb cp cp10 D10 B11 S8 S9 e8 e9 hk8 eB g1 r1 r2 rr eF9 eS9 nd8
      have t0 : t ∉ st'.map (·.1) := (List.nodup_cons.mp (show (t :: st'.map (·.1)).Nodup from ok.nm.ti.nd)).1
      have smn : (t :: sm'.map (·.1)) = (t :: st'.map (·.1)) := cpy_smn ok
      have nks : (Sum.inr t : Key) ∉ ks.map (·.1) := fun z => by
        rw [cp11.kS.keys] at z
        obtain ⟨y, hy, e⟩ := List.mem_map.mp z
        cases e
        exact t0 hy
      have nkb : (Sum.inr t : Key) ∉ kb.map (·.1) := fun z => by
        rw [cp11.kB.keys] at z
        obtain ⟨y, hy, e⟩ := List.mem_map.mp z
        cases e
        exact t0 (by rw [← (List.cons.inj smn).2]; exact hy)
      have notS : ∀ {k : Str}, k ∉ TI → valV ((.inr t, V.int i0) :: ks) (.inr k) = none := fun {k} hk => (show KvP IntR ((.inr t, V.int i0) :: ks) ((t, i0) :: st') from .cons rfl cp11.kS).miss fun z => hk (ok.nm.ti.inT _ z)
      have notB : ∀ {k : Str}, k ∉ TI → valV ((.inr t, v0) :: kb) (.inr k) = none := fun {k} hk => (KvP.cons cp11.k0 cp11.kB).miss fun z => hk (ok.nm.ti.inT _ (by show k ∈ t :: st'.map (·.1); rw [← smn]; exact z))
      have notN : ∀ {k : Str}, k ∉ TI → valV ((.inr s, V.ref b0) :: kn) (.inr k) = none := fun {k} hk => (show KvP (fun _ _ => True) ((.inr s, V.ref b0) :: kn) ((s, (t, ts0) :: sm') :: stp') from .cons trivial (cp11.kN.mono fun _ _ _ => trivial)).miss fun z => hk (ok.kn.ti.inT _ z)
      have lks := cp11.kS.len
      have lkb := cp11.kB.len
      have lkn := cp11.kN.len
      have lens := cpy_len ok
      have hb0 : valV ((.inr s, V.ref b0) :: kn) (.inr s) = some (.ref b0) := by rw [valV_cons, if_pos rfl]
      cases hw with
      | @start a f w e i b =>
        refine ⟨a, _, rfl, .inl (.inl (rest_le _ _ e)), rfl, _, _, rfl, _, _, rfl, _, _, rfl, rfl, _, rfl, by show 2 ≤ sizeLine; decide, fun t1 nt1 => ⟨t1, _, rfl, .inr (.inl (.inl upd_same)), rfl, rfl, true, by kernel_rfl, iteT ?_⟩⟩
        have cpf := cp11.go (cp11.D.new (o := (.tup [.str "start", .str "none"])) nt1) (But.new nt1)
        have Bf : But d l H (upd H11 t1 (.tup [.str "start", .str "none"])) := B11'.trans (But.new nt1)
        have fi := i.same (rest_but (But.new (d := d) (l := l) (o := (.tup [.str "start", .str "none"])) nt1))
        generalize upd H11 t1 (.tup [.str "start", .str "none"]) = G at cpf Bf fi ⊢
        refine ⟨_, rfl, _, rfl, fo, _, rfl, fok1 sd sn (.ref ls) ▸ DGet.k (k := Sum.inr "start") cpf.eF, _, rfl, sd, _, rfl, DPut.k (k := .inr t) cpf.eS (small1000 (by rw [List.length_cons]; omega)), ?_⟩
        rw [putK_head nks]
        exact ⟨_, _, _, _, fo, _, _, "start", _, _, [.str "start"], rfl, by simp [duePairs], fun T wr H' s' e1 e2 => q T fo wr _ H' ((cpf.D.own D nsH).same s') ((Bf.own nsH).trans (But.of s')) e1 e2 (LaterOk.same (way_start ok cpf (fi.same ((rest_upd (x := sd) (by simp)).trans rest_cut)) b) s')⟩
      | @startT a e =>
        refine ⟨a, _, rfl, .inl (.inl (rest_le _ _ e)), rfl, _, _, rfl, _, _, rfl, _, _, rfl, rfl, _, rfl, by show 2 ≤ sizeLine; decide, fun t1 nt1 => ⟨t1, _, rfl, .inr (.inl (.inl upd_same)), rfl, rfl, true, by kernel_rfl, iteT ?_⟩⟩
        have cpf := cp11.go (cp11.D.new (o := (.tup [.str "start", .str "none"])) nt1) (But.new nt1)
        have Bf : But d l H (upd H11 t1 (.tup [.str "start", .str "none"])) := B11'.trans (But.new nt1)
        generalize upd H11 t1 (.tup [.str "start", .str "none"]) = G at cpf Bf  ⊢
        refine ⟨_, rfl, _, rfl, fo, _, rfl, fok1 sd sn (.ref ls) ▸ DGet.k (k := Sum.inr "start") cpf.eF, _, rfl, sd, _, rfl, DPut.k (k := .inr "t") cpf.eS (small1000 (by rw [List.length_cons]; omega)), ?_⟩
        rw [putK_new _ (notS t_ti)]
        exact ⟨_, _, _, _, fo, _, _, "start", _, _, [.str "start"], rfl, by simp [duePairs], fun T wr H' s' e1 e2 => q T fo wr _ H' ((cpf.D.own D nsH).same s') ((Bf.own nsH).trans (But.of s')) e1 e2 (LaterOk.same (way_startT ok cpf) s')⟩
      | @none a e =>
        refine ⟨a, _, rfl, .inl (.inl (rest_le _ _ e)), rfl, _, _, rfl, _, _, rfl, _, _, rfl, rfl, _, rfl, by show 2 ≤ sizeLine; decide, fun t1 nt1 => ⟨t1, _, rfl, .inr (.inl (.inl upd_same)), rfl, rfl, true, by kernel_rfl, iteT ?_⟩⟩
        have cpf := cp11.go (cp11.D.new (o := (.tup [.str "start", .str "none"])) nt1) (But.new nt1)
        have Bf : But d l H (upd H11 t1 (.tup [.str "start", .str "none"])) := B11'.trans (But.new nt1)
        generalize upd H11 t1 (.tup [.str "start", .str "none"]) = G at cpf Bf  ⊢
        refine ⟨_, rfl, _, rfl, fo, _, rfl, fok1 sd sn (.ref ls) ▸ DGet.k (k := Sum.inr "start") cpf.eF, _, rfl, sd, _, rfl, DPut.k (k := .inr t) cpf.eS (small1000 (by rw [List.length_cons]; omega)), ?_⟩
        rw [putK_head nks]
        exact ⟨_, _, _, _, fo, _, _, "none", _, _, [], rfl, by simp [duePairs], fun T wr H' s' e1 e2 => q T fo wr _ H' ((cpf.D.own D nsH).same s') ((Bf.own nsH).trans (But.of s')) e1 e2 (LaterOk.same (way_none ok cpf) s')⟩
      | @steps a f w e i b =>
        refine ⟨a, _, rfl, .inl (.inl (rest_le _ _ e)), rfl, _, _, rfl, _, _, rfl, _, _, rfl, rfl, _, rfl, by show 2 ≤ sizeLine; decide, fun t1 nt1 => ⟨t1, _, rfl, .inr (.inl (.inl upd_same)), rfl, rfl, false, by kernel_rfl, iteF ?_⟩⟩
        have cpa := cp11.go (cp11.D.new (o := (.tup [.str "start", .str "none"])) nt1) (But.new nt1)
        have Ba : But d l H11 (upd H11 t1 (.tup [.str "start", .str "none"])) := But.new nt1
        generalize upd H11 t1 (.tup [.str "start", .str "none"]) = Ga at cpa Ba ⊢
        refine ⟨_, rfl, by show 2 ≤ sizeLine; decide, fun t2 nt2 => ⟨t2, _, rfl, .inr (.inl (.inl upd_same)), rfl, rfl, true, by kernel_rfl, iteT ?_⟩⟩
        have cpf := cpa.go (cpa.D.new (o := (.tup [.str "steps", .str "fine"])) nt2) (But.new nt2)
        have Bg : But d l H11 (upd Ga t2 (.tup [.str "steps", .str "fine"])) := Ba.trans (But.new nt2)
        have Bf := B11'.trans Bg
        have fi := i.same (rest_but Bg)
        generalize upd Ga t2 (.tup [.str "steps", .str "fine"]) = G at cpf Bf fi ⊢
        refine ⟨_, rfl, _, rfl, fo, _, rfl, fok2 sd sn (.ref ls) ▸ DGet.k (k := Sum.inr "steps") cpf.eF, _, rfl, sn, _, rfl, hb0 ▸ DGet.k (k := Sum.inr s) cpf.eN, _, rfl, b0, _, rfl, DPut.k (k := .inr t) cpf.eB (small1000 (by rw [List.length_cons]; omega)), ?_⟩
        rw [putK_head nkb]
        exact ⟨_, _, _, _, fo, _, _, "steps", _, _, [.str "steps"], rfl, by simp [duePairs], fun T wr H' s' e1 e2 => q T fo wr _ H' ((cpf.D.own D nbH).same s') ((Bf.own nbH).trans (But.of s')) e1 e2 (LaterOk.same (way_steps ok cpf (fi.same ((rest_upd (x := b0) (by simp)).trans rest_cut)) b) s')⟩
      | @stepsQ a f e i =>
        refine ⟨a, _, rfl, .inl (.inl (rest_le _ _ e)), rfl, _, _, rfl, _, _, rfl, _, _, rfl, rfl, _, rfl, by show 2 ≤ sizeLine; decide, fun t1 nt1 => ⟨t1, _, rfl, .inr (.inl (.inl upd_same)), rfl, rfl, false, by kernel_rfl, iteF ?_⟩⟩
        have cpa := cp11.go (cp11.D.new (o := (.tup [.str "start", .str "none"])) nt1) (But.new nt1)
        have Ba : But d l H11 (upd H11 t1 (.tup [.str "start", .str "none"])) := But.new nt1
        generalize upd H11 t1 (.tup [.str "start", .str "none"]) = Ga at cpa Ba ⊢
        refine ⟨_, rfl, by show 2 ≤ sizeLine; decide, fun t2 nt2 => ⟨t2, _, rfl, .inr (.inl (.inl upd_same)), rfl, rfl, true, by kernel_rfl, iteT ?_⟩⟩
        have cpf := cpa.go (cpa.D.new (o := (.tup [.str "steps", .str "fine"])) nt2) (But.new nt2)
        have Bg : But d l H11 (upd Ga t2 (.tup [.str "steps", .str "fine"])) := Ba.trans (But.new nt2)
        have Bf := B11'.trans Bg
        have fi := i.same (rest_but Bg)
        generalize upd Ga t2 (.tup [.str "steps", .str "fine"]) = G at cpf Bf fi ⊢
        refine ⟨_, rfl, _, rfl, fo, _, rfl, fok2 sd sn (.ref ls) ▸ DGet.k (k := Sum.inr "steps") cpf.eF, _, rfl, sn, _, rfl, hb0 ▸ DGet.k (k := Sum.inr s) cpf.eN, _, rfl, b0, _, rfl, DPut.k (k := .inr "q") cpf.eB (small1000 (by rw [List.length_cons]; omega)), ?_⟩
        rw [putK_new _ (notB q_ti)]
        exact ⟨_, _, _, _, fo, _, _, "steps", _, _, [.str "steps"], rfl, by simp [duePairs], fun T wr H' s' e1 e2 => q T fo wr _ H' ((cpf.D.own D nbH).same s') ((Bf.own nbH).trans (But.of s')) e1 e2 (LaterOk.same (way_stepsQ ok cpf (fi.same ((rest_upd (x := b0) (by simp)).trans rest_cut))) s')⟩
      | @fine a b2 tms e i o =>
        refine ⟨a, _, rfl, .inl (.inl (rest_le _ _ e)), rfl, _, _, rfl, _, _, rfl, _, _, rfl, rfl, _, rfl, by show 2 ≤ sizeLine; decide, fun t1 nt1 => ⟨t1, _, rfl, .inr (.inl (.inl upd_same)), rfl, rfl, false, by kernel_rfl, iteF ?_⟩⟩
        have cpa := cp11.go (cp11.D.new (o := (.tup [.str "start", .str "none"])) nt1) (But.new nt1)
        have Ba : But d l H11 (upd H11 t1 (.tup [.str "start", .str "none"])) := But.new nt1
        generalize upd H11 t1 (.tup [.str "start", .str "none"]) = Ga at cpa Ba ⊢
        refine ⟨_, rfl, by show 2 ≤ sizeLine; decide, fun t2 nt2 => ⟨t2, _, rfl, .inr (.inl (.inl upd_same)), rfl, rfl, true, by kernel_rfl, iteT ?_⟩⟩
        have cpf := cpa.go (cpa.D.new (o := (.tup [.str "steps", .str "fine"])) nt2) (But.new nt2)
        have Bg : But d l H11 (upd Ga t2 (.tup [.str "steps", .str "fine"])) := Ba.trans (But.new nt2)
        have Bf := B11'.trans Bg
        have fi := i.same (rest_but Bg)
        generalize upd Ga t2 (.tup [.str "steps", .str "fine"]) = G at cpf Bf fi ⊢
        refine ⟨_, rfl, _, rfl, fo, _, rfl, fok2 sd sn (.ref ls) ▸ DGet.k (k := Sum.inr "steps") cpf.eF, _, rfl, sn, _, rfl, hb0 ▸ DGet.k (k := Sum.inr s) cpf.eN, _, rfl, b0, _, rfl, DPut.k (k := .inr t) cpf.eB (small1000 (by rw [List.length_cons]; omega)), ?_⟩
        rw [putK_head nkb]
        exact ⟨_, _, _, _, fo, _, _, "fine", _, _, [], rfl, by simp [duePairs], fun T wr H' s' e1 e2 => q T fo wr _ H' ((cpf.D.own D nbH).same s') ((Bf.own nbH).trans (But.of s')) e1 e2 (LaterOk.same (way_fine ok cpf (fi.same ((rest_upd (x := b0) (by simp)).trans rest_cut)) o) s')⟩
      | @last a f w e i b =>
        refine ⟨a, _, rfl, .inl (.inl (rest_le _ _ e)), rfl, _, _, rfl, _, _, rfl, _, _, rfl, rfl, _, rfl, by show 2 ≤ sizeLine; decide, fun t1 nt1 => ⟨t1, _, rfl, .inr (.inl (.inl upd_same)), rfl, rfl, false, by kernel_rfl, iteF ?_⟩⟩
        have cpa := cp11.go (cp11.D.new (o := (.tup [.str "start", .str "none"])) nt1) (But.new nt1)
        have Ba : But d l H11 (upd H11 t1 (.tup [.str "start", .str "none"])) := But.new nt1
        generalize upd H11 t1 (.tup [.str "start", .str "none"]) = Ga at cpa Ba ⊢
        refine ⟨_, rfl, by show 2 ≤ sizeLine; decide, fun t2 nt2 => ⟨t2, _, rfl, .inr (.inl (.inl upd_same)), rfl, rfl, false, by kernel_rfl, iteF ?_⟩⟩
        have cpf := cpa.go (cpa.D.new (o := (.tup [.str "steps", .str "fine"])) nt2) (But.new nt2)
        have Bg : But d l H11 (upd Ga t2 (.tup [.str "steps", .str "fine"])) := Ba.trans (But.new nt2)
        have Bf := B11'.trans Bg
        have fi := i.same (rest_but Bg)
        generalize upd Ga t2 (.tup [.str "steps", .str "fine"]) = G at cpf Bf fi ⊢
        refine ⟨_, rfl, rfl, false, by kernel_rfl, iteF ⟨_, rfl, _, rfl, fo, _, rfl, DPut.k (k := .inr "last") cpf.eF (small1000 (by show 3 ≤ 1000; decide)), ?_⟩⟩
        rw [fokp]
        exact ⟨_, _, _, _, fo, _, _, "last", _, _, [.str "last"], rfl, by simp [duePairs], fun T wr H' s' e1 e2 => q T fo wr _ H' ((cpf.D.own D nfH).same s') ((Bf.own nfH).trans (But.of s')) e1 e2 (LaterOk.same (way_last ok cpf (fi.same ((rest_upd (x := fo) (by simp)).trans rest_cut)) b) s')⟩
      | @kinds a k e hk =>
        refine ⟨a, _, rfl, .inl (.inl (rest_le _ _ e)), rfl, _, _, rfl, _, _, rfl, _, _, rfl, rfl, _, rfl, by show 2 ≤ sizeLine; decide, fun t1 nt1 => ⟨t1, _, rfl, .inr (.inl (.inl upd_same)), rfl, rfl, false, by kernel_rfl, iteF ?_⟩⟩
        have cpa := cp11.go (cp11.D.new (o := (.tup [.str "start", .str "none"])) nt1) (But.new nt1)
        have Ba : But d l H11 (upd H11 t1 (.tup [.str "start", .str "none"])) := But.new nt1
        generalize upd H11 t1 (.tup [.str "start", .str "none"]) = Ga at cpa Ba ⊢
        refine ⟨_, rfl, by show 2 ≤ sizeLine; decide, fun t2 nt2 => ⟨t2, _, rfl, .inr (.inl (.inl upd_same)), rfl, rfl, false, by kernel_rfl, iteF ?_⟩⟩
        have cpf := cpa.go (cpa.D.new (o := (.tup [.str "steps", .str "fine"])) nt2) (But.new nt2)
        have Bg : But d l H11 (upd Ga t2 (.tup [.str "steps", .str "fine"])) := Ba.trans (But.new nt2)
        have Bf := B11'.trans Bg
        generalize upd Ga t2 (.tup [.str "steps", .str "fine"]) = G at cpf Bf ⊢
        refine ⟨_, rfl, rfl, true, by kernel_rfl, iteT ⟨_, rfl, fo, _, rfl, fok2 sd sn (.ref ls) ▸ DGet.k (k := Sum.inr "steps") cpf.eF, _, rfl, sn, _, rfl, hb0 ▸ DGet.k (k := Sum.inr s) cpf.eN, _, rfl, fo, _, rfl, fok2 sd sn (.ref ls) ▸ DGet.k (k := Sum.inr "steps") cpf.eF, _, rfl, sn, _, rfl, DPut.k (k := .inr k) cpf.eN (small1000 (by rw [List.length_cons]; omega)), ?_⟩⟩
        have hkT : k ∉ TI := by rcases hk with rfl | rfl
                                · exact t_ti
                                · exact e_ti
        rw [putK_new _ (notN hkT)]
        exact ⟨_, _, _, _, fo, _, _, "kinds", _, _, [.str "steps"], rfl, by simp [duePairs], fun T wr H' s' e1 e2 => q T fo wr _ H' ((cpf.D.own D nnH).same s') ((Bf.own nnH).trans (But.of s')) e1 e2 (LaterOk.same (way_kinds ok cpf hk) s')⟩
end
end Kn
-- part Gd
set_option maxHeartbeats 4000000
/-! Promises of defs that ask for the text of a value: what runs around them holds no open repr. -/
namespace Gd
open PySem PySem.Spec PyProof.Rows L2
section
variable (P : Program) (w : World) (K : PySem.W.Frag) (mg : Str → Option Value) (base : Heap)
structure FnOkG (CX : CXT) (k : Nat) (f : Addr) (fd : FuncData) (ps : List Str) (sp : Sp) : Prop where
  len : ∀ vs H Q E, sp vs H Q E → vs.length = ps.length
  run : ∀ (A : Around) (outer : List Env) (s : Shared) (H : Hp) (args : Args) (us : List Value) (vs : List V) (Q : VK) (E : XK),
    Room k A → A.guards = some [] → Env0 P w K mg base A outer s H → BindsTo s fd args (ps.zip us) → Vals vs us → sp vs H Q E →
      codeAny (model P w) A (.call (.ref f) args) (CR CX outer P w H s Q E) s
end
section
variable {P : Program} {w : World} {K : PySem.W.Frag} {mg : Str → Option Value} {base : Heap} {CX : CXT} {k j : Nat} {f : Addr} {fd : FuncData} {ps : List Str} {sp : Sp}
theorem FnOkG.of (F : FnOk P w K mg base CX k f fd ps sp) : FnOkG P w K mg base CX k f fd ps sp :=
  ⟨F.len, fun A outer s H args us vs Q E hr _ e0 hb r h => F.run A outer s H args us vs Q E hr e0 hb r h⟩
theorem FnOkG.mono (F : FnOkG P w K mg base CX j f fd ps sp) (h : j ≤ k) : FnOkG P w K mg base CX k f fd ps sp :=
  ⟨F.len, fun A outer s H args us vs Q E hr => F.run A outer s H args us vs Q E (hr.mono h)⟩
theorem okG_of {name qual : Str} {params : Arguments} {body : List Stmt} {scope : Scope} {dV kV doc pm cdv ct oc : Value} {an od : Option Addr} {osl : Array (Option Value)} {N : List Str}
    (lk : K.lookup f = some ⟨oc, od, .func (PySem.W.fnOf name qual params body scope dV kV doc pm an cdv ct), osl⟩) (hcd : PySem.W.codeIn K cdv qual = true)
    (S : FnScope N ps scope) (len : ∀ vs H Q E, sp vs H Q E → vs.length = ps.length)
    (hbody : ∀ (A : Around) (outer : List Env) (s : Shared) (H : Hp) (vs : List V) (Q : VK) (E : XK), Room k (A.deeper (envOfC qual scope s.heap.objs.size f cdv)) → A.guards = some [] → sp vs H Q E →
      ∃ t, PSs (cxOf CX P w K mg base N qual scope f cdv A outer s H E) body t ∧ t { nx := fun _ H' => Q .non H', rt := Q } (start N vs) H) :
    FnOkG P w K mg base CX (k + 1) f (PySem.W.fnOf name qual params body scope dV kV doc pm an cdv ct) ps sp := by
  refine ⟨len, fun A outer s H args us vs Q E hr hg e0 hb r hsp => ?_⟩
  have eql := len _ _ _ _ hsp
  have kin : K.In s.heap := e0.mod.kin.keeps fun b o z => (e0.bs b o z).1
  have lim := e0.mod.nolimit.keeps fun b o z => (e0.bs b o z).1
  have kinds : ∀ y ∈ ps.zip us, scope.names.lookup y.1 = some .local ∨ (scope.names.lookup y.1 = some .cell ∧ ((cellsFrom (s.heap.objs.size + 1) scope.names []).lookup y.1).isSome = true) := by
    rintro ⟨n, v⟩ hy
    rcases S.par n (List.of_mem_zip hy).1 with z | z
    · exact .inl z
    · exact .inr ⟨z, PySem.W.cellsFrom_some _ _ _ (.inl z)⟩
  refine codeAny_call_function hr.depth (kin _ _ lk) rfl S.co S.gen rfl (PySem.W.codeRec_of kin hcd) (hb _ _ _ _ ?_)
  refine wpAny_newFunctionEnv_cells S.kind kinds fun env he s1 x => ?_
  subst he
  refine ⟨lim.keeps x.toInCall.keep, codeAny_func ?_⟩
  obtain ⟨t, ht, hq⟩ := hbody A outer s H vs Q E (hr.deeper _) hg hsp
  have I : Inv (cxOf CX P w K mg base N qual scope f cdv A outer s H E) [] (start N vs) H s1 := inv_start S hr.hd e0 eql r x
  refine wpAny_mono (ht.run [] s1 (start N vs) H _ I hq) (fun fl s' hs => ?_) fun _ _ z => z
  cases fl with
  | next =>
    obtain ⟨σ', H', J, q⟩ := hs
    exact ⟨.non, H', J.os, J.bare, J.base, J.hok, rfl, q⟩
  | ret u =>
    obtain ⟨v, σ', H', J, rv, q⟩ := hs
    exact ⟨v, H', J.os, J.bare, J.base, J.hok, rv, q⟩
  | brk =>
    obtain ⟨_, _, _, q⟩ := hs
    exact q.elim
  | cont =>
    obtain ⟨_, _, _, q⟩ := hs
    exact q.elim
/-- THE RULE for such a def -/
theorem okG {x qual : Str} {st : Stmt} {N : List Str} (F : Fun K x qual st f fd) (S : FnScope N ps (defScope st)) (len : ∀ vs H Q E, sp vs H Q E → vs.length = ps.length)
    (hbody : ∀ (cdv : Value) (A : Around) (outer : List Env) (s : Shared) (H : Hp) (vs : List V) (Q : VK) (E : XK), Room k (A.deeper (envOfC qual (defScope st) s.heap.objs.size f cdv)) → A.guards = some [] → sp vs H Q E →
      ∃ t, PSs (cxOf CX0 P w K mg base N qual (defScope st) f cdv A outer s H E).nox (defBody st) t ∧ t { nx := fun _ H' => Q .non H', rt := Q } (start N vs) H) :
    FnOkG P w K mg base CX0 (k + 1) f fd ps sp := by
  obtain ⟨oc, od, kV, doc, pm, an, cdv, ct, osl, rfl, lk, hcd⟩ := F.ex
  refine okG_of lk hcd S len fun A outer s H vs Q E hr hg hsp => ?_
  obtain ⟨t, h, q⟩ := hbody cdv A outer s H vs Q E hr hg hsp
  exact ⟨t, h.nox, q⟩
end
/-- a call of such a def -/
theorem callG {X : Cx} {CX : CXT} {k : Nat} {f : Addr} {fd : FuncData} {ps : List Str} {sp : Sp} {E : XK} {x : Str} {p pos : Pos} {e : Expr} {es : List Expr} {t : TA}
    (F : FnOkG X.prog X.w X.K X.mg X.base CX k f fd ps sp) (hr : Room k X.A) (gd : X.A.guards = some []) (hg : Gl X x) (hm : X.mg x = some (.ref f)) (hk : PySem.W.keepIn X.K (.ref f) = true) (hb : Binds X.K fd ps []) (hx : Passes CX X E)
    (ha : PA X (e :: es) t) (hdb : (x == ("__debug__" : Str)) = false := by decide) (he : starEach (e :: es) X.env = (false, eval e X.env) :: starEach es X.env := by rfl)
    (hpl : (backTo pos (starEach es X.env)).any (·.1) = false := by rfl) : PE X (.Call (.Name x p) (e :: es) [] pos) (tCall sp [] E t) := by
  refine ⟨fun pins s σ H Q I h => ?_⟩
  refine wpAny_Call_Name_kw (ld_glob I hg hm ?_ hdb)
  refine PySem.W.callWith_K (h₀ := X.base) I.ok.mod.kin hk (thn (ha.run pos pins s σ H _ I h) fun us s1 ⟨vs, H1, I1, r, q⟩ => ⟨I1.kIn, ?_⟩) he hpl
  have q' : sp (vs ++ []) H1 Q E := q
  rw [List.append_nil] at q'
  have hl : us.length = ps.length := by
    rw [← r.length]
    exact F.len _ _ _ _ q'
  refine wpAny_call (codeAny_mono (F.run X.A X.stack s1 H1 ⟨us, []⟩ us vs Q E hr gd I1.env0 (by have z := hb s1 us I1.kIn (by rw [List.append_nil]; exact hl); rw [List.append_nil] at z; exact z) r q') fun r s' hq => ?_)
  cases r with
  | error er => exact hx pins σ H1 s1 er s' I1 hq
  | ok fl =>
    cases fl with
    | ret u => exact I1.after hq
    | next => exact False.elim hq
    | brk => exact False.elim hq
    | cont => exact False.elim hq
end Gd
-- part Rp
set_option maxHeartbeats 4000000
/-! repr of values that are data, dicts of texts among them. -/
namespace Rp
open PySem PySem.Spec PyProof.Rows L2
/-- v is to be read as the datum d -/
def Tx (K : PySem.W.Frag) (H : Hp) (v : V) (d : PyData) : Prop :=
  ∀ (X : Cx) (pins : List (Addr × Obj)) (σ : L2.St) (s : Shared), X.K = K → Inv X pins σ H s → ∀ u, L2.RelV v u → ∃ as, Reads s.heap u d as ∧ (d.hasDict = true → sysModules ∉ as)
section
variable {K : PySem.W.Frag} {H : Hp}
theorem Tx.dp {v : V} {d : PyData} (h : Dp K H v d) (n : d.hasDict = false) : Tx K H v d := by
  rintro X pins σ s rfl I u ru
  obtain ⟨as, r⟩ := Dp.reads I d v u h ru
  exact ⟨as, r, fun z => by rw [n] at z; cases z⟩
theorem rep_dict {d : PyData} {n : Nat} : PyData.hasDictAll (List.replicate (n + 1) d) = d.hasDict := by
  induction n with
  | zero => show (d.hasDict || false) = d.hasDict; rw [Bool.or_false]
  | succ n ih =>
    show (d.hasDict || PyData.hasDictAll (List.replicate (n + 1) d)) = d.hasDict
    rw [ih, Bool.or_self]
theorem Tx.rep {l : Addr} {v : V} {d : PyData} {n : Nat} (h : H l = some (.lst (List.replicate (n + 1) v))) (hv : Tx K H v d) (hm : ∃ o, K.lookup sysModules = some o) : Tx K H (.ref l) (.list (List.replicate (n + 1) d)) := by
  rintro X pins σ s rfl I u ru
  obtain rfl : u = Value.ref l := ru
  obtain ⟨hz, its, m, rv, ho⟩ := I.hok _ _ h
  have all : ∀ (k : Nat) (us : List Value), Vals (List.replicate k v) us → ∃ as, ReadsAll s.heap us (List.replicate k d) as ∧ (d.hasDict = true → sysModules ∉ as) := by
    intro k
    induction k with
    | zero =>
      intro us r
      cases r
      exact ⟨[], .nil, fun _ => by simp⟩
    | succ k ih =>
      intro us r
      cases r with
      | cons r1 r2 =>
        obtain ⟨as, q1, z1⟩ := hv X pins σ s rfl I _ r1
        obtain ⟨bs, q2, z2⟩ := ih _ r2
        exact ⟨as ++ bs, .cons q1 q2, fun z => by
          intro y
          rcases List.mem_append.mp y with y | y
          · exact z1 z y
          · exact z2 z y⟩
  obtain ⟨as, q, z⟩ := all _ _ rv
  refine ⟨l :: as, Reads.list ho rfl rfl (by simpa using q), fun y => ?_⟩
  have y' : d.hasDict = true := (rep_dict (d := d) (n := n)).symm.trans y
  intro w
  rcases List.mem_cons.mp w with w | w
  · obtain ⟨o, e⟩ := hm
    have z2 := (I.bs _ _ (I.ok.mod.kin _ _ e)).2
    rw [w, h] at z2
    cases z2
  · exact z y' w
end
/-- the same, and no list on the way is the table of modules -/
def Ty (K : PySem.W.Frag) (H : Hp) (v : V) (d : PyData) : Prop :=
  ∀ (X : Cx) (pins : List (Addr × Obj)) (σ : L2.St) (s : Shared), X.K = K → Inv X pins σ H s → ∀ u, L2.RelV v u → ∃ as, Reads s.heap u d as ∧ sysModules ∉ as
def kD : Key → PyData
  | .inl i => .int i
  | .inr x => .str x
section
variable {K : PySem.W.Frag} {H : Hp}
theorem Ty.tx {v : V} {d : PyData} (h : Ty K H v d) : Tx K H v d := fun X pins σ s e I u ru =>
  let ⟨as, r, z⟩ := h X pins σ s e I u ru
  ⟨as, r, fun _ => z⟩
theorem Ty.tup0 {a : Addr} (h : H a = some (.tup [])) : Ty K H (.ref a) (.tuple []) := by
  rintro X pins σ s rfl I u ru
  obtain rfl : u = Value.ref a := ru
  obtain ⟨its, rv, ⟨o, ho, hc, n, hd⟩, _⟩ := I.tuple (SqT.of h)
  cases rv
  exact ⟨[], Reads.tuple ho hc hd .nil, by simp⟩
theorem Ty.dK {a : Addr} {kvs : List (Key × V)} {ds : List PyData} (h : H a = some (.dK kvs)) (hd : Paired (fun (kv : Key × V) d => Ty K H kv.2 d) kvs ds) : Ty K H (.ref a) (.dict ((kvs.map fun kv => kD kv.1).zip ds)) := by
  rintro X pins σ s rfl I u ru
  obtain rfl : u = Value.ref a := ru
  obtain ⟨hz, hs, vs, rel, o, es, ep, ho, ⟨hc, _, _⟩, hdat, _, hp, _⟩ := I.hok _ _ h
  have all : ∀ (es : List DictEntry) (vs : List (Key × Value)) (kvs : List (Key × V)) (ds : List PyData), Pairs (mixKind X.prog X.w) es vs → KV kvs vs → Paired (fun (kv : Key × V) d => Ty X.K H kv.2 d) kvs ds →
      ReadsAll s.heap (es.map (·.key)) (((kvs.map fun kv => kD kv.1).zip ds).map (·.1)) [] ∧ ∃ bs, ReadsAll s.heap (es.map (·.val)) (((kvs.map fun kv => kD kv.1).zip ds).map (·.2)) bs ∧ sysModules ∉ bs := by
    intro es vs kvs ds p
    induction p generalizing kvs ds with
    | nil =>
      intro r q
      cases r
      cases q
      exact ⟨.nil, [], .nil, by simp⟩
    | @cons e kv es vs k1 k2 _ ih =>
      intro r q
      cases r with
      | @cons kv' _ kvs' _ r1 r2 =>
        cases q with
        | @cons _ d _ ds' q1 q2 =>
          obtain ⟨i1, bs, i2, i3⟩ := ih _ _ r2 q2
          obtain ⟨as, z1, z2⟩ := q1 X pins σ s rfl I _ r1.2
          have ek : Reads s.heap e.key (kD kv'.1) [] := by
            have k1' : keyIs kv.1 e.key = true := k1
            rw [← r1.1] at k1'
            rcases keyIs_shape k1' with ⟨i, t, e1, e2⟩ | ⟨x, t, e1, e2⟩
            · rw [e1, e2]
              exact .int i t
            · rw [e1, e2]
              exact .str x t
          refine ⟨.cons ek i1, as ++ bs, .cons (by show Reads s.heap e.val d as; rw [k2]; exact z1) i2, fun w => ?_⟩
          rcases List.mem_append.mp w with w | w
          · exact z2 w
          · exact i3 w
  obtain ⟨i1, bs, i2, i3⟩ := all _ _ _ _ hp rel hd
  refine ⟨_, Reads.dict ho hc hdat i1 i2, fun w => ?_⟩
  rcases List.mem_append.mp w with w | w
  · rcases List.mem_cons.mp w with w | w
    · rw [← w] at hs
      simp at hs
    · simp at w
  · exact i3 w
end
/-- repr(v) -/
def rRp (K : PySem.W.Frag) : List V → Hp → VK → Prop := fun xs H Q => ∃ v d, xs = [v] ∧ Tx K H v d ∧ d.showable = true ∧ d.depth ≤ 60 ∧ d.shown.length ≤ sizeLine ∧ Q (.str d.shown) H
theorem call_rp {X : Cx} (gd : X.A.guards = some []) (hu : X.A.units + 64 < cLine) : CallR X (.builtin "repr") (rRp X.K) := by
  intro pins s σ H xs us Q I r h
  obtain ⟨v, d, rfl, hv, hs, hd, hz, q⟩ := h
  obtain ⟨u, rfl, ru⟩ : ∃ u, us = [u] ∧ L2.RelV v u := by
    cases r with
    | cons r1 r2 =>
      cases r2
      exact ⟨_, rfl, r1⟩
  obtain ⟨as, rd, hm⟩ := hv X pins σ s rfl I u ru
  have fin : ∀ h' u tk, (∀ b o, s.heap.get? b = some o → h'.get? b = some o) → EP X pins σ Q (.str d.shown u) { s with heap := h', toks := tk } := fun h' u tk k => ⟨.str d.shown, H, I.kept k, ⟨u, rfl⟩, q⟩
  have tok : ∀ u tk, EP X pins σ Q (.str d.shown u) { s with toks := tk } := fun u tk => fin s.heap u tk fun _ _ z => z
  cases rd with
  | none => exact PySem.P.repr_of_none (tok _ _)
  | bool b => exact PySem.P.repr_of_bool (tok _ _)
  | int i t => exact PySem.P.repr_of_int (of_decide_eq_true hs) (tok _ _)
  | str x t => exact PySem.P.repr_of_str (tok _ _) hz
  | list h1 h2 h3 h4 => exact repr_of_reads' (.list h1 h2 h3 h4) hs hm gd (by omega) (fun _ _ z => z) (fun h' u tk k => fin h' u tk k) hz
  | tuple h1 h2 h3 h4 => exact repr_of_reads' (.tuple h1 h2 h3 h4) hs hm gd (by omega) (fun _ _ z => z) (fun h' u tk k => fin h' u tk k) hz
  | dict h1 h2 h3 h4 h5 => exact repr_of_reads' (.dict h1 h2 h3 h4 h5) hs hm gd (by omega) (fun _ _ z => z) (fun h' u tk k => fin h' u tk k) hz
end Rp
-- part SBound
set_option maxHeartbeats 4000000
/-! How great the values of variables get; the text of a dict of them. -/
namespace Kn
open PySem PySem.Spec PyProof.Rows L2 Err Rp
def LenOk (m : Lm) : Prop := ∀ p ∈ m.steps, ∀ q ∈ p.2, q.2.length ≤ 900
theorem sum_len {H : Hp} {v : V} {ts : List Tm} (h : SumR H v ts) : ts.length ≤ 900 := by
  obtain ⟨t, rfl, i⟩ := h
  obtain ⟨xs, _, e, z, _⟩ := i.sum
  omega
theorem kvp_all {β : Type} {R : V → β → Prop} {ks : List (Key × V)} {l : List (Str × β)} (h : KvP R ks l) : ∀ p ∈ l, ∃ v, R v p.2 := h.of_mem
theorem StpD.lens {H : Hp} {a : Addr} {m : Lm} (h : StpD H a m.steps) : LenOk m := fun p hp q hq => by
  obtain ⟨ks, _, h⟩ := h
  obtain ⟨v, b, _, kb, _, h2⟩ := h.of_mem p hp
  obtain ⟨v2, h3⟩ := h2.of_mem q hq
  exact sum_len h3
def EnvB (env : Env1) (M : Nat) : Prop := ∀ t, (env t).natAbs ≤ M
theorem worth_le {env : Env1} {pf : Int → Int} {M Pw : Nat} (he : EnvB env M) : ∀ ts : List Tm, (∀ m ∈ ts, -9 ≤ m.2.2 ∧ m.2.2 ≤ 9 ∧ (pf m.2.1).natAbs ≤ Pw) → (worthF ts env pf).natAbs ≤ ts.length * (9 * M * Pw)
  | [], _ => by
    show (0 : Int).natAbs ≤ _
    exact Nat.zero_le _
  | m :: ts, h => by
    have ih := worth_le he ts fun q hq => h q (List.mem_cons_of_mem _ hq)
    obtain ⟨a, b, c⟩ := h m (List.mem_cons_self ..)
    have e : worthF (m :: ts) env pf = m.2.2 * env m.1 * pf m.2.1 + worthF ts env pf := by
      unfold worthF
      rw [List.map_cons, List.sum_cons]
    rw [e, List.length_cons, Nat.succ_mul]
    refine Nat.le_trans (Int.natAbs_add_le _ _) ?_
    rw [Nat.add_comm]
    refine Nat.add_le_add ih ?_
    rw [Int.natAbs_mul, Int.natAbs_mul]
    exact Nat.mul_le_mul (Nat.mul_le_mul (by omega) (he _)) c
theorem pw_le {n p : Int} (h : -1000 ≤ n) (h2 : n ≤ 1000) : (pwF n p).natAbs ≤ 1000000 := by
  unfold pwF
  split
  · decide
  · split
    · omega
    · rw [Int.natAbs_mul]
      exact Nat.le_trans (Nat.mul_le_mul (show n.natAbs ≤ 1000 by omega) (show n.natAbs ≤ 1000 by omega)) (by decide)
abbrev KB : Nat := 8100000000
theorem step_le {m : Lm} (ok : LoopOk m) (lo : LenOk m) {env : Env1} {M : Nat} (he : EnvB env M) (hM : 1 ≤ M) {r : Str × Int} (h : -1000 ≤ r.2) (h2 : r.2 ≤ 1000) : EnvB (stepE m env r) (KB * M) := fun t => by
  unfold stepE
  split
  · show (1 : Nat) ≤ _
    exact Nat.le_trans hM (Nat.le_mul_of_pos_left _ (by decide))
  · cases e1 : m.steps.lookup r.1 with
    | none =>
      show (0 : Int).natAbs ≤ _
      exact Nat.zero_le _
    | some sm =>
      cases e2 : sm.lookup t with
      | none =>
        show (worthF (((some sm).getD []).lookup t |>.getD []) env _).natAbs ≤ _
        rw [show (some sm).getD [] = sm from rfl, e2]
        show (0 : Int).natAbs ≤ _
        exact Nat.zero_le _
      | some ts =>
        show (worthF (((some sm).getD []).lookup t |>.getD []) env _).natAbs ≤ _
        rw [show (some sm).getD [] = sm from rfl, e2]
        have hp : (r.1, sm) ∈ m.steps := lookup_mem e1
        have hq : (t, ts) ∈ sm := lookup_mem e2
        have so := (ok.ss _ hp).2 _ hq
        have ln := lo _ hp _ hq
        refine Nat.le_trans (worth_le he ts fun q hq => ⟨(so.t q hq).2.2.2.1, (so.t q hq).2.2.2.2.1, pw_le h h2⟩) ?_
        have e : 900 * (9 * M * 1000000) = KB * M := by
          show 900 * (9 * M * 1000000) = 8100000000 * M
          omega
        rw [← e]
        exact Nat.mul_le_mul ln (Nat.le_refl _)
where lookup_mem {β : Type} : ∀ {l : List (Str × β)} {t : Str} {b : β}, l.lookup t = some b → (t, b) ∈ l
  | (k, v) :: l, t, b, h => by
    rw [look_cons] at h
    by_cases e : k = t
    · rw [if_pos e] at h
      cases h
      rw [e]
      exact List.mem_cons_self ..
    · rw [if_neg e] at h
      exact List.mem_cons_of_mem _ (lookup_mem h)
theorem env0_le {m : Lm} (ok : LoopOk m) : EnvB (env0 m) 99 := fun t => by
  unfold env0
  split
  · decide
  · cases e : m.start.lookup t with
    | none => decide
    | some i =>
      have z := ok.sv _ (step_le.lookup_mem e)
      show i.natAbs ≤ 99
      have z1 : -99 ≤ i := z.1
      have z2 : i ≤ 99 := z.2
      omega
theorem go_le {m : Lm} (ok : LoopOk m) (lo : LenOk m) : ∀ (rows : List (Str × Int)) (env : Env1) (M : Nat), EnvB env M → 1 ≤ M → (∀ r ∈ rows, -1000 ≤ r.2 ∧ r.2 ≤ 1000) → EnvB (rows.foldl (stepE m) env) (KB ^ rows.length * M)
  | [], env, M, he, _, _ => by
    rw [List.length_nil, Nat.pow_zero, Nat.one_mul]
    exact he
  | r :: rows, env, M, he, hM, h => by
    have z := h r (List.mem_cons_self ..)
    have ih := go_le ok lo rows (stepE m env r) (KB * M) (step_le ok lo he hM z.1 z.2) (Nat.le_trans hM (Nat.le_mul_of_pos_left _ (by decide))) fun q hq => h q (List.mem_cons_of_mem _ hq)
    rw [List.length_cons, Nat.pow_succ, Nat.mul_assoc]
    exact ih
theorem goE_le {m : Lm} (ok : LoopOk m) (lo : LenOk m) {rows : List (Str × Int)} (h : RowsIn m rows) (six : rows.length ≤ 6) : ∀ t, (goE m rows t).natAbs < 10 ^ 100 := fun t => by
  have z := go_le ok lo rows (env0 m) 99 (env0_le ok) (by decide) (fun r hr => (h r hr).2) t
  have e : KB ^ rows.length * 99 ≤ KB ^ 6 * 99 := Nat.mul_le_mul (Nat.pow_le_pow_right (by decide) six) (Nat.le_refl _)
  have e2 : KB ^ 6 * 99 < 10 ^ 100 := by decide +kernel
  exact Nat.lt_of_le_of_lt (Nat.le_trans z e) e2
/-! ### texts -/
def intsD (l : List (Str × Int)) : PyData := .dict (l.map fun p => (.str p.1, .int p.2))
theorem ty_int' {K : PySem.W.Frag} {H : Hp} (i : Int) : Ty K H (.int i) (.int i) := by
  rintro X pins σ s rfl I u ru
  obtain ⟨t, rfl⟩ := ru
  exact ⟨[], .int i t, by simp⟩
theorem intD_ty {K : PySem.W.Frag} {H : Hp} {a : Addr} {l : List (Str × Int)} (h : IntD H a l) : Ty K H (.ref a) (intsD l) := by
  obtain ⟨ks, e, h⟩ := h
  have z : Paired (fun (kv : Key × V) d => Ty K H kv.2 d) ks (l.map fun p => PyData.int p.2) ∧ (ks.map fun kv => kD kv.1).zip (l.map fun p => PyData.int p.2) = l.map fun p => (PyData.str p.1, PyData.int p.2) := by
    clear e
    induction h with
    | nil => exact ⟨.nil, rfl⟩
    | @cons ks l x v b h r ih =>
      obtain rfl : v = V.int b := h
      exact ⟨.cons (ty_int' b) ih.1, congrArg ((PyData.str x, PyData.int b) :: ·) ih.2⟩
  have q := Ty.dK e z.1
  rw [z.2] at q
  exact q
theorem ofString_length' (s : String) : (Str.ofString s).length = s.length := by
  first | exact PySem.StrLaws.ofString_length s | exact PySem.ofString_length s | exact ofString_length s
theorem int_show {i : Int} (h : i.natAbs < 10 ^ 100) : (PyData.int i).showable = true ∧ (PyData.int i).leavesShort 101 = true := by
  constructor
  · show decide (i.natAbs.log2 < 1920) = true
    refine decide_eq_true ?_
    have e : (10 : Nat) ^ 100 < 2 ^ 1920 := by decide +kernel
    by_cases z : i.natAbs = 0
    · rw [z]
      decide
    · exact (Nat.log2_lt z).mpr (Nat.lt_trans h e)
  · show decide ((PyData.shown (.int i)).length ≤ 101) = true
    refine decide_eq_true ?_
    have e := int_text_length_le10 (k := 100) (by decide) h
    show (Str.ofString (toString i)).length ≤ 101
    rw [ofString_length']
    exact e
theorem intsD_ok : ∀ l : List (Str × Int), (∀ p ∈ l, p.1 ∈ TI ∧ p.2.natAbs < 10 ^ 100) → PyData.showableKv (l.map fun p => (PyData.str p.1, PyData.int p.2)) = true ∧ PyData.leavesShortKv 101 (l.map fun p => (PyData.str p.1, PyData.int p.2)) = true ∧ PyData.bulkKv (l.map fun p => (PyData.str p.1, PyData.int p.2)) ≤ l.length * 20 ∧ PyData.depthKv (l.map fun p => (PyData.str p.1, PyData.int p.2)) ≤ 1
  | [], _ => ⟨rfl, rfl, Nat.zero_le _, Nat.zero_le _⟩
  | q :: l, h => by
    obtain ⟨h1, h2⟩ := h q (List.mem_cons_self ..)
    have s : (PyData.str q.1).showable = true ∧ (PyData.str q.1).leavesShort 101 = true ∧ (PyData.str q.1).bulk ≤ 6 ∧ (PyData.str q.1).depth ≤ 0 := by
      have z : ∀ t ∈ TI, (PyData.str t).showable = true ∧ (PyData.str t).leavesShort 101 = true ∧ (PyData.str t).bulk ≤ 6 ∧ (PyData.str t).depth ≤ 0 := by decide +kernel
      exact z _ h1
    obtain ⟨s1, s2, s3, s4⟩ := s
    obtain ⟨t1, t2⟩ := int_show h2
    obtain ⟨b1, b2, b3, b4⟩ := intsD_ok l fun y hy => h y (List.mem_cons_of_mem _ hy)
    have w : (PyData.int q.2).bulk ≤ 9 := by simp only [PyData.bulk]; decide
    have dp : (PyData.int q.2).depth ≤ 0 := by simp only [PyData.depth]; omega
    rw [List.map_cons]
    refine ⟨?_, ?_, ?_, ?_⟩
    · simp only [PyData.showableKv, s1, t1, b1, Bool.and_self]
    · simp only [PyData.leavesShortKv, s2, t2, b2, Bool.and_self]
    · simp only [PyData.bulkKv, List.length_cons]
      omega
    · simp only [PyData.depthKv]
      omega
theorem intsD_show {l : List (Str × Int)} (h : ∀ p ∈ l, p.1 ∈ TI ∧ p.2.natAbs < 10 ^ 100) (n : l.length ≤ 3) : (intsD l).showable = true ∧ (intsD l).depth ≤ 60 ∧ (intsD l).shown.length ≤ sizeLine := by
  obtain ⟨a, b, c, d⟩ := intsD_ok l h
  refine ⟨a, ?_, ?_⟩
  · simp only [intsD, PyData.depth]
    omega
  · have z := PyData.shown_le_bulk 101 (by decide) (intsD l) b
    have w : (intsD l).bulk ≤ 60 := by
      show PyData.bulkKv _ ≤ 60
      omega
    have e : (101 + 2) * (intsD l).bulk ≤ 103 * 60 := Nat.mul_le_mul (by decide) w
    rw [sizeLine_eq]
    omega
end Kn
-- part SMethK
set_option maxHeartbeats 4000000
/-! A method called by keyword; where rows are wrong. -/
namespace L2
open PySem PySem.Spec PyProof.Rows
def tMethK (C : Addr) (m : Str) (sp : Sp) (E : XK) (ta te : TE) : TE := fun σ H Q => ta σ H fun x H1 => ∃ a dx fs, x = .ref a ∧ H1 a = some (.ins C dx fs) ∧ fs.lookup m = none ∧ te σ H1 fun y H2 => ∃ z, [y] = [z] ∧ sp [.ref a, z] H2 Q E
/-- o.m(k = e): one value, by its name -/
theorem pe_methK {X : Cx} {CX : CXT} {k : Nat} {f C : Addr} {fd : FuncData} {p0 p1 m kn : Str} {sp : Sp} {o e : Expr} {ta te : TE} {E : XK} {apos kpos pos : Pos} {pl : Sem Bool} (he : PE X o ta) (c : Cls X.K C) (hm : Meth X.K C m f) (F : FnOk X.prog X.w X.K X.mg X.base CX k f fd [p0, p1] sp) (hr : Room k X.A)
    (hb : ∀ (s : Shared) (u w : Value), BindsTo s fd ⟨[u], [(kn, w)]⟩ [(p0, u), (p1, w)]) (hx : Passes CX X E) (hv : PE X e te)
    (hall : (backToKw pos (keywordEach [⟨some kn, e, kpos⟩] X.env)).all (·.1.isSome) = true := by rfl) (hks : (backToKw pos (keywordEach [⟨some kn, e, kpos⟩] X.env)).filterMap (·.1) = [kn] := by rfl)
    (hpl : ((backTo pos (starEach [] X.env)).any (·.1) || (backToKw pos (keywordEach [⟨some kn, e, kpos⟩] X.env)).any (·.1.isNone)) = false := by rfl)
    (ht : eval (.Call (.Attribute o m apos) [] [⟨some kn, e, kpos⟩] pos) X.env = (do
      let ov ← eval o X.env
      standAt apos.atName
      let (f, first) ← holding [ov] (getMethod ov m pl)
      callWith pos f first (backTo pos (starEach [] X.env)) (backToKw pos (keywordEach [⟨some kn, e, kpos⟩] X.env))) := by rfl) :
    PE X (.Call (.Attribute o m apos) [] [⟨some kn, e, kpos⟩] pos) (tMethK C m sp E ta te) := by
  refine ⟨fun pins s σ H Q I h => ?_⟩
  refine PySem.W.methodCall_KW (pl := pl) (thn (he.run pins s σ H _ I h) fun u s1 ⟨x, H1, I1, rx, a, dx, fs, ex, ea, l, q⟩ => ?_) ht
  subst ex
  obtain rfl : u = Value.ref a := rx
  refine getmeth_ok I1 ea c hm l ?_
  refine PySem.W.callWith_KW0 (first := [.ref a]) (h₀ := X.base) I.ok.mod.kin hm.kp hall (thn ((pk_cons (kpos := kpos) (nm := some kn) hv pk_nil).run pos pins s1 σ H1 (fun zs H2 => ∃ y, zs = [y] ∧ sp [.ref a, y] H2 Q E) I1 q) fun ws s2 ⟨zs, H2, I2, rz, y, ez, q2⟩ => ⟨I2.kIn, ?_⟩) hpl
  subst ez
  obtain ⟨w, rfl, rw'⟩ := rz.one
  rw [hks]
  refine wpAny_call (codeAny_mono (F.run X.A X.stack s2 H2 ⟨[.ref a], [(kn, w)]⟩ [.ref a, w] [.ref a, y] Q E hr I2.env0 (hb s2 (.ref a) w) (.cons rfl (.cons rw' .nil)) q2) fun r s' hq => ?_)
  cases r with
  | error e => exact hx pins σ H2 s2 e s' I2 hq
  | ok fl =>
    cases fl with
    | ret u => exact I2.after hq
    | next => exact False.elim hq
    | brk => exact False.elim hq
    | cont => exact False.elim hq
end L2
namespace Kn
open PySem PySem.Spec PyProof.Rows L2 Err
theorem bad_none {ks : List (Key × V)} {ws : List W} (h : ∀ w ∈ ws, isRowW ks w = true) : badAt ks (.lst ws) = none ∧ badAt ks (.tup ws) = none := by
  have z : (ws.findIdx? fun w => !isRowW ks w) = none := by
    rw [List.findIdx?_eq_none_iff]
    intro w hw
    rw [h w hw]
    rfl
  refine ⟨?_, ?_⟩
  · show ((ws.findIdx? fun w => !isRowW ks w).map fun i => V.int i) = none
    rw [z]
    rfl
  · show ((ws.findIdx? fun w => !isRowW ks w).map fun i => V.int i) = none
    rw [z]
    rfl
theorem bad_at {ks : List (Key × V)} {ws vs : List W} {b : W} (h : ∀ w ∈ ws, isRowW ks w = true) (hb : isRowW ks b = false) : badAt ks (.lst (ws ++ [b] ++ vs)) = some (.int ws.length) := by
  have z : ((ws ++ [b] ++ vs).findIdx? fun w => !isRowW ks w) = some ws.length := by
    have z1 : (ws.findIdx? fun w => !isRowW ks w) = none := by
      rw [List.findIdx?_eq_none_iff]
      intro w hw
      rw [h w hw]
      rfl
    rw [List.append_assoc, List.findIdx?_append, z1]
    show ((((b :: vs).findIdx? fun w => !isRowW ks w)).map fun i => i + ws.length) = _
    rw [List.findIdx?_cons, hb]
    simp
  show (((ws ++ [b] ++ vs).findIdx? fun w => !isRowW ks w).map fun i => V.int i) = _
  rw [z]
  rfl
theorem row_ok {ks : List (Key × V)} {names : List Str} (h : ks.map (·.1) = names.map Sum.inr) {ws : List (Str × Int)} (m : ∀ p ∈ ws, p.1 ∈ names) : ∀ w ∈ ws.map rowW, isRowW ks w = true := by
  intro w hw
  obtain ⟨p, hp, rfl⟩ := List.mem_map.mp hw
  show (isKeyOf ks (.str p.1) && isNum (.int p.2)) = true
  rw [key_in h, decide_eq_true (m p hp), isNum_eq]
  rfl
end Kn
-- part SLRight
set_option maxHeartbeats 8000000
/-! _law_rows_right. -/
namespace Kn
open PySem PySem.Spec PyProof.Rows L2 Err LamX HLam Gd
abbrev sLRight : Stmt := topS 39
abbrev NRr7 : List Str := ["_law_draw", "_law_told_here", "_law_made", "_law_sorts_here", "_law_rows_here", "_law_held", "_law_sort", "_law_number_here", "_law_step", "_law_title", "_law_due", "_law_spot", "_law_bad", "_law_later", "_law_works", "_law_work"]
theorem scRr7 : FnScope NRr7 ["_law_draw", "_law_told_here", "_law_made"] (defScope sLRight) := ⟨rfl, rfl, rfl, by decide +kernel, rfl, by decide +kernel, by decide +kernel⟩
abbrev eNon : Expr := .Constant .none 0 ⟨0, 0, 0, 0⟩
def lamIn : Expr → Expr
  | .List (e :: _) _ => e
  | .Call _ (e :: _) _ _ => e
  | e => e
def valOf : Stmt → Expr
  | .Assign _ v _ => v
  | .Expr v _ => v
  | _ => eNon
def lamPs : Expr → Arguments
  | .Lambda p _ _ _ => p
  | _ => defArgs sLRight
def lamBd : Expr → Expr
  | .Lambda _ b _ _ => b
  | e => e
def lamSc : Expr → Scope
  | .Lambda _ _ s _ => s
  | _ => defScope sLRight
abbrev lamE1 : Expr := lamIn (valOf ((defBody sLRight).getD 10 (.Pass ⟨0, 0, 0, 0⟩)))
abbrev lamE2 : Expr := lamIn (valOf ((defBody sLRight).getD 11 (.Pass ⟨0, 0, 0, 0⟩)))
abbrev lamP1 : Arguments := lamPs lamE1
abbrev lamB1 : Expr := lamBd lamE1
abbrev lamS1 : Scope := lamSc lamE1
abbrev lamP2 : Arguments := lamPs lamE2
abbrev lamB2 : Expr := lamBd lamE2
abbrev lamS2 : Scope := lamSc lamE2
def lcOf : Stmt → Scope
  | .Return (some (.Compare (.ListComp _ _ s _) _ _ _)) _ => s
  | _ => defScope sLRight
abbrev lcSc : Scope := lcOf ((defBody sLRight).getD 12 (.Pass ⟨0, 0, 0, 0⟩))
def spLRight7 (T : List (Addr × Str)) (C : Addr) : Sp := fun vs H Q _ => ∃ d l c td p m, vs = [.ref d, .ref td, .ref p] ∧ Drw H d l c ∧ Tabs T H ∧ ToldAt (cut d l H) td m ∧ LoopAt C (cut d l H) p m ∧ LoopOk m ∧ ∀ H', Drw H' d l c → Tabs T H' → ButN d l H H' → Q (.bl true) H'
/-- values by name, the names in order -/
def HDk (H : Hp) (a : Addr) (env : Env1) (names : List Str) : Prop := ∃ kv, H a = some (.dK kv) ∧ LD kv env names ∧ kv.length ≤ 900 ∧ kv.map (·.1) = names.map Sum.inr
theorem valV_in {kv : List (Key × V)} {k : Key} (h : valV kv k = none) : k ∉ kv.map (·.1) := fun z => by
  unfold valV at h
  rw [Option.map_eq_none_iff, List.find?_eq_none] at h
  obtain ⟨p, hp, e⟩ := List.mem_map.mp z
  exact h p hp (decide_eq_true e)
theorem nokind_ti : ("nokind" : Str) ∉ TI := by decide +kernel
theorem cut_from {ys : List V} {n : Nat} : cutV ys (some (n : Int)) none = ys.drop n := by
  unfold cutV
  rw [HT.sIx_none, HT.sIx_nat]
  by_cases h : n ≤ ys.length
  · rw [Nat.min_eq_left h, List.take_of_length_le (by rw [List.length_drop]; omega)]
  · rw [Nat.min_eq_right (by omega), List.drop_of_length_le (Nat.le_refl _), List.drop_of_length_le (by omega), List.take_nil]
section
variable {P : Program} {w : World} {K : PySem.W.Frag} {mg : Str → Option Value} {base : Heap}
theorem ok_lright7 {T : List (Addr × Str)} {C CR CS Pt c0 f fT fP fR fW fL fC fA fH : Addr} {fd fdT fdP fdR fdW fdL fdC fdA fdH : FuncData} (F : FunC K "_law_rows_right" "_law_rows_right" sLRight f fd c0) (TB : TabB base mg c0 Pt) (hT1 : (Pt, ("_law_rows_right.<locals>." : Str) ++ "<lambda>") ∈ T) (hT2 : ∀ p ∈ T, p.1 = Pt → p.2 = ("_law_rows_right.<locals>." : Str) ++ "<lambda>")
    (tx : PTxt K C) (ER : ETxt K mg CS "BadRows" CR "at") (gS : mg "StillError" = some (.ref CS))
    (GT : FnOk P w K mg base CX0 2 fT fdT ["_law_draw", "_law_amount"] spTake) (kT : PySem.W.keepIn K (.ref fT) = true) (bT : Binds K fdT ["_law_draw", "_law_amount"] []) (gT : mg "_law_take" = some (.ref fT))
    (GP : FnOk P w K mg base CX0 3 fP fdP ["_law_draw", "_law_some"] spPick) (kP : PySem.W.keepIn K (.ref fP) = true) (bP : Binds K fdP ["_law_draw", "_law_some"] []) (gP : mg "_law_pick" = some (.ref fP))
    (GR : FnOk P w K mg base CX0 4 fR fdR ["_law_draw", "_law_model", "_law_most"] spLRows) (kR : PySem.W.keepIn K (.ref fR) = true) (bR : Binds K fdR ["_law_draw", "_law_model", "_law_most"] []) (gR : mg "_law_rows" = some (.ref fR))
    (GW : FnOk P w K mg base CX0 1 fW fdW ["_law_some", "_law_held", "_law_number_here"] spLWo) (kW : PySem.W.keepIn K (.ref fW) = true) (bW : Binds K fdW ["_law_some", "_law_held", "_law_number_here"] []) (gW : mg "_law_worth" = some (.ref fW))
    (GL : FnOk P w K mg base CX0 2 fL fdL ["_law_told_here", "_law_rows_here"] spLRe) (kL : PySem.W.keepIn K (.ref fL) = true) (bL : Binds K fdL ["_law_told_here", "_law_rows_here"] []) (gL : mg "_law_loop_reply" = some (.ref fL))
    (FC : Fun K "_law_caught" "_law_caught" sCaught fC fdC) (bC : Binds K fdC ["_law_work"] []) (gC : mg "_law_caught" = some (.ref fC))
    (GA : FnOk P w K mg base (L2.CX P w) 4 fA fdA ["self", "rows"] (spRw C CR goodA)) (bA : Binds K fdA ["self", "rows"] []) (bAk : ∀ (s : Shared) (u v : Value), BindsTo s fdA ⟨[u], [("rows", v)]⟩ [("self", u), ("rows", v)]) (mA : Meth K C "answer" fA)
    (GH : FnOk P w K mg base (L2.CX P w) 4 fH fdH ["self", "rows"] (spRw C CR goodH)) (bH : Binds K fdH ["self", "rows"] []) (bHk : ∀ (s : Shared) (u v : Value), BindsTo s fdH ⟨[u], [("rows", v)]⟩ [("self", u), ("rows", v)]) (mH : Meth K C "held" fH)
    (ms : mg "sorted" = none) (md : mg "dict" = none) (ml : mg "list" = none) (mn : mg "len" = none) (mi : mg "isinstance" = none) (mr : mg "repr" = none) :
    FnOkG P w K mg base CX0 9 f fd ["_law_draw", "_law_told_here", "_law_made"] (spLRight7 T C) := by
  have S := scRr7
  obtain ⟨ocC, odC, kVC, docC, pmC, anC, cdC, ctC, oslC, rfl, lkC, hcC⟩ := FC.ex
  obtain ⟨oc, od, kV, doc, pm, an, ct, osl, rfl, lk, hcd⟩ := F.ex
  refine okG_of lk hcd S (fun vs H Q E h => ?_) fun A outer s H vs Q E hr hg0 h => ?_
  · obtain ⟨d, l, c, td, p, m, rfl, _⟩ := h
    rfl
  · suffices z : ∃ t, PSs (cxOf CX0 P w K mg base NRr7 "_law_rows_right" (defScope sLRight) f (.ref c0) A outer s H E).nox (defBody sLRight) t ∧ t { nx := fun _ H' => Q .non H', rt := Q } (start NRr7 vs) H by
      obtain ⟨t, ht, hq⟩ := z
      exact ⟨t, ht.nox, hq⟩
    have hgd : (cxOf CX0 P w K mg base NRr7 "_law_rows_right" (defScope sLRight) f (.ref c0) A outer s H E).nox.A.guards = some [] := hg0
    obtain ⟨d, l, c, td, p, m, rfl, D, hT, htd, hp, ok, q⟩ := h
    have hu := hu_of hr
    have hr4 := hr.mono (show 4 ≤ 8 by decide)
    have hr3 := hr.mono (show 3 ≤ 8 by decide)
    have hr2 := hr.mono (show 2 ≤ 8 by decide)
    have hr1 := hr.mono (show 1 ≤ 8 by decide)
    refine ⟨_, (pss_cons (ps_set (i := 3) S.nd rfl (.inl rfl) (pe_callB (show CallR _ (.builtin "sorted") rSD from call_sortedD rfl) (by rfl) ms (by decide +kernel) (pa_cons (pe_dget hu (pv 1) pe_str (fun _ _ => rfl)) pa_nil)))
      (pss_cons (ps_set (i := 4) S.nd rfl (.inl rfl) (pe_call GR hr4 (by rfl) gR kR bR .nil pass0 (pa_cons (pv 0) (pa_cons (pe_disp (pps_cons pe_str (pv 3) pps_nil) rfl rfl (by decide) (by decide)) (pa_cons pe_int pa_nil)))))
      (pss_cons (ps_set (i := 5) S.nd rfl (.inr rfl) (pe_callTy (call_dictP rfl) (by rfl) md (by decide +kernel) (pa_cons (LiI.pe_listItems rfl (pe_dget hu (pv 1) pe_str (fun _ _ => rfl)) (by rfl) ml (by decide +kernel)) pa_nil)))
      (pss_cons (ps_for PassesOwn.never rfl (pi_list (pv 4)) (pg_tup rfl (pgs_cons (pg_name (i := 6) S.nd rfl (.inl rfl)) (pgs_cons (pg_name (i := 7) S.nd rfl (.inr rfl)) pgs_nil)))
        (pss_cons (ps_set (i := 8) S.nd rfl (.inr rfl) (pe_dget hu (pe_dget hu (pv 1) pe_str (fun _ _ => rfl)) (pv 6) (fun _ _ => rfl)))
        (pss_one (ps_set (i := 5) S.nd rfl (.inr rfl) (pe_callTy (call_dictP rfl) (by rfl) md (by decide +kernel) (pa_cons (pe_lc (own := [("_law_title", 9)]) (g := gName 9) rfl S.nd (pi_list (pe_callB (show CallR _ (.builtin "sorted") rSD from call_sortedD rfl) (by rfl) ms (by decide +kernel) (pa_cons (pv 8) pa_nil))) (blkOk_by (N := NRr7) (sc := defScope sLRight) (by decide +kernel)) (fun _ _ _ _ _ => (pg_name (i := 9) S.nd rfl (.inl rfl))) (fun _ _ _ _ _ => pts_nil) (fun _ _ _ _ _ => (pe_tup (pa_cons (pv 9) (pa_cons (pe_call GW hr1 (by rfl) gW kW bW .nil pass0 (pa_cons (pe_dget hu (pv 8) (pv 9) (fun _ _ => rfl)) (pa_cons (pv 5) (pa_cons (pv 7) pa_nil)))) pa_nil))))) pa_nil))))))
      (pss_cons (ps_set (i := 10) S.nd rfl (.inl rfl) (pe_callTy (call_dictP rfl) (by rfl) md (by decide +kernel) (pa_cons (pe_lc (own := [("_law_title", 9)]) (g := gName 9) rfl S.nd (pi_list (pe_callB (show CallR _ (.builtin "sorted") rSD from call_sortedD rfl) (by rfl) ms (by decide +kernel) (pa_cons (pv 5) pa_nil))) (blkOk_by (N := NRr7) (sc := defScope sLRight) (by decide +kernel)) (fun _ _ _ _ _ => (pg_name (i := 9) S.nd rfl (.inl rfl))) (fun _ _ _ _ _ => pts_nil) (fun _ _ _ _ _ => (pe_tup (pa_cons (pv 9) (pa_cons (pe_dget hu (pv 5) (pv 9) (fun _ _ => rfl)) pa_nil))))) pa_nil)))
      (pss_cons (ps_if (pt_cmpR op_ne (pe_callB (show CallR _ (.builtin "repr") (Rp.rRp K) from Rp.call_rp hgd hr.units) (by rfl) mr PyProof.Rows.boot_repr (pa_cons (pe_methK (pv 2) tx.cl mH GH hr4 bHk (passes_call L2.takes0 fun _ _ _ _ h => h) (pv 4)) pa_nil)) (pe_callB (show CallR _ (.builtin "repr") (Rp.rRp K) from Rp.call_rp hgd hr.units) (by rfl) mr PyProof.Rows.boot_repr (pa_cons (pv 10) pa_nil)) (nomark _)) (pss_one (ps_ret pe_bl)) pss_nil)
      (pss_cons (ps_if (pt_cmpR op_ne (pe_meth (pv 2) tx.cl mA GA hr4 bA .nil (passes_call L2.takes0 fun _ _ _ _ h => h) (pa_cons (pv 4) pa_nil)) (pe_call GL hr2 (by rfl) gL kL bL .nil pass0 (pa_cons (pv 1) (pa_cons (pv 4) pa_nil))) (nomark _)) (pss_one (ps_ret pe_bl)) pss_nil)
      (pss_cons (ps_set (i := 11) S.nd rfl (.inl rfl) (pe_call GT hr2 (by rfl) gT kT bT .nil pass0 (pa_cons (pv 0) (pa_cons (pe_op op_add (pe_callB call_len_seq (by rfl) mn PySem.boot_len (pa_cons (pv 4) pa_nil)) pe_int) pa_nil))))
      (pss_cons (ps_set (i := 12) S.nd rfl (.inl rfl) (pe_call GP hr3 (by rfl) gP kP bP .nil pass0 (pa_cons (pv 0) (pa_cons (pe_lst (pa_cons pe_non (pa_cons (pe_tup (pa_cons pe_str (pa_cons pe_int pa_nil))) (pa_cons (pe_tup (pa_cons (pe_ix ix_list (pv 3) pe_int (fun _ _ => rfl)) (pa_cons pe_non pa_nil))) (pa_cons (pe_lst (pa_cons (pe_ix ix_list (pv 3) pe_int (fun _ _ => rfl)) (pa_cons pe_int pa_nil))) (pa_cons (pe_tup (pa_cons (pe_ix ix_list (pv 3) pe_int (fun _ _ => rfl)) (pa_cons pe_bl pa_nil))) (pa_cons (pe_tup pa_nil) pa_nil))))))) pa_nil))))
      (pss_cons (ps_set (i := 13) S.nd rfl (.inr rfl) (pe_op op_cat (pe_op op_cat (pe_op op_cat (pe_slice sl_list (pv 4) po_none (po_some (pv 11))) (pe_lst (pa_cons (pv 12) pa_nil))) (pe_slice sl_list (pv 4) (po_some (pv 11)) po_none)) (pe_lst (pa_cons pe_non pa_nil))))
      (pss_cons (ps_set (i := 14) S.nd rfl (.inl rfl) (pe_lst (pa_cons (HLam.pe_lamkept (T := T) TB rfl hT1 hT2 (lamS_by (by show lamSB (defScope sLRight) _ = true; decide +kernel)) (by rfl)) pa_nil)))
      (pss_cons (ps_expr (pe_bm PySem.F.plainAttrs_list PySem.F.slot_list_append PySem.F.type_list_append mt_append (pv 14) (pa_cons (HLam.pe_lamkept (T := T) TB rfl hT1 hT2 (lamS_by (by show lamSB (defScope sLRight) _ = true; decide +kernel)) (by rfl)) pa_nil)))
      (pss_one (ps_ret (pe_cmpR (op_eqD hr.units) (pe_lcI (own := [("_law_work", 15)]) (g := gName 15) rfl S.nd (pi_list (pv 14)) (blkOk_by (N := NRr7) (sc := defScope sLRight) (by decide +kernel)) (fun _ _ _ _ _ => pg_name (i := 15) S.nd rfl (.inl rfl)) (fun pinsB σB sB HB aB clB fpB I0 hfp => ⟨pts_one (pt_val (pe_callB (show CallR _ (.builtin "isinstance") (rIsq K) from call_isq) (by rfl) mi PyProof.Rows.boot_isinstance (pa_cons (HLam.pe_or (pe_heldcall (TT := TCaught K CS) (k := 6) (params := lamP1) (body := lamB1) (scope := lamS1) (scopeB := lcSc) (ce := compEnvC lcSc clB aB (cxOf CX0 P w K mg base NRr7 "_law_rows_right" (defScope sLRight) f (.ref c0) A outer s H E).nox.env) (fp := fpB) I0 hfp (by rfl) gC FC.kp lkC hcC bC scCa rfl (.inl rfl) (caught_gives gS) hr (lamS_by (by show lamSB (defScope sLRight) _ = true; decide +kernel)) (pv 15) rfl rfl (fun _ _ _ _ _ => rfl) (fun A outer s H E f c' hrL => pe_methK (pv 2) tx.cl mA GA (hrL.mono (by decide)) bAk (passes_call (takes_of rfl rfl rfl rfl) fun _ _ _ _ h => h) (pv 13))) (pe_heldcall (TT := TCaught K CS) (k := 6) (params := lamP2) (body := lamB2) (scope := lamS2) (scopeB := lcSc) (ce := compEnvC lcSc clB aB (cxOf CX0 P w K mg base NRr7 "_law_rows_right" (defScope sLRight) f (.ref c0) A outer s H E).nox.env) (fp := fpB) I0 hfp (by rfl) gC FC.kp lkC hcC bC scCa rfl (.inl rfl) (caught_gives gS) hr (lamS_by (by show lamSB (defScope sLRight) _ = true; decide +kernel)) (pv 15) rfl rfl (fun _ _ _ _ _ => rfl) (fun A outer s H E f c' hrL => pe_meth (pv 2) tx.cl mH GH (hrL.mono (by decide)) bH .nil (passes_call (takes_of rfl rfl rfl rfl) fun _ _ _ _ h => h) (pa_cons (pv 13) pa_nil)))) (pa_cons (pe_glob (v := .ref CR) (by rfl) ER.glob rfl) pa_nil)))), (show PE _ _ (tAttq K "at" _) from pe_attq (HLam.pe_or (pe_heldcall (TT := TCaught K CS) (k := 6) (params := lamP1) (body := lamB1) (scope := lamS1) (scopeB := lcSc) (ce := compEnvC lcSc clB aB (cxOf CX0 P w K mg base NRr7 "_law_rows_right" (defScope sLRight) f (.ref c0) A outer s H E).nox.env) (fp := fpB) I0 hfp (by rfl) gC FC.kp lkC hcC bC scCa rfl (.inl rfl) (caught_gives gS) hr (lamS_by (by show lamSB (defScope sLRight) _ = true; decide +kernel)) (pv 15) rfl rfl (fun _ _ _ _ _ => rfl) (fun A outer s H E f c' hrL => pe_methK (pv 2) tx.cl mA GA (hrL.mono (by decide)) bAk (passes_call (takes_of rfl rfl rfl rfl) fun _ _ _ _ h => h) (pv 13))) (pe_heldcall (TT := TCaught K CS) (k := 6) (params := lamP2) (body := lamB2) (scope := lamS2) (scopeB := lcSc) (ce := compEnvC lcSc clB aB (cxOf CX0 P w K mg base NRr7 "_law_rows_right" (defScope sLRight) f (.ref c0) A outer s H E).nox.env) (fp := fpB) I0 hfp (by rfl) gC FC.kp lkC hcC bC scCa rfl (.inl rfl) (caught_gives gS) hr (lamS_by (by show lamSB (defScope sLRight) _ = true; decide +kernel)) (pv 15) rfl rfl (fun _ _ _ _ _ => rfl) (fun A outer s H E f c' hrL => pe_meth (pv 2) tx.cl mH GH (hrL.mono (by decide)) bH .nil (passes_call (takes_of rfl rfl rfl rfl) fun _ _ _ _ h => h) (pa_cons (pv 13) pa_nil)))))⟩)) (pe_lst (pa_cons (pv 11) (pa_cons (pv 11) pa_nil))) (nomark _)))))))))))))))), ?_⟩
    obtain ⟨kt0, sd0, st0, ls, htd1, v1, v2, v3, hsd, hst, hls⟩ := id htd.ex
    obtain ⟨n1d, n1l, htdH⟩ := cut_ne htd1
    obtain ⟨ks0, hks0, hkp0⟩ := id hsd
    obtain ⟨kt, hkt, hktp⟩ := id hst
    obtain ⟨n2d, n2l, hksH⟩ := cut_ne hks0
    obtain ⟨n3d, n3l, hktH⟩ := cut_ne hkt
    have nkn := ok.kn.n3
    have nnm := ok.nm.n3
    have lens : LenOk m := hst.lens
    have htd0 := htd.same cut_le
    refine ⟨_, rfl, td, _, rfl, v2 ▸ DGet.k (k := Sum.inr "steps") htdH, st0, kt, m.steps.map (·.1), rfl, .inl hktH, hktp.keys, by omega, fun ys so perm srt nso => ?_⟩
    obtain rfl : ys = m.steps.map (·.1) := sorted_one perm srt ok.kn.ti.so ok.kn.ti.inT
    have s1 : Same H (upd H so (.lst ((m.steps.map (·.1)).map V.str))) := same_new nso
    have eso1 : (upd H so (.lst ((m.steps.map (·.1)).map V.str))) so = some (.lst ((m.steps.map (·.1)).map V.str)) := upd_same
    have offSo := D.off nso
    generalize upd H so (.lst ((m.steps.map (·.1)).map V.str)) = H1 at s1 eso1 ⊢
    -- the rows
    refine ⟨_, rfl, fun mo nmo => ⟨_, rfl, upd_same, [(.inr "sorts", .ref so)], rfl, by show 1 ≤ 15; decide, ?_⟩⟩
    rw [upd_upd]
    have em : mergeK [] [((.inr "sorts" : Key), V.ref so)] = [((.inr "sorts" : Key), V.ref so)] := by kernel_rfl
    rw [em]
    have s2 : Same H1 (upd H1 mo (.dK [(.inr "sorts", .ref so)])) := same_new nmo
    have emo : (upd H1 mo (.dK [(.inr "sorts", .ref so)])) mo = some (.dK [(.inr "sorts", .ref so)]) := upd_same
    generalize upd H1 mo (.dK [(.inr "sorts", .ref so)]) = H2 at s2 emo ⊢
    have u2 := s1.trans s2
    have D2 := D.same u2
    refine ⟨d, l, c, mo, so, m.steps.map (·.1), 6, rfl, D2, emo, s2 _ _ eso1, offSo.2, Nat.lt_of_lt_of_le Nat.zero_lt_one ok.kn.n1, by omega, by decide, fun rl rs ws H3 D3 B3 nrl hrl rlL lz => ?_⟩
    have lw := rlL.len
    have hrows : RowsIn m ws := fun r hr => ⟨rlL.names r hr, rlL.bnd r hr⟩
    have B03 : But d l H H3 := (But.of u2).trans B3
    have BN3 := B03.n
    have T3 := tabs_but (hT.ext u2) D2 B3
    have eso3 := B3 _ _ (s2 _ _ eso1) offSo.1 offSo.2
    have nrH : H rl = none := u2.free nrl
    have offr := D.off nrH
    have htd3 := htd.same B03.cut
    have hp3 := hp.same B03.cut
    have hrt := rlL.rowT
    clear emo em B3
    obtain ⟨kt1, sd1, st1, ls1, htd4, w1, w2, w3, hsd4, hst4, hls4⟩ := id (htd3.same cut_le).ex
    obtain ⟨ks4, hks4, hkp4⟩ := id hsd4
    refine ⟨_, rfl, td, _, rfl, w1 ▸ DGet.k (k := Sum.inr "start") htd4, sd1, ks4, rfl, hks4, fun H4 p0 as s4 np0 nas pas hp0 hpr => ⟨p0, as, ks4, rfl, SqL.of hp0, paired_kv hpr, fun h0 nh0 => ?_⟩⟩
    have nd0 : (ks4.map (·.1)).Nodup := by
      rw [hkp4.keys]
      exact List.pairwise_map.mpr (ok.nm.ti.nd.imp fun h z => h (Sum.inr.inj z))
    rw [mergeK_nodup (by rw [List.nil_append]; exact nd0), List.nil_append]
    have s5 : Same H3 (upd H4 h0 (.dK ks4)) := (show Same H3 H4 from s4).trans (same_new nh0)
    have hh0 : HDk (upd H4 h0 (.dK ks4)) h0 (env0 m) m.names := ⟨ks4, upd_same, ld_start ok.nm hkp4, by
      unfold Lm.names at nnm
      rw [List.length_map] at nnm
      have := hkp4.len
      omega, hkp4.keys⟩
    generalize upd H4 h0 (.dK ks4) = H5 at s5 hh0 ⊢
    refine ⟨_, rfl, rl, rfl, ⟨_, SqL.of (s5 _ _ hrl)⟩, for_list (xs := rs) (fun i σ H6 => ∃ hd y6 y7 y8, σ = [some (.ref d), some (.ref td), some (.ref p), some (.ref so), some (.ref rl), some (.ref hd), y6, y7, y8, none, none, none, none, none, none, none] ∧ Same H3 H6 ∧ HDk H6 hd (goE m (ws.take i)) m.names)
      ⟨_, _, _, _, rfl, s5, hh0⟩ (fun i σ H6 _ ⟨_, _, _, _, _, s6, _⟩ => SqL.of (s6 _ _ hrl)) ?_ ?_⟩
    · rintro i x σ H6 hx ⟨hd, y6, y7, y8, rfl, s6, kv, hhd, ld, hvz, hvk⟩
      obtain ⟨a, r, rfl, hrow, hra⟩ := hrt.get hx
      obtain ⟨i1, i2, i3⟩ := hrows r (List.mem_of_getElem? hrow)
      obtain ⟨sm, hsm, hmem⟩ := look_in i1
      obtain ⟨smn, smo⟩ := ok.ss _ hmem
      obtain ⟨kst, hkst, hktp⟩ := hst4.same s6
      obtain ⟨vk, hvk2, b, rfl, kb, hb, hbp⟩ := hktp.get hsm
      have nds : (sm.map (·.1)).Nodup := by rw [smn]; exact ok.nm.ti.nd
      have lsm : sm.length ≤ 3 := by
        have z : (sm.map (·.1)).length ≤ 3 := by rw [smn]; exact nnm
        rw [List.length_map] at z
        exact z
      refine ⟨a, _, rfl, .inl (Rd.same hra s6), rfl, _, _, rfl, _, _, rfl, rfl, ?_⟩
      refine ⟨_, rfl, td, _, rfl, w2 ▸ DGet.k (k := Sum.inr "steps") (s6 _ _ htd4), _, rfl, st1, _, rfl, hvk2 ▸ DGet.k (k := Sum.inr r.1) hkst, ?_⟩
      refine ⟨_, rfl, b, kb, sm.map (·.1), rfl, .inl hb, hbp.keys, by rw [List.length_map]; omega, fun ys lp perm srt nlp => ?_⟩
      obtain rfl : ys = sm.map (·.1) := sorted_one perm srt (by rw [smn]; exact ok.nm.ti.so) (by rw [smn]; exact ok.nm.ti.inT)
      have s7 : Same H6 (upd H6 lp (.lst ((sm.map (·.1)).map V.str))) := same_new nlp
      have hlp : (upd H6 lp (.lst ((sm.map (·.1)).map V.str))) lp = some (.lst ((sm.map (·.1)).map V.str)) := upd_same
      generalize upd H6 lp (.lst ((sm.map (·.1)).map V.str)) = H7 at s7 hlp ⊢
      let kvs : List (Key × V) := sm.map fun q => (Sum.inr q.1, V.int (worthF q.2 (goE m (ws.take i)) (pwF r.2)))
      have lkv : kvs.length = sm.length := List.length_map ..
      refine ⟨lp, rfl, ⟨_, SqL.of hlp⟩, fun D nD => lc_it (D := D) walk_list (PT H7 D kvs) (PT.zero nD) (fun i H' _ p => SqL.of (p.1 _ _ hlp)) ?_ ?_⟩
      · rintro j x H9 H8 hj pp ⟨rfl, hx2⟩
        rw [List.getElem?_map, List.getElem?_map] at hx2
        obtain ⟨nm, hnm, rfl⟩ := Option.map_eq_some_iff.mp hx2
        obtain ⟨q0, hts, e0⟩ := Option.map_eq_some_iff.mp hnm
        have hj2 : j < sm.length := (List.getElem?_eq_some_iff.mp hts).1
        obtain ⟨nm2, ts⟩ := q0
        obtain rfl : nm2 = nm := e0
        obtain ⟨v0, hv0, hv1⟩ := hbp.there hts
        obtain ⟨t, rfl, ht⟩ := hv1
        have hval2 : valV kb (.inr nm2) = some (.ref t) := val_nodup (by rw [hbp.keys]; exact List.pairwise_map.mpr (nds.imp fun h z => h (Sum.inr.inj z))) _ (List.mem_of_getElem? hv0)
        refine ⟨rfl, ?_⟩
        dsimp only [tYes]
        rw [if_pos rfl]
        have s8 := s7.trans pp.1
        refine ⟨_, rfl, _, rfl, _, rfl, b, _, rfl, hval2 ▸ DGet.k (k := Sum.inr nm2) (s8 _ _ hb), _, rfl, _, rfl, t, hd, r.2, ts, kv, goE m (ws.take i), m.names, rfl, ht.same s8, s8 _ _ hhd, ld, smo _ (List.mem_of_getElem? hts), i2, i3, fun H10 s10 => ?_⟩
        refine ⟨by show 2 ≤ sizeLine; decide, fun tt ntt => ?_⟩
        refine pp.step (k := .inr nm2) (v := V.int (worthF ts (goE m (ws.take i)) (pwF r.2))) s10 nD ntt (by omega) ?_
        show (sm.map _)[j]? = _
        rw [List.getElem?_map, hts]
        rfl
      · intro H8 pp
        rw [List.length_map, List.length_map, ← lkv] at pp
        obtain ⟨as2, hD, hpr2⟩ := pp.all
        refine ⟨D, as2, kvs, rfl, SqL.of hD, paired_kv hpr2, fun h5 nh5 => ?_⟩
        have ndk : (kvs.map (·.1)).Nodup := by
          have e : kvs.map (·.1) = (sm.map (·.1)).map Sum.inr := by
            show (sm.map _).map _ = _
            rw [List.map_map, List.map_map]
            rfl
          rw [e]
          exact List.pairwise_map.mpr (nds.imp fun h z => h (Sum.inr.inj z))
        rw [mergeK_nodup (by rw [List.nil_append]; exact ndk), List.nil_append]
        have hkv : KvP (fun v ts => v = V.int (worthF ts (goE m (ws.take i)) (pwF r.2))) kvs sm := kvp_map (fun ts => V.int (worthF ts (goE m (ws.take i)) (pwF r.2))) sm
        refine ⟨h5, _, _, _, rfl, ((s6.trans s7).trans pp.1).trans (same_new nh5), kvs, upd_same, ?_, by rw [lkv]; omega, by rw [hkv.keys, smn]⟩
        rw [goE_succ hrow]
        exact ld_step ok hsm smn hkv
    · rintro σ H6 ⟨hd, y6, y7, y8, rfl, s6, kv, hhd, ld, hvz, hvk⟩
      rw [hrt.len, List.take_length] at ld
      -- what is due
      refine ⟨_, rfl, hd, kv, m.names, rfl, .inl hhd, hvk, by omega, fun ys lp perm srt nlp => ?_⟩
      obtain rfl : ys = m.names := sorted_one perm srt ok.nm.ti.so ok.nm.ti.inT
      have s7 : Same H6 (upd H6 lp (.lst (m.names.map V.str))) := same_new nlp
      have hlp : (upd H6 lp (.lst (m.names.map V.str))) lp = some (.lst (m.names.map V.str)) := upd_same
      generalize upd H6 lp (.lst (m.names.map V.str)) = H7 at s7 hlp ⊢
      let kvs : List (Key × V) := (heldL m ws).map fun q => (Sum.inr q.1, V.int q.2)
      have lkv : kvs.length = m.names.length := by
        show ((m.names.map _).map _).length = _
        rw [List.length_map, List.length_map]
      refine ⟨lp, rfl, ⟨_, SqL.of hlp⟩, fun Dl nD => lc_it (D := Dl) walk_list (PT H7 Dl kvs) (PT.zero nD) (fun i H' _ p => SqL.of (p.1 _ _ hlp)) ?_ ?_⟩
      · rintro j x H9 H8 hj pp ⟨rfl, hx2⟩
        rw [List.getElem?_map] at hx2
        obtain ⟨nm, hnm, rfl⟩ := Option.map_eq_some_iff.mp hx2
        refine ⟨rfl, ?_⟩
        dsimp only [tYes]
        rw [if_pos rfl]
        have mem := List.mem_of_getElem? hnm
        have hj2 : j < m.names.length := (List.getElem?_eq_some_iff.mp hnm).1
        have hv0 : valV kv (.inr nm) = some (.int (goE m ws nm)) := by
          have z := ld nm (.inr mem)
          cases e : valV kv (.inr nm) with
          | none =>
            have y : (Sum.inr nm : Key) ∈ kv.map (·.1) := by rw [hvk]; exact List.mem_map.mpr ⟨_, mem, rfl⟩
            exact absurd y (valV_in e)
          | some v =>
            rw [e] at z
            exact congrArg some z
        refine ⟨_, rfl, _, rfl, _, rfl, hd, _, rfl, hv0 ▸ DGet.k (k := Sum.inr nm) ((s7.trans pp.1) _ _ hhd), by show 2 ≤ sizeLine; decide, fun tt ntt => ?_⟩
        refine pp.step (k := .inr nm) (v := V.int (goE m ws nm)) (Same.refl _) nD ntt (by omega) ?_
        show ((m.names.map _).map _)[j]? = _
        rw [List.getElem?_map, List.getElem?_map, hnm]
        rfl
      · intro H8 pp
        rw [List.length_map, ← lkv] at pp
        obtain ⟨as2, hD, hpr2⟩ := pp.all
        refine ⟨Dl, as2, kvs, rfl, SqL.of hD, paired_kv hpr2, fun du ndu => ?_⟩
        have hkv : KvP IntR kvs (heldL m ws) := kvp_map (fun i => V.int i) (heldL m ws)
        have hln : (heldL m ws).map (·.1) = m.names := by
          unfold heldL
          rw [List.map_map]
          exact List.map_id _
        have ndk : (kvs.map (·.1)).Nodup := by
          rw [hkv.keys, hln]
          exact List.pairwise_map.mpr (ok.nm.ti.nd.imp fun h z => h (Sum.inr.inj z))
        rw [mergeK_nodup (by rw [List.nil_append]; exact ndk), List.nil_append]
        have s9 : Same H3 (upd H8 du (.dK kvs)) := ((s6.trans s7).trans pp.1).trans (same_new ndu)
        have hdue : IntD (upd H8 du (.dK kvs)) du (heldL m ws) := ⟨kvs, upd_same, hkv⟩
        generalize upd H8 du (.dK kvs) = H9 at s9 hdue ⊢
        obtain ⟨dx, sdp, stp, lsp, hi3, _⟩ := id hp3.ex
        have hpL := hp3.same cut_le
        have hi3 := cut_le _ _ hi3
        have noA : (lflds sdp stp lsp).lookup ("answer" : Str) = none := by kernel_rfl
        have noH : (lflds sdp stp lsp).lookup ("held" : Str) = none := by kernel_rfl
        have smk : ∀ t ∈ m.steps.map (·.1), kSm (some (.inr t)) := fun t ht => ok.kn.sm t ht
        have h900 : rs.length ≤ 900 := by omega
        have isR : ∀ {Hx : Hp}, Same H3 Hx → Is Hx (.ref rl) (.lst (ws.map rowW)) := fun {Hx} s => .lst h900 (s _ _ hrl) ((rlL.same s).isAll smk)
        have fine : ∀ {Hx : Hp}, Same H3 Hx → ∀ ks : List (Key × V), ks.map (·.1) = (m.steps.map (·.1)).map Sum.inr → ∃ w, Is Hx (.ref rl) w ∧ badAt ks w = none := fun s ks hk => ⟨_, isR s, (bad_none (row_ok hk rlL.names)).1⟩
        have shw : (intsD (heldL m ws)).showable = true ∧ (intsD (heldL m ws)).depth ≤ 60 ∧ (intsD (heldL m ws)).shown.length ≤ sizeLine := intsD_show (fun q hq => by
          obtain ⟨t, ht, rfl⟩ := List.mem_map.mp hq
          exact ⟨ok.nm.ti.inT t ht, goE_le ok lens hrows (by omega) t⟩) (by show (m.names.map _).length ≤ 3; rw [List.length_map]; exact nnm)
        refine ⟨_, rfl, p, dx, _, rfl, s9 _ _ hi3, noH, _, rfl, _, rfl, p, m, .ref rl, rfl, hpL.same s9, ok, .inr ⟨rl, rs, ws, rfl, .inl (s9 _ _ hrl), hrt.same s9, h900, hrows, fine s9, fun qa Ha sa hqa => ?_⟩⟩
        refine ⟨.ref qa, intsD (heldL m ws), rfl, (intD_ty hqa).tx, shw.1, shw.2.1, shw.2.2, _, rfl, .ref du, intsD (heldL m ws), rfl, (intD_ty (hdue.same sa)).tx, shw.1, shw.2.1, shw.2.2, rfl, false, ?_, iteF ?_⟩
        · show V.bl (!decide _) = _
          rw [decide_eq_true rfl]
          rfl
        have s10 := s9.trans sa
        refine ⟨_, rfl, p, dx, _, rfl, s10 _ _ hi3, noA, _, rfl, p, m, .ref rl, rfl, hpL.same s10, ok, .inr ⟨rl, rs, ws, rfl, .inl (s10 _ _ hrl), hrt.same s10, h900, hrows, fine s10, fun Hb sb => ?_⟩⟩
        have s11 := s10.trans sb
        refine ⟨_, rfl, _, rfl, td, rl, m, rs, ws, rfl, (htd3.same cut_le).same s11, ok, s11 _ _ hrl, hrt.same s11, h900, hrows, fun Hc sc => ⟨rfl, false, ?_, iteF ?_⟩⟩
        · show V.bl (!decide _) = _
          rw [decide_eq_true rfl]
          rfl
        have s12 := s11.trans sc
        clear s9 s10 s11 sa sb sc hdue hqa hhd hlp hpr2 hD pp s7 s6 ndu
        have D12 := D3.same s12
        have BN12 := BN3.trans (But.of s12).n
        have T12 := T3.ext s12
        -- the spot
        refine ⟨_, rfl, _, rfl, rl, _, rfl, .inl (SqL.of (s12 _ _ hrl)), _, _, rfl, rfl, d, l, c, _, rfl, D12, by omega, by omega, fun spot H13 k0 k1 D13 B13 => ?_⟩
        have BN13 := BN12.trans B13.n
        have T13 := tabs_but T12 D12 B13
        have hrl13 := B13 _ _ (s12 _ _ hrl) offr.1 offr.2
        have eso13 := B13 _ _ (s12 _ _ eso3) offSo.1 offSo.2
        obtain ⟨y0, ysr, hy0⟩ : ∃ y0 ysr, m.steps.map (·.1) = y0 :: ysr := by
          have z := ok.kn.n1
          cases e : m.steps.map (·.1) with
          | nil => rw [e] at z; exact absurd z (by decide)
          | cons a b => exact ⟨a, b, rfl⟩
        have sm0 : y0.cps.size ≤ 900 ∧ PyData.strOk y0 = true := smk y0 (by rw [hy0]; exact List.mem_cons_self ..)
        have nok : ("nokind" : Str) ∉ m.steps.map (·.1) := fun z => nokind_ti (ok.kn.ti.inT _ z)
        rw [hy0] at eso13
        -- a bad row
        refine ⟨_, rfl, by show 2 ≤ sizeLine; decide, fun t1 nt1 => ?_⟩
        have s1 : Same H13 (upd H13 t1 (.tup [.str "nokind", .int 1])) := same_new nt1
        have q1 : (upd H13 t1 (.tup [.str "nokind", .int 1])) t1 = some (.tup [.str "nokind", .int 1]) := upd_same
        generalize upd H13 t1 (.tup [.str "nokind", .int 1]) = G1 at s1 q1 ⊢
        refine ⟨_, rfl, so, _, 0, _, rfl, rfl, SqL.of (s1 _ _ eso13), at_of (j := 0) rfl rfl, by show 2 ≤ sizeLine; decide, fun t2 nt2 => ?_⟩
        have s2 : Same G1 (upd G1 t2 (.tup [.str y0, .non])) := same_new nt2
        have q2 : (upd G1 t2 (.tup [.str y0, .non])) t2 = some (.tup [.str y0, .non]) := upd_same
        generalize upd G1 t2 (.tup [.str y0, .non]) = G2 at s2 q2 ⊢
        have v2 := s1.trans s2
        refine ⟨_, rfl, so, _, 0, _, rfl, rfl, SqL.of (v2 _ _ eso13), at_of (j := 0) rfl rfl, by show 2 ≤ sizeLine; decide, fun t3 nt3 => ?_⟩
        have s3 : Same G2 (upd G2 t3 (.lst [.str y0, .int 1])) := same_new nt3
        have q3 : (upd G2 t3 (.lst [.str y0, .int 1])) t3 = some (.lst [.str y0, .int 1]) := upd_same
        generalize upd G2 t3 (.lst [.str y0, .int 1]) = G3 at s3 q3 ⊢
        have v3 := v2.trans s3
        refine ⟨_, rfl, so, _, 0, _, rfl, rfl, SqL.of (v3 _ _ eso13), at_of (j := 0) rfl rfl, by show 2 ≤ sizeLine; decide, fun t4 nt4 => ⟨by show 0 ≤ sizeLine; decide, fun t5 nt5 => ⟨by show 6 ≤ sizeLine; decide, fun po npo => ?_⟩⟩⟩
        have s4 : Same G3 (upd (upd G3 t4 (.tup [.str y0, .bl false])) t5 (.tup [])) := (same_new nt4).trans (same_new nt5)
        have q4 : (upd (upd G3 t4 (.tup [.str y0, .bl false])) t5 (.tup [])) t4 = some (.tup [.str y0, .bl false]) := same_new nt5 _ _ upd_same
        have q5 : (upd (upd G3 t4 (.tup [.str y0, .bl false])) t5 (.tup [])) t5 = some (.tup []) := upd_same
        have m5 : G3 t5 = none := HLam.upd_none nt5
        generalize upd (upd G3 t4 (.tup [.str y0, .bl false])) t5 (.tup []) = G4 at s4 q4 q5 npo ⊢
        have v4 := v3.trans s4
        have m1 : H13 t1 = none := nt1
        have m2 : H13 t2 = none := s1.free nt2
        have m3 : H13 t3 = none := v2.free nt3
        have m4 : H13 t4 = none := v3.free nt4
        have m5 : H13 t5 = none := v3.free m5
        refine pick_new (D13.same v4) (by show 0 < 6; decide) (by show 6 ≤ 1000; decide) (fun y H14 hy D14 B14 => ?_) npo
        have B4 : But d l H13 H14 := (But.of v4).trans B14
        have BN14 := BN13.trans B4.n
        have T14 := tabs_but (T13.ext v4) (D13.same v4) B14
        have up : ∀ {x : Addr} {o : HO}, H13 x = none → G4 x = some o → H14 x = some o := fun n e => B14 _ _ e (D13.off n).1 (D13.off n).2
        have hbad : ∃ wy, Is H14 y wy ∧ ∀ ks : List (Key × V), ks.map (·.1) = (m.steps.map (·.1)).map Sum.inr → isRowW ks wy = false := by
          have two : ∀ {b : Bool} {ks : List (Key × V)} {x : Str}, (isKeyOf ks (.str x) && isNum (.bl b)) = false := fun {b ks x} => by rw [isNum_eq, Bool.and_false]
          simp only [List.mem_cons, List.not_mem_nil, or_false] at hy
          rcases hy with h | h | h | h | h | h
          · rw [h]; exact ⟨_, .non, fun _ _ => rfl⟩
          · rw [h]
            refine ⟨_, .tup (by show 2 ≤ 900; decide) (.inl (up m1 ((s2.trans (s3.trans s4)) _ _ q1))) (.cons (.str _ (by decide) (by decide +kernel)) (.cons (.int _) .nil)), fun ks hk => ?_⟩
            show (isKeyOf ks (.str "nokind") && isNum (.int 1)) = false
            rw [key_in hk, decide_eq_false nok]
            rfl
          · rw [h]
            refine ⟨_, .tup (by show 2 ≤ 900; decide) (.inl (up m2 ((s3.trans s4) _ _ q2))) (.cons (.str _ sm0.1 sm0.2) (.cons .non .nil)), fun ks hk => ?_⟩
            show (isKeyOf ks (.str y0) && isNum .non) = false
            rw [isNum_eq, Bool.and_false]
          · rw [h]
            exact ⟨_, .lst (by show 2 ≤ 900; decide) (up m3 (s4 _ _ q3)) (.cons (.str _ sm0.1 sm0.2) (.cons (.int _) .nil)), fun _ _ => rfl⟩
          · rw [h]
            exact ⟨_, .tup (by show 2 ≤ 900; decide) (.inl (up m4 q4)) (.cons (.str _ sm0.1 sm0.2) (.cons (.bl _) .nil)), fun _ _ => two⟩
          · rw [h]
            exact ⟨_, .tup (by show 0 ≤ 900; decide) (.inl (up m5 q5)) .nil, fun _ _ => rfl⟩
        obtain ⟨wy, hwy, hwb⟩ := hbad
        have hrl14 := B4 _ _ hrl13 offr.1 offr.2
        have rlL14 : RowL H2 H14 (m.steps.map (·.1)) rs ws := rlL.mono fun a xs n e => (B4.tup D13) (B13.tup D12 (s12 _ _ e))
        have hpL14 : LoopAt C H14 p m := (hp.same BN14.cut).same cut_le
        clear up q1 q2 q3 q4 q5 s1 s2 s3 s4 v2 v3 v4 npo m1 m2 m3 m4 m5 nt1 nt2 nt3 nt4 nt5 hy B14 hi3 hpL isR fine
        -- the later rows
        obtain ⟨sn, rfl⟩ : ∃ sn : Nat, spot = (sn : Int) := ⟨spot.toNat, by omega⟩
        have hsn : sn ≤ rs.length := by omega
        refine ⟨_, rfl, _, rfl, (sn : Int), rfl, rl, rs, rfl, SqL.of hrl14, fun e1 ne1 => ?_⟩
        rw [cut_to]
        have s1 : Same H14 (upd H14 e1 (.lst (rs.take sn))) := same_new ne1
        have q1 : (upd H14 e1 (.lst (rs.take sn))) e1 = some (.lst (rs.take sn)) := upd_same
        generalize upd H14 e1 (.lst (rs.take sn)) = G1 at s1 q1 ⊢
        refine ⟨_, rfl, by show 1 ≤ sizeLine; decide, fun e2 ne2 => ⟨e1, e2, _, _, rfl, rfl, same_new ne2 _ _ q1, upd_same, by rw [List.length_take]; exact Nat.le_trans (show min sn rs.length + 1 ≤ 1000 by omega) (by decide), fun e3 ne3 => ?_⟩⟩
        have s2 : Same G1 (upd (upd G1 e2 (.lst [y])) e3 (.lst (rs.take sn ++ [y]))) := (same_new ne2).trans (same_new ne3)
        have q3 : (upd (upd G1 e2 (.lst [y])) e3 (.lst (rs.take sn ++ [y]))) e3 = some (.lst (rs.take sn ++ [y])) := upd_same
        generalize upd (upd G1 e2 (.lst [y])) e3 (.lst (rs.take sn ++ [y])) = G2 at s2 q3 ⊢
        have v2 := s1.trans s2
        refine ⟨_, rfl, _, rfl, (sn : Int), rfl, rl, rs, rfl, SqL.of (v2 _ _ hrl14), fun e4 ne4 => ?_⟩
        rw [cut_from]
        refine ⟨e3, e4, _, _, rfl, rfl, same_new ne4 _ _ q3, upd_same, by rw [List.length_append, List.length_take, List.length_drop]; exact Nat.le_trans (show min sn rs.length + 1 + (rs.length - sn) ≤ 1000 by omega) (by decide), fun e5 ne5 => ⟨by show 1 ≤ sizeLine; decide, fun e6 ne6 => ?_⟩⟩
        have s3 : Same G2 (upd (upd (upd G2 e4 (.lst (rs.drop sn))) e5 (.lst (rs.take sn ++ [y] ++ rs.drop sn))) e6 (.lst [.non])) := ((same_new ne4).trans (same_new ne5)).trans (same_new ne6)
        have q5 : (upd (upd (upd G2 e4 (.lst (rs.drop sn))) e5 (.lst (rs.take sn ++ [y] ++ rs.drop sn))) e6 (.lst [.non])) e5 = some (.lst (rs.take sn ++ [y] ++ rs.drop sn)) := same_new ne6 _ _ upd_same
        have q6 : (upd (upd (upd G2 e4 (.lst (rs.drop sn))) e5 (.lst (rs.take sn ++ [y] ++ rs.drop sn))) e6 (.lst [.non])) e6 = some (.lst [.non]) := upd_same
        generalize upd (upd (upd G2 e4 (.lst (rs.drop sn))) e5 (.lst (rs.take sn ++ [y] ++ rs.drop sn))) e6 (.lst [.non]) = G3 at s3 q5 q6 ⊢
        have lall : (rs.take sn ++ [y] ++ rs.drop sn ++ [V.non]).length ≤ 900 := by
          rw [List.length_append, List.length_append, List.length_append, List.length_take, List.length_drop]
          show min sn rs.length + 1 + (rs.length - sn) + 1 ≤ 900
          omega
        refine ⟨e5, e6, _, _, rfl, rfl, q5, q6, by rw [← List.length_append]; exact Nat.le_trans lall (by decide), fun lt nlt => ?_⟩
        have s4 : Same G3 (upd G3 lt (.lst (rs.take sn ++ [y] ++ rs.drop sn ++ [.non]))) := same_new nlt
        have ql : (upd G3 lt (.lst (rs.take sn ++ [y] ++ rs.drop sn ++ [.non]))) lt = some (.lst (rs.take sn ++ [y] ++ rs.drop sn ++ [.non])) := upd_same
        generalize upd G3 lt (.lst (rs.take sn ++ [y] ++ rs.drop sn ++ [.non])) = G4 at s4 ql ⊢
        have v4 : Same H14 G4 := (v2.trans s3).trans s4
        have isL : Is G4 (.ref lt) (.lst ((ws.map rowW).take sn ++ [wy] ++ ((ws.map rowW).drop sn ++ [.non]))) := by
          have z := rlL14.isAll smk
          have z2 : IsAll G4 (rs.take sn ++ [y] ++ rs.drop sn ++ [.non]) ((ws.map rowW).take sn ++ [wy] ++ (ws.map rowW).drop sn ++ [.non]) := ((((z.take sn).app (.cons hwy .nil)).app (z.drop sn)).app (.cons .non .nil)).same v4
          rw [List.append_assoc ((ws.map rowW).take sn ++ [wy])] at z2
          exact .lst lall ql z2
        have told : ∀ ks : List (Key × V), ks.map (·.1) = (m.steps.map (·.1)).map Sum.inr → badAt ks (.lst ((ws.map rowW).take sn ++ [wy] ++ ((ws.map rowW).drop sn ++ [.non]))) = some (.int sn) := fun ks hk => by
          rw [bad_at (fun w hw => row_ok hk rlL.names w (List.mem_of_mem_take hw)) (hwb ks hk), List.length_take, List.length_map]
          have z : min sn ws.length = sn := by omega
          rw [z]
        have BN4 := BN14.trans (But.of v4).n
        have D4 := D14.same v4
        have T4 := T14.ext v4
        have hp4 := hpL14.same v4
        clear s1 s2 s3 s4 v2 v4 q1 q3 q5 q6 ql hwy rlL14 hpL14 hrl14 ne1 ne2 ne3 ne4 ne5 ne6 nlt
        -- the works
        refine ⟨T4, fun f1 c1 G5 eN5 T5 back5 nf1 lam1 code1 => ⟨by show 1 ≤ sizeLine; decide, fun wl nwl => ?_⟩⟩
        have s6 : Same G5 (upd G5 wl (.lst [.ref f1])) := same_new nwl
        have ew : (upd G5 wl (.lst [.ref f1])) wl = some (.lst [.ref f1]) := upd_same
        have T6 := T5.ext s6
        have lam1 := s6 _ _ lam1
        have code1 := s6 _ _ code1
        have nwl4 := back5 _ nwl
        generalize upd G5 wl (.lst [.ref f1]) = G6 at s6 ew T6 lam1 code1 ⊢
        refine ⟨_, rfl, .inl ⟨rfl, _, SqL.of ew⟩, T6, fun f2 c2 G7 eN7 T7 back7 nf2 lam2 code2 => ?_⟩
        have ew7 := eN7 _ _ ew (fun _ z => by cases z)
        have lam1 := eN7 _ _ lam1 lamO_ne
        have code1 := eN7 _ _ code1 codeO_ne
        refine ⟨wl, [.ref f1], .ref f2, rfl, rfl, ew7, small1000 (by show 1 ≤ 1000; decide), ?_⟩
        have eN8 : ExtN G4 (upd G7 wl (.lst ([.ref f1] ++ [.ref f2]))) := fun b o e n => by
          rw [upd_ne (ne_of_none e nwl4)]
          exact eN7 _ _ (s6 _ _ (eN5 _ _ e n)) n
        have nlam : ∀ {x : Addr} {Dd : HLam.LD}, G7 x = some (LamO x Dd) → x ≠ wl := fun e z => by rw [z, ew7] at e; unfold LamO at e; cases e
        have ncod : ∀ {x : Addr} {qq : Str}, G7 x = some (CodeO x qq) → x ≠ wl := fun e z => by rw [z, ew7] at e; unfold CodeO at e; cases e
        have T8 : Tabs T (upd G7 wl (.lst ([.ref f1] ++ [.ref f2]))) := tabs_keep T7 fun b o e n _ => by
          rw [upd_ne (fun z => by rw [z, ew7] at e; exact n _ (Option.some.inj e).symm)]
          exact e
        have lam1 := (upd_ne (H := G7) (o := .lst ([.ref f1] ++ [.ref f2])) (nlam lam1)).trans lam1
        have lam2 := (upd_ne (H := G7) (o := .lst ([.ref f1] ++ [.ref f2])) (nlam lam2)).trans lam2
        have code1 := (upd_ne (H := G7) (o := .lst ([.ref f1] ++ [.ref f2])) (ncod code1)).trans code1
        have code2 := (upd_ne (H := G7) (o := .lst ([.ref f1] ++ [.ref f2])) (ncod code2)).trans code2
        have ew8 : (upd G7 wl (.lst ([.ref f1] ++ [.ref f2]))) wl = some (.lst [.ref f1, .ref f2]) := upd_same
        generalize upd G7 wl (.lst ([.ref f1] ++ [.ref f2])) = G8 at eN8 T8 lam1 lam2 code1 code2 ew8 ⊢
        have BN8 : ButN d l H G8 := BN4.trans (.ext eN8)
        have D8 := D4.extN eN8
        have isL8 := is_ext isL eN8
        have hp8 : LoopAt C G8 p m := (hp.same BN8.cut).same cut_le
        obtain ⟨dx8, sd8, st8, ls8, hi8, _⟩ := id hp8.ex
        have noA : (lflds sd8 st8 ls8).lookup ("answer" : Str) = none := by kernel_rfl
        have noH : (lflds sd8 st8 ls8).lookup ("held" : Str) = none := by kernel_rfl
        clear nlam ncod eN7 eN5 back5 back7 ew ew7 T6 T7 T5 s6 nwl isL BN4 D4 T4 hp4
        -- they are asked
        refine ⟨_, rfl, wl, rfl, ⟨_, SqL.of ew8⟩, fun Dl nDl => lc_it (D := Dl) walk_list (fun i H' => Same G8 H' ∧ H' Dl = some (.lst (List.replicate i (.int sn)))) ⟨same_new nDl, upd_same⟩ (fun i H' _ z => SqL.of (z.1 _ _ ew8)) ?_ ?_⟩
        · rintro i x Hz H' hi ⟨sI, eI⟩ ⟨rfl, hx⟩
          refine ⟨rfl, ?_⟩
          rcases (show i = 0 ∨ i = 1 by have : i < 2 := hi; omega) with rfl | rfl
          · obtain rfl : V.ref f1 = x := Option.some.inj hx
            refine .inl ⟨_, rfl, f1, c1, rfl, sI _ _ lam1, sI _ _ code1, sI _ _ lam1, _, rfl, p, dx8, _, rfl, sI _ _ hi8, noA, _, rfl, _, rfl, p, m, .ref lt, rfl, hp8.same sI, ok, .inl ⟨.int sn, fun ks hk => ⟨_, isL8.same sI, told ks hk⟩, fun d1 Hx sx nd1 => ⟨ER.ex, fun a1 na1 => ?_⟩⟩⟩
            have s2 : Same H' (upd (upd Hx d1 (.xd [("at", .int sn)])) a1 (exq a1 (.ref CR) (some d1))) := (sx.trans (same_new nd1)).trans (same_new na1)
            have qa : QAt (upd (upd Hx d1 (.xd [("at", .int sn)])) a1 (exq a1 (.ref CR) (some d1))) a1 CR [("at", .int sn)] := ⟨d1, upd_same, same_new na1 _ _ upd_same⟩
            generalize upd (upd Hx d1 (.xd [("at", .int sn)])) a1 (exq a1 (.ref CR) (some d1)) = Hy at s2 qa ⊢
            have s3 := sI.trans s2
            refine ⟨a1, CR, _, .ref CR, .ref CR, true, rfl, qa, ER.is, .own CR, ER.own, _, rfl, iteT (.inl ⟨_, rfl, f1, c1, rfl, s3 _ _ lam1, s3 _ _ code1, s3 _ _ lam1, _, rfl, p, dx8, _, rfl, s3 _ _ hi8, noA, _, rfl, _, rfl, p, m, .ref lt, rfl, hp8.same s3, ok, .inl ⟨.int sn, fun ks hk => ⟨_, isL8.same s3, told ks hk⟩, fun d2 Hw sw nd2 => ⟨ER.ex, fun a2 na2 => ?_⟩⟩⟩)⟩
            have s4 : Same Hy (upd (upd Hw d2 (.xd [("at", .int sn)])) a2 (exq a2 (.ref CR) (some d2))) := (sw.trans (same_new nd2)).trans (same_new na2)
            have qb : QAt (upd (upd Hw d2 (.xd [("at", .int sn)])) a2 (exq a2 (.ref CR) (some d2))) a2 CR [("at", .int sn)] := ⟨d2, upd_same, same_new na2 _ _ upd_same⟩
            generalize upd (upd Hw d2 (.xd [("at", .int sn)])) a2 (exq a2 (.ref CR) (some d2)) = Hv at s4 qb ⊢
            exact ⟨a2, CR, _, .int sn, rfl, qb, ER.is, ER.no, rfl, _, s4 _ _ (s2 _ _ eI), small1000 (by rw [List.length_replicate]; decide), same_own nDl (s3.trans s4), by rw [upd_same, ← List.replicate_succ']⟩
          · obtain rfl : V.ref f2 = x := Option.some.inj hx
            refine .inr ⟨_, rfl, f2, c2, rfl, sI _ _ lam2, sI _ _ code2, sI _ _ lam2, _, rfl, p, dx8, _, rfl, sI _ _ hi8, noH, _, rfl, p, m, .ref lt, rfl, hp8.same sI, ok, .inl ⟨.int sn, fun ks hk => ⟨_, isL8.same sI, told ks hk⟩, fun d1 Hx sx nd1 => ⟨ER.ex, fun a1 na1 => ?_⟩⟩⟩
            have s2 : Same H' (upd (upd Hx d1 (.xd [("at", .int sn)])) a1 (exq a1 (.ref CR) (some d1))) := (sx.trans (same_new nd1)).trans (same_new na1)
            have qa : QAt (upd (upd Hx d1 (.xd [("at", .int sn)])) a1 (exq a1 (.ref CR) (some d1))) a1 CR [("at", .int sn)] := ⟨d1, upd_same, same_new na1 _ _ upd_same⟩
            generalize upd (upd Hx d1 (.xd [("at", .int sn)])) a1 (exq a1 (.ref CR) (some d1)) = Hy at s2 qa ⊢
            have s3 := sI.trans s2
            refine ⟨a1, CR, _, .ref CR, .ref CR, true, rfl, qa, ER.is, .own CR, ER.own, _, rfl, iteT (.inr ⟨_, rfl, f2, c2, rfl, s3 _ _ lam2, s3 _ _ code2, s3 _ _ lam2, _, rfl, p, dx8, _, rfl, s3 _ _ hi8, noH, _, rfl, p, m, .ref lt, rfl, hp8.same s3, ok, .inl ⟨.int sn, fun ks hk => ⟨_, isL8.same s3, told ks hk⟩, fun d2 Hw sw nd2 => ⟨ER.ex, fun a2 na2 => ?_⟩⟩⟩)⟩
            have s4 : Same Hy (upd (upd Hw d2 (.xd [("at", .int sn)])) a2 (exq a2 (.ref CR) (some d2))) := (sw.trans (same_new nd2)).trans (same_new na2)
            have qb : QAt (upd (upd Hw d2 (.xd [("at", .int sn)])) a2 (exq a2 (.ref CR) (some d2))) a2 CR [("at", .int sn)] := ⟨d2, upd_same, same_new na2 _ _ upd_same⟩
            generalize upd (upd Hw d2 (.xd [("at", .int sn)])) a2 (exq a2 (.ref CR) (some d2)) = Hv at s4 qb ⊢
            exact ⟨a2, CR, _, .int sn, rfl, qb, ER.is, ER.no, rfl, _, s4 _ _ (s2 _ _ eI), small1000 (by rw [List.length_replicate]; decide), same_own nDl (s3.trans s4), by rw [upd_same, ← List.replicate_succ']⟩
        · rintro H' ⟨sI, eI⟩
          have eI : H' Dl = some (.lst [.int sn, .int sn]) := eI
          refine ⟨_, rfl, _, rfl, by show 2 ≤ sizeLine; decide, fun l2 nl2 => ?_⟩
          have s2 : Same H' (upd H' l2 (.lst [.int sn, .int sn])) := same_new nl2
          have sh : SeqAt.shaped (.list [.int (sn : Int), .int (sn : Int)]) = true := ints_shaped [(sn : Int), (sn : Int)]
          refine ⟨.list [.int (sn : Int), .int (sn : Int)], .list [.int (sn : Int), .int (sn : Int)], .lst (SqL.of (s2 _ _ eI)) (.cons (.int _) (.cons (.int _) .nil)), .lst (SqL.of upd_same) (.cons (.int _) (.cons (.int _) .nil)), sh, sh, ?_⟩
          have ev : PyData.eqv (.list [.int (sn : Int), .int (sn : Int)]) (.list [.int (sn : Int), .int (sn : Int)]) = true := by
            simp [PyData.eqv, PyData.eqvAll]
          show Q (.bl (PyData.eqv _ _)) _
          rw [ev]
          have s3 := sI.trans s2
          exact q _ (D8.same s3) (T8.ext s3) (BN8.trans (But.of s3).n)
end
end Kn
-- part Oq
set_option maxHeartbeats 4000000
/-! == and != of an own instance whose class has an __eq__ of its own, whatever it answers. -/
namespace OwnE
open PySem PySem.W PySem.Spec PyProof.Rows
section
variable {prog : Program} {w : World} {A : Around} {E : Value → Shared → Prop} {s : Shared} {K : Frag} {x C f : Addr} {ox : Obj} {od : Option Obj} {b tb : Value}
/-- object.__ne__ asks the own __eq__ -/
theorem call_ne {Q : Value → Shared → Prop} (X : K.In s.heap) (I : InstAt s.heap x ox C od) (hm : mroIn K C (.type "object") = some true) (hs : findIn K (.ref C) "__eq__" = some (some (.ref f))) (hf : isFn K (.ref f) = true) (hu : A.units + 1 < cLine)
    (h : wpAny (model prog w) A.in1 (call (.ref f) [.ref x, b]) (fun v s' => ∃ c, v = .bool c ∧ Q (.bool (!c)) s') E s) : wpAny (model prog w) A (call (.builtin "object.__ne__") [.ref x, b]) Q E s := by
  obtain ⟨hh, g, dr, t, os⟩ := s
  have L0 := I.type (M := model prog w)
  have L1 := looks_mroIn (M := model prog w) X hm
  refine wpAny_call ?_
  refine codeAny_call_builtin (by decide +kernel) F.cmpEntry_ne ?_
  simp only [checkBuiltinCall, F.cmpKind_ne, F.cmpSplit_ne]
  unfold isInstance
  have hu1 : A.in1.units < cLine := hu
  repeat (first | with_reducible refine wpAny_cRoomFor hu1 ?_ | with_reducible refine ifBound_K X I hs hf (wpAny_mono h (fun v s' hv => ?_) fun _ _ e => e) | lk)
  obtain ⟨c, rfl, q⟩ := hv
  show wpAny _ _ (truthy (.bool c) >>= fun r => ret (Value.bool !r)) _ _ _
  exact wpAny_bind (wpAny_truthy_bool (wpAny_pure q))
/-- x != y -/
theorem rc_ne {h₀ : Heap} {L : Addr} {m : Str → Option Value} {Q : Value → Shared → Prop} (fr : Fr h₀ L s.heap m) (X₀ : K.In h₀) (I : InstAt s.heap x ox C od) (hm : mroIn K C (.type "object") = some true) (hs : findIn K (.ref C) "__eq__" = some (some (.ref f))) (hf : isFn K (.ref f) = true)
    (h0 : findIn K (.ref C) "__ne__" = some (some (.builtin "object.__ne__"))) (hu : A.units + 1 < cLine) (hb : Looks (model prog w) s.heap (typeOf b) tb) (hn : notFirst K C tb = true)
    (h : wpAny (model prog w) A.in1 (call (.ref f) [.ref x, b]) (fun v s' => ∃ c, v = .bool c ∧ Q (.bool (!c)) s') E s) : wpAny (model prog w) A (richCompare .NotEq (.ref x) b) Q E s := by
  have X := X₀.keeps fr.keep
  have asked : wpAny (model prog w) A (tryCompare (.ref x) "__ne__" b) (fun r s' => ∃ c, r = some (.bool c) ∧ Q (.bool c) s') E s := by
    unfold tryCompare
    apply wpAny_bind
    simp only [callSpecialIfBound?, bindSpecialIfBound?]
    apply wpAny_holding
    apply wpAny_bind
    apply wpAny_bind
    refine wpAny_bind (I.type.here ((looks_findIn X h0).here ?_))
    refine wpAny_bind (wpAny_askSetting (wpAny_ite ?_))
    have last : ∀ R : Option Value → Shared → Prop, (∀ c s', Q (.bool c) s' → R (some (.bool c)) s') → wpAny (model prog w) A (call (.builtin "object.__ne__") ([.ref x] ++ [b]) >>= fun v => pure (some v)) R E s := fun R hR =>
      wpAny_bind (call_ne (Q := fun v s' => wpAny (model prog w) A (pure (some v)) R E s') X I hm hs hf hu (wpAny_mono h (fun v s' ⟨c, e, q⟩ => ⟨c, e, wpAny_pure (hR _ _ q)⟩) fun _ _ e => e))
    have ty : typeIn K (.builtin "object.__ne__") = some (.type "wrapper_descriptor") := by kernel_rfl
    have bd : Looks (model prog w) s.heap (bindSpecial (.builtin "object.__ne__") (.ref x)) (.builtin "object.__ne__", [.ref x]) := fun A' Q' E' s' k q => by
      unfold bindSpecial
      refine wpAny_bind (looks_typeIn (M := model prog w) X ty A' _ E' s' k ?_)
      exact wpAny_pure q
    split
    · exact wpAny_bind (bd.here (wpAny_pure (last _ fun c s' q => wpAny_pure ⟨c, rfl, q⟩)))
    · exact wpAny_tryCatch (wpAny_bind (bd.here (wpAny_pure (last _ fun c s' q => wpAny_pure ⟨c, rfl, q⟩))))
  unfold richCompare
  simp only [oneThing_ref]
  apply wpAny_holding
  refine wpAny_bind (wpAny_cRoomFor (by omega) ?_)
  refine wpAny_bind (I.type.here ?_)
  refine wpAny_bind (hb.here ?_)
  split
  · rename_i ne
    have no : subIn K tb (.ref C) = some false := by
      unfold notFirst at hn
      cases e : tb == Value.ref C with
      | true =>
        rw [beq_iff_eq.mp e] at ne
        simp at ne
      | false =>
        rw [e, Bool.false_or] at hn
        exact beq_iff_eq.mp hn
    refine wpAny_bind ((looks_subIn X no).here ?_)
    rw [if_neg (by decide)]
    refine wpAny_bind (wpAny_mono asked (fun r s' ⟨c, e, q⟩ => ?_) fun _ _ e => e)
    subst e
    exact wpAny_pure q
  · refine wpAny_bind (wpAny_pure ?_)
    rw [if_neg (by decide)]
    refine wpAny_bind (wpAny_mono asked (fun r s' ⟨c, e, q⟩ => ?_) fun _ _ e => e)
    subst e
    exact wpAny_pure q
end
end OwnE
namespace L2
open PySem PySem.Spec PyProof.Rows
/-- the other side: an instance of the same class, or a dict -/
def Oth (C : Addr) (H : Hp) (y : V) (tb : Value) : Prop := (∃ b dy gs, y = .ref b ∧ H b = some (.ins C dy gs) ∧ tb = .ref C) ∨ ∃ b ks, y = .ref b ∧ H b = some (.dK ks) ∧ tb = .type "dict"
def rEqO (K : PySem.W.Frag) (C : Addr) (sp : Sp) (E : XK) : R2 := fun x y H Q => ∃ a dx fs tb, x = .ref a ∧ H a = some (.ins C dx fs) ∧ Oth C H y tb ∧ PySem.W.notFirst K C tb = true ∧ sp [x, y] H (fun v H' => ∃ c, v = .bl c ∧ Q (.bl c) H') E
def rNeO (K : PySem.W.Frag) (C : Addr) (sp : Sp) (E : XK) : R2 := fun x y H Q => ∃ a dx fs tb, x = .ref a ∧ H a = some (.ins C dx fs) ∧ Oth C H y tb ∧ PySem.W.notFirst K C tb = true ∧ sp [x, y] H (fun v H' => ∃ c, v = .bl c ∧ Q (.bl (!c)) H') E
section
variable {X : Cx} {CX : CXT} {pins : List (Addr × Obj)} {σ : L2.St} {H : Hp} {s : Shared} {C f : Addr} {fd : FuncData} {ps : List Str} {sp : Sp} {E : XK} {n : Nat}
theorem Oth.look {M : Model} {y : V} {u tb : Value} (I : Inv X pins σ H s) (ry : RelV y u) (h : Oth C H y tb) : PySem.W.Looks M s.heap (typeOf u) tb := by
  rcases h with ⟨b, dy, gs, rfl, hb, rfl⟩ | ⟨b, ks, rfl, hb, rfl⟩
  · cases (show u = Value.ref b from ry)
    obtain ⟨mB, J, _⟩ := ins_get I.hok hb
    obtain ⟨od, J, _⟩ := J.look
    exact J.type
  · cases (show u = Value.ref b from ry)
    obtain ⟨_, _, vs, _, dof⟩ := (show ObjOk X.prog X.w H s.heap b (.dK ks) from I.hok b _ hb)
    obtain ⟨o, ho, hc⟩ := dof.typeIs
    exact hc ▸ (PySem.W.Looks.ld ho).andThen .now
theorem op_eqO (F : FnOk X.prog X.w X.K X.mg X.base CX n f fd ps sp) (hb : Binds X.K fd ps []) (hs : PySem.W.findIn X.K (.ref C) "__eq__" = some (some (.ref f))) (hf : PySem.W.isFn X.K (.ref f) = true) (hr : Room n X.A) (hx : Passes CX X E) : OpR X (compareOp .Eq) (rEqO X.K C sp E) := by
  rintro pins s σ H x y v u Q I rx ry ⟨a, dx, fs, tb, rfl, ha, ho, hn, q⟩
  have lb := ho.look (M := model X.prog X.w) I ry
  cases (show v = Value.ref a from rx)
  obtain ⟨mA, J, _⟩ := ins_get I.hok ha
  obtain ⟨od, J, _⟩ := J.look
  obtain ⟨m, hF⟩ := I.fr
  show wpAny _ _ (richCompare .Eq _ _) _ _ _
  refine PySem.W.cmp_K (op := .Eq) (tb := tb) hr.units0 hF I.ok.mod.kin J lb hn hs hf ?_
  refine wpAny_mono (wpAny_call (run_fnR (us := [.ref a, u]) (vs := [.ref a, y]) (F.raw hb .nil) hr hx I (.cons rfl (.cons ry .nil)) q)) (fun z s' e => ?_) fun _ _ e => e
  obtain ⟨z', H', I', rz, c, ec, qz⟩ := e
  subst ec
  exact SlX.cmpback rz ⟨.bl c, H', I', rz, qz⟩
theorem op_neO (F : FnOk X.prog X.w X.K X.mg X.base CX n f fd ps sp) (hb : Binds X.K fd ps []) (hs : PySem.W.findIn X.K (.ref C) "__eq__" = some (some (.ref f))) (hf : PySem.W.isFn X.K (.ref f) = true) (h0 : PySem.W.findIn X.K (.ref C) "__ne__" = some (some (.builtin "object.__ne__"))) (hm : PySem.W.mroIn X.K C (.type "object") = some true) (hr : Room (n + 1) X.A) (hx : Passes CX X E) : OpR X (compareOp .NotEq) (rNeO X.K C sp E) := by
  rintro pins s σ H x y v u Q I rx ry ⟨a, dx, fs, tb, rfl, ha, ho, hn, q⟩
  have lb := ho.look (M := model X.prog X.w) I ry
  cases (show v = Value.ref a from rx)
  obtain ⟨mA, J, _⟩ := ins_get I.hok ha
  obtain ⟨od, J, _⟩ := J.look
  obtain ⟨m, hF⟩ := I.fr
  show wpAny _ _ (richCompare .NotEq _ _) _ _ _
  refine OwnE.rc_ne hF I.ok.mod.kin J hm hs hf h0 ?_ lb hn ?_
  · have z := (hr.in1).units0
    exact z
  refine wpAny_mono (wpAny_call (SlX.run_at (us := [.ref a, u]) (ws := [.ref a, y]) (F.raw hb .nil) hr.in1 I.env0.in1 hx I (.cons rfl (.cons ry .nil)) q)) (fun z s' e => ?_) fun _ _ e => e
  obtain ⟨z', H', I', rz, c, ec, qz⟩ := e
  subst ec
  exact ⟨c, rz, .bl (!c), H', I', rfl, qz⟩
end
end L2
-- part SLEnv
set_option maxHeartbeats 4000000
/-! What the law knows of all that it calls; the heap that is a loop's own. -/
namespace Kn
open PySem PySem.Spec PyProof.Rows L2 Err LamX HLam
def Df (P : Program) (w : World) (K : PySem.W.Frag) (mg : Str → Option Value) (base : Heap) (CX : CXT) (k : Nat) (x : Str) (ps : List Str) (sp : Sp) : Prop := ∃ (f : Addr) (fd : FuncData), FnOk P w K mg base CX k f fd ps sp ∧ PySem.W.keepIn K (.ref f) = true ∧ Binds K fd ps [] ∧ mg x = some (.ref f)
def DfG (P : Program) (w : World) (K : PySem.W.Frag) (mg : Str → Option Value) (base : Heap) (CX : CXT) (k : Nat) (x : Str) (ps : List Str) (sp : Sp) : Prop := ∃ (f : Addr) (fd : FuncData), Gd.FnOkG P w K mg base CX k f fd ps sp ∧ PySem.W.keepIn K (.ref f) = true ∧ Binds K fd ps [] ∧ mg x = some (.ref f)
def rLstA (K : PySem.W.Frag) : List V → Hp → VK → Prop := fun xs H Q => ∃ p ys, xs = [.ref p] ∧ (SqL K H p ys ∨ SqT K H p ys) ∧ ∀ l, H l = none → Q (.ref l) (upd H l (.lst ys))
structure LEnv7 (P : Program) (w : World) (K : PySem.W.Frag) (mg : Str → Option Value) (base : Heap) (T : List (Addr × Str)) (C CB CR CS : Addr) : Prop where
  begun : Df P w K mg base CX0 1 "_law_begun" ["_law_script"] (spBegun K)
  take : Df P w K mg base CX0 2 "_law_take" ["_law_draw", "_law_amount"] spTake
  titles : Df P w K mg base CX0 4 "_law_titles" ["_law_draw", "_law_many"] spTitles
  loop : Df P w K mg base CX0 5 "_law_loop" ["_law_draw", "_law_sorts_here", "_law_many", "_law_highest"] spLLoop
  made : Df P w K mg base CX0 9 "_law_made_loop" ["_law_told_here"] (spLMl C)
  other : Df P w K mg base CX0 4 "_law_otherwise" ["_law_draw", "_law_told_here"] spLOther
  rows : Df P w K mg base CX0 4 "_law_rows" ["_law_draw", "_law_model", "_law_most"] spLRows
  reply : Df P w K mg base CX0 2 "_law_loop_reply" ["_law_told_here", "_law_rows_here"] spLRe
  first : Df P w K mg base CX0 11 "_law_first_right" ["_law_draw", "_law_made"] (spLFirst T C)
  right : DfG P w K mg base CX0 9 "_law_rows_right" ["_law_draw", "_law_told_here", "_law_made"] (spLRight7 T C)
  caught : ∃ (f : Addr) (fd : FuncData), Fun K "_law_caught" "_law_caught" sCaught f fd ∧ Binds K fd ["_law_work"] [] ∧ mg "_law_caught" = some (.ref f)
  make : ∃ (f : Addr) (fd : FuncData), MkL P w K mg base C CB f fd ∧ ∀ (s : Shared) (u a b c : Value), K.In s.heap → BindsTo s fd ⟨[u], [("last", c), ("start", a), ("steps", b)]⟩ [("self", u), ("start", a), ("steps", b), ("last", c)]
  tx : PTxt K C
  EB : ETxt K mg CS "BadLoop" CB "part"
  gS : mg "StillError" = some (.ref CS)
  eq : ∃ (f : Addr) (fd : FuncData), FnOk P w K mg base CX0 1 f fd ["self", "other"] (spEqL K C) ∧ Binds K fd ["self", "other"] [] ∧ PySem.W.findIn K (.ref C) "__eq__" = some (some (.ref f)) ∧ PySem.W.isFn K (.ref f) = true
  ne0 : PySem.W.findIn K (.ref C) "__ne__" = some (some (.builtin "object.__ne__"))
  nf1 : PySem.W.notFirst K C (.ref C) = true
  nf2 : PySem.W.notFirst K C (.type "dict") = true
  dct : PySem.W.kitOne K (.type "dict") (.ref C) = some false
  hm : PySem.W.mroIn K C (.type "object") = some true
  p1 : Pd P w K mg base C "start" (spP1 C)
  p2 : Pd P w K mg base C "steps" (spP2 C)
  p3 : Pd P w K mg base C "last" (spP3 C)
  p4 : Pd P w K mg base C "kinds" (spP4 C)
  p5 : Pd P w K mg base C "variables" (spP5 C)
  ans : ∃ (f : Addr) (fd : FuncData), FnOk P w K mg base (L2.CX P w) 4 f fd ["self", "rows"] (spRw C CR goodA) ∧ Binds K fd ["self", "rows"] [] ∧ Meth K C "answer" f
  fr : ∀ x : Str, x ∈ (["range", "max", "min", "len", "isinstance", "list", "tuple"] : List Str) → mg x = none
/-! ### the heap that is a loop's own -/
def noLT (H : Hp) : Hp := fun b => match H b with
  | some (.lst _) => none
  | some (.tbl _) => none
  | o => o
theorem noLT_at {H : Hp} {b : Addr} {o : HO} (e : H b = some o) (n1 : ∀ xs, o ≠ .lst xs) (n2 : ∀ ps, o ≠ .tbl ps) : noLT H b = some o := by
  unfold noLT
  rw [e]
  cases o with
  | lst xs => exact absurd rfl (n1 xs)
  | tbl ps => exact absurd rfl (n2 ps)
  | _ => rfl
theorem noLT_ne {H : Hp} {b : Addr} {o : HO} (e : noLT H b = some o) : H b = some o ∧ (∀ xs, o ≠ .lst xs) ∧ ∀ ps, o ≠ .tbl ps := by
  unfold noLT at e
  cases h : H b with
  | none => rw [h] at e; cases e
  | some u =>
    rw [h] at e
    cases u with
    | lst xs => cases e
    | tbl ps => cases e
    | _ => cases e; exact ⟨rfl, (fun _ z => by cases z), (fun _ z => by cases z)⟩
noncomputable def mine (H0 H : Hp) : Hp := noD H0 (noLT H)
theorem mine_ne {H0 H : Hp} {b : Addr} {o : HO} (e : mine H0 H b = some o) : NoK (H0 b) ∧ H b = some o ∧ (∀ xs, o ≠ .lst xs) ∧ ∀ ps, o ≠ .tbl ps := by
  obtain ⟨n, e⟩ := noD_ne e
  exact ⟨n, noLT_ne e⟩
theorem mine_at {H0 H : Hp} {b : Addr} {o : HO} (e : H b = some o) (n : NoK (H0 b)) (n1 : ∀ xs, o ≠ .lst xs) (n2 : ∀ ps, o ≠ .tbl ps) : mine H0 H b = some o := noD_at (noLT_at e n1 n2) n
theorem mine_le {H0 H : Hp} : Same (mine H0 H) H := fun b o e => (mine_ne e).2.1
theorem mine_step {H0 H H' : Hp} (k : ∀ b o, H b = some o → NoK (H0 b) → (∀ xs, o ≠ .lst xs) → (∀ ps, o ≠ .tbl ps) → H' b = some o) : Same (mine H0 H) (mine H0 H') := fun b o e => by
  obtain ⟨n, e, n1, n2⟩ := mine_ne e
  exact mine_at (k b o e n n1 n2) n n1 n2
theorem drw_k {H : Hp} {d l c : Addr} (D : Drw H d l c) : ¬ NoK (H d) := fun n => by
  obtain ⟨⟨r, t, e⟩, _, _, _⟩ := D
  exact n _ e
theorem drw_l {H : Hp} {d l c : Addr} {o : HO} (D : Drw H d l c) (e : H l = some o) : ∃ xs, o = .lst xs := by
  obtain ⟨_, ⟨ns, z⟩, _, _⟩ := D
  rw [e] at z
  exact ⟨_, Option.some.inj z⟩
theorem mine_butN {H0 H H' : Hp} {d l c : Addr} (D0 : Drw H0 d l c) (D : Drw H d l c) (B : ButN d l H H') : Same (mine H0 H) (mine H0 H') := mine_step fun b o e n n1 n2 => B b o e (fun z => drw_k D0 (z ▸ n)) (fun z => by
  rw [z] at e
  obtain ⟨xs, q⟩ := drw_l D e
  exact n1 xs q) n2
theorem mine_cut {H0 H : Hp} {d l c : Addr} (D0 : Drw H0 d l c) (D : Drw H d l c) : Same (mine H0 H) (cut d l H) := fun b o e => by
  obtain ⟨n, e, n1, n2⟩ := mine_ne e
  exact cut_at e (fun z => drw_k D0 (z ▸ n)) (fun z => by
    rw [z] at e
    obtain ⟨xs, q⟩ := drw_l D e
    exact n1 xs q) n2
theorem LoopAt.mine {C : Addr} {H0 H : Hp} {p : Addr} {m : Lm} (h : LoopAt C (noD H0 H) p m) : LoopAt C (mine H0 H) p m := by
  have at_ : ∀ {b : Addr} {o : HO}, noD H0 H b = some o → (∀ xs, o ≠ .lst xs) → (∀ ps, o ≠ .tbl ps) → Kn.mine H0 H b = some o := fun e n1 n2 => by
    obtain ⟨n, e⟩ := noD_ne e
    exact mine_at e n n1 n2
  have tp : ∀ (a : Addr) (xs : List V), Rd (noD H0 H) a (.tup xs) → Rd (Kn.mine H0 H) a (.tup xs) := fun a xs r => by
    rcases r with e | ⟨o, e⟩
    · exact .inl (at_ e (fun _ z => by cases z) (fun _ z => by cases z))
    · exact .inr ⟨o, at_ e (fun _ z => by cases z) (fun _ z => by cases z)⟩
  have sm : ∀ {v : V} {ts : List Tm}, SumR (noD H0 H) v ts → SumR (Kn.mine H0 H) v ts := fun ⟨t, e, i⟩ => ⟨t, e, is_sum_to tp i⟩
  obtain ⟨dx, sd, st, ls, h1, ⟨ks, h2, h3⟩, ⟨kt, h4, h5⟩, h6⟩ := h.ex
  exact ⟨dx, sd, st, ls, at_ h1 (fun _ z => by cases z) (fun _ z => by cases z), ⟨ks, at_ h2 (fun _ z => by cases z) (fun _ z => by cases z), h3⟩, ⟨kt, at_ h4 (fun _ z => by cases z) (fun _ z => by cases z), h5.mono fun v l ⟨b, e, kb, e2, e3⟩ => ⟨b, e, kb, at_ e2 (fun _ z => by cases z) (fun _ z => by cases z), e3.mono fun _ _ r => sm r⟩⟩, is_sum_to tp h6⟩
end Kn
-- part SLTail
set_option maxHeartbeats 8000000
/-! The law, its later half. -/
namespace Kn
open PySem PySem.Spec PyProof.Rows L2 Err LamX HLam
abbrev sLaw : Stmt := topS 41
abbrev NLaw7 : List Str := ["_law_script", "_law_draw", "_law_turn", "_law_sorts_here", "_law_told_here", "_law_made", "_law_same", "_law_later", "_law_wrong", "_law_found", "_law_parts", "_law_error", "_law_rows_here", "_law_due", "_law_some"]
theorem scLaw7 : FnScope NLaw7 ["_law_script"] (defScope sLaw) := ⟨rfl, rfl, rfl, by decide +kernel, rfl, by decide +kernel, by decide +kernel⟩
abbrev XL7 (P : Program) (w : World) (K : PySem.W.Frag) (mg : Str → Option Value) (base : Heap) (f c0 : Addr) (A : Around) (outer : List Env) (s : Shared) (H : Hp) (E : XK) : Cx := (cxOf CX0 P w K mg base NLaw7 "law" (defScope sLaw) f (.ref c0) A outer s H E).nox
def forOf : Stmt → List Stmt
  | .For _ _ b _ _ => b
  | _ => []
abbrev lawFor : Stmt := (defBody sLaw).getD 1 (.Pass ⟨0, 0, 0, 0⟩)
abbrev lawTail : List Stmt := (forOf lawFor).drop 11
/-- between turns -/
def LInv (T : List (Addr × Str)) (d l c : Addr) (σ : L2.St) (H : Hp) : Prop := ∃ y0 y2 y3 y4 y5 y6 y7 y8 y9 y10 y11 y12 y13 y14, σ = [y0, some (.ref d), y2, y3, y4, y5, y6, y7, y8, y9, y10, y11, y12, y13, y14] ∧ Drw H d l c ∧ Tabs T H
def PTail (T : List (Addr × Str)) (C : Addr) : TS := fun D σ H => ∃ d l c, (∃ y0 y2 y7 y8 y9 y10 y11 y12 y13 y14 so td sd st ls pm ps m H0, σ = [y0, some (.ref d), y2, some (.ref so), some (.ref td), some (.ref pm), some (.ref ps), y7, y8, y9, y10, y11, y12, y13, y14] ∧
  Drw H0 d l c ∧ Drw H d l c ∧ Tabs T H ∧ ButN d l H0 H ∧ H0 so = some (.lst ((m.steps.map (·.1)).map V.str)) ∧ so ≠ d ∧ so ≠ l ∧ ToldF (cut d l H0) td sd st ls m ∧ LoopOk m ∧ LoopAt C (mine H0 H) pm m ∧ LoopAt C (mine H0 H) ps m) ∧ ∀ σ' H', LInv T d l c σ' H' → D.nx σ' H'
theorem told_ne {H : Hp} {x y sd st ls : Addr} {kv : List (Key × V)} {names : List Str} (h : H x = some (.dK (fok sd st (.ref ls)))) (e : H y = some (.dK kv)) (k : kv.map (·.1) = names.map Sum.inr) (hT : ∀ t ∈ names, t ∈ TI) : x ≠ y := fun z => by
  rw [z, e] at h
  cases h
  have q : (Sum.inr "start" : Key) ∈ (fok sd st (.ref ls)).map (·.1) := List.mem_cons_self ..
  rw [k] at q
  obtain ⟨t, ht, e2⟩ := List.mem_map.mp q
  cases e2
  exact start_ti (hT _ ht)
theorem tabs_k {T : List (Addr × Str)} {H H' : Hp} (t : Tabs T H) (k : ∀ b o, H b = some o → (∀ kvs, o ≠ .dK kvs) → H' b = some o) : Tabs T H' := fun p hp => by
  obtain ⟨ps, h1, h2, h3⟩ := t p hp
  refine ⟨ps, k _ _ h1 (fun _ z => by cases z), h2, fun pos cv hc => ?_⟩
  obtain ⟨c0, e1, e2⟩ := h3 pos cv hc
  exact ⟨c0, e1, k _ _ e2 (fun _ z => by unfold CodeO at z; cases z)⟩
theorem strs_sms : ∀ {l : List Str}, (∀ x ∈ l, x.cps.size ≤ 900 ∧ PyData.strOk x = true) → Sms (l.map V.str) (l.map PyData.str)
  | [], _ => .nil
  | x :: l, h => .cons (.str x (h x (List.mem_cons_self ..)).2) (strs_sms fun y hy => h y (List.mem_cons_of_mem _ hy))
theorem Sms.flatT {xs : List V} {ys : List PyData} (h : Sms xs ys) : SeqAt.shaped (.tuple ys) = true := by
  obtain ⟨z1, z2⟩ := h.lay
  simp [SeqAt.shaped, PyData.canLay0, PyData.depth, z1, z2]
theorem ne_tups {K : PySem.W.Frag} {H : Hp} {Q : VK} {a b : Addr} {l : List Str} (hl : ∀ x ∈ l, x.cps.size ≤ 900 ∧ PyData.strOk x = true) (h : SqT K H a (l.map V.str)) (h2 : SqT K H b (l.map V.str)) (q : Q (.bl false) H) : rNeD K (.ref a) (.ref b) H Q := by
  have z := strs_sms hl
  refine ⟨_, _, .tup h z.dp, .tup h2 z.dp, z.flatT, z.flatT, ?_⟩
  rw [SeqAt.eqv_refl _ (SeqAt.canLay_of_shaped z.flatT)]
  exact q
theorem ne_lists {K : PySem.W.Frag} {H : Hp} {Q : VK} {a b : Addr} {l : List Str} (hl : ∀ x ∈ l, x.cps.size ≤ 900 ∧ PyData.strOk x = true) (h : SqL K H a (l.map V.str)) (h2 : SqL K H b (l.map V.str)) (q : Q (.bl false) H) : rNeD K (.ref a) (.ref b) H Q := by
  have z := strs_sms hl
  refine ⟨_, _, .lst h z.dp, .lst h2 z.dp, z.flat, z.flat, ?_⟩
  rw [SeqAt.eqv_refl _ (SeqAt.canLay_of_shaped z.flat)]
  exact q
section
variable {P : Program} {w : World} {C CB CR : Addr} {K : PySem.W.Frag} {mg : Str → Option Value} {base : Heap} {T : List (Addr × Str)} {CS : Addr} {f c0 Pt : Addr} {A : Around} {outer : List Env} {s0 : Shared} {H00 : Hp} {E0' : XK}
theorem tail_ok (L : LEnv7 P w K mg base T C CB CR CS) (hr : Room 11 (XL7 P w K mg base f c0 A outer s0 H00 E0').A) : PSs (XL7 P w K mg base f c0 A outer s0 H00 E0') lawTail (PTail T C) := by
  have S := scLaw7
  have hu := hu_of hr
  have hr1 := hr.mono (show 1 ≤ 11 by decide)
  have hr2 := hr.mono (show 2 ≤ 11 by decide)
  have hr4 := hr.mono (show 4 ≤ 11 by decide)
  have hr5 := hr.mono (show 5 ≤ 11 by decide)
  have hr9 := hr.mono (show 9 ≤ 11 by decide)
  have hr10 := hr.mono (show 10 ≤ 11 by decide)
  have hr11 := hr
  obtain ⟨fE, fdE, GE, bE, hE, iE⟩ := L.eq
  have eqO := @op_eqO (XL7 P w K mg base f c0 A outer s0 H00 E0') CX0 C fE fdE _ _ C8.E0 1 GE bE hE iE hr1 pass0
  have neO := @op_neO (XL7 P w K mg base f c0 A outer s0 H00 E0') CX0 C fE fdE _ _ C8.E0 1 GE bE hE iE L.ne0 L.hm hr2 pass0
  obtain ⟨pp1', fp1, fdp1, GP1, pp1, pb1⟩ := L.p1
  obtain ⟨pp2', fp2, fdp2, GP2, pp2, pb2⟩ := L.p2
  obtain ⟨pp3', fp3, fdp3, GP3, pp3, pb3⟩ := L.p3
  obtain ⟨pp4', fp4, fdp4, GP4, pp4, pb4⟩ := L.p4
  obtain ⟨pp5', fp5, fdp5, GP5, pp5, pb5⟩ := L.p5
  obtain ⟨fA, fdA, GA, bA, mA⟩ := L.ans
  obtain ⟨fT, fdT, GT, kT, bT, gT⟩ := L.take
  obtain ⟨fI, fdI, GI, kI, bI, gI⟩ := L.titles
  obtain ⟨fO, fdO, GO, kO, bO, gO⟩ := L.loop
  obtain ⟨fM, fdM, GM, kM, bM, gM⟩ := L.made
  obtain ⟨fX, fdX, GX, kX, bX, gX⟩ := L.other
  obtain ⟨fR, fdR, GR, kR, bR, gR⟩ := L.rows
  obtain ⟨fL, fdL, GL, kL, bL, gL⟩ := L.reply
  obtain ⟨fF, fdF, GF, kF, bF, gF⟩ := L.first
  obtain ⟨fRt, fdRt, GRt, kRt, bRt, gRt⟩ := L.right
  obtain ⟨fC, fdC, FC, bC, gC⟩ := L.caught
  obtain ⟨fi, fdi, ML, bIk⟩ := L.make
  have mi := L.fr "isinstance" (by decide)
  have mt := L.fr "tuple" (by decide)
  have ml := L.fr "list" (by decide)
  refine PSs.pre (PTail T C) (pss_cons (ps_set (i := 12) S.nd rfl (.inl rfl) (pe_call GR hr4 (by rfl) gR kR bR .nil pass0 (pa_cons (pv 1) (pa_cons (pe_disp (pps_cons pe_str (pv 3) pps_nil) rfl rfl (by decide) (by decide)) (pa_cons pe_int pa_nil)))))
      (pss_cons (ps_set (i := 13) S.nd rfl (.inl rfl) (pe_call GL hr2 (by rfl) gL kL bL .nil pass0 (pa_cons (pv 4) (pa_cons (pv 12) pa_nil))))
      (pss_cons (ps_for PassesOwn.never rfl (pi_list (pe_lst (pa_cons (pe_prop (pv 5) L.tx.cl pp1 GP1 hr2 pb1 .nil pass0 rfl) (pa_cons (pe_dget hu (pe_prop (pv 5) L.tx.cl pp2 GP2 hr2 pb2 .nil pass0 rfl) (pe_ix (show IxR _ (rIxL K) from ix_list) (pv 3) pe_int (fun _ _ => rfl)) (fun _ _ => rfl)) (pa_cons (pe_prop (pv 5) L.tx.cl pp2 GP2 hr2 pb2 .nil pass0 rfl) (pa_cons (pe_dget hu (pe_dget hu (pv 4) pe_str (fun _ _ => rfl)) (pe_ix (show IxR _ (rIxL K) from ix_list) (pv 3) pe_int (fun _ _ => rfl)) (fun _ _ => rfl)) pa_nil)))))) (pg_name (i := 14) S.nd rfl (.inl rfl))
        (pss_one (ps_expr (pe_dclear (pv 14)))))
      (pss_cons (ps_expr (pe_dclear (pe_dget hu (pv 4) pe_str (fun _ _ => rfl))))
      (pss_cons (ps_expr (pe_dclear (pe_dget hu (pv 4) pe_str (fun _ _ => rfl))))
      (pss_cons (ps_if (PW.pt (pw_or (pt_cmpR op_ne (pe_meth (pv 5) L.tx.cl mA GA hr4 bA .nil (passes_call L2.takes0 fun _ _ _ _ h => h) (pa_cons (pv 12) pa_nil)) (pv 13) (nomark _)) (pw_or1 (pt_not (pt_val (pe_call GF hr11 (by rfl) gF kF bF .nil pass0 (pa_cons (pv 1) (pa_cons (pv 5) pa_nil)))))))) (pss_one (ps_ret pe_bl)) pss_nil)
      (pss_cons (ps_if (PW.pt (pw_or (pt_cmpR neO (pv 5) (pv 6) (nomark _)) (pw_or (pt_cmpR (show OpR _ (compareOp .Eq) (rEqN K) from op_eqN hr1.units) (pe_prop (pv 5) L.tx.cl pp2 GP2 hr2 pb2 .nil pass0 rfl) pe_dnewK (nomark _)) (pw_or1 (pt_cmpR (op_neD hr1.units) (pe_prop (pv 5) L.tx.cl pp4 GP4 hr2 pb4 .nil pass0 rfl) (pe_callTy (show CallR _ (.type "tuple") (rTupA K) from call_tuple_of) (by rfl) mt (by decide +kernel) (pa_cons (pv 3) pa_nil)) (nomark _)))))) (pss_one (ps_ret pe_bl)) pss_nil)
      (pss_cons (ps_if (PW.pt (pw_or (pt_cmpR (op_neD hr1.units) (pe_prop (pv 5) L.tx.cl pp5 GP5 hr2 pb5 .nil pass0 rfl) (pe_callTy (call_tuple_dK rfl) (by rfl) mt (by decide +kernel) (pa_cons (pe_prop (pv 5) L.tx.cl pp1 GP1 hr2 pb1 .nil pass0 rfl) pa_nil)) (nomark _)) (pw_or1 (pt_cmpR (op_neD hr1.units) (pe_prop (pv 5) L.tx.cl pp3 GP3 hr2 pb3 .nil pass0 rfl) (pe_dget hu (pv 4) pe_str (fun _ _ => rfl)) (nomark _))))) (pss_one (ps_ret pe_bl)) pss_nil)
      (pss_one (ps_if (pt_cmpR (op_neD hr1.units) (pe_callTy (call_list_dK rfl) (by rfl) ml (by decide +kernel) (pa_cons (pe_dget hu (pe_prop (pv 5) L.tx.cl pp2 GP2 hr2 pb2 .nil pass0 rfl) (pe_ix (show IxR _ (rIxL K) from ix_list) (pv 3) pe_int (fun _ _ => rfl)) (fun _ _ => rfl)) pa_nil)) (pe_callTy (show CallR _ (.type "list") (rLstA K) from call_list_of) (by rfl) ml (by decide +kernel) (pa_cons (pe_prop (pv 5) L.tx.cl pp5 GP5 hr2 pb5 .nil pass0 rfl) pa_nil)) (nomark _)) (pss_one (ps_ret pe_bl)) pss_nil)))))))))) ?_
  rintro Dn σ H ⟨d, l, c, ⟨y0, y2, y7, y8, y9, y10, y11, y12, y13, y14, so, td, sd, st, ls, pm, ps, m, H0, rfl, D0, D, hT, B, eso0, nsd, nsl, told0, ok, hpm, hps⟩, hnx⟩
  have eso := B _ _ eso0 nsd nsl (fun _ z => by cases z)
  have told1 := told0.same B.cut
  obtain ⟨s0, sm0, mrest, hm0⟩ : ∃ s0 sm0 mrest, m.steps = (s0, sm0) :: mrest := by
    cases e : m.steps with
    | nil => exact absurd e (steps_ne ok)
    | cons a b => exact ⟨a.1, a.2, b, rfl⟩
  have hk0 : m.steps.map (·.1) = s0 :: mrest.map (·.1) := by rw [hm0]; rfl
  have lk0 : m.steps.lookup s0 = some sm0 := by
    rw [hm0, look_cons, if_pos rfl]
  -- the rows
  refine ⟨_, rfl, fun mo nmo => ⟨_, rfl, upd_same, [(.inr "sorts", .ref so)], rfl, by show 1 ≤ 15; decide, ?_⟩⟩
  rw [upd_upd]
  have em : mergeK [] [((.inr "sorts" : Key), V.ref so)] = [((.inr "sorts" : Key), V.ref so)] := by kernel_rfl
  rw [em]
  have s2 : Same H (upd H mo (.dK [(.inr "sorts", .ref so)])) := same_new nmo
  have emo : (upd H mo (.dK [(.inr "sorts", .ref so)])) mo = some (.dK [(.inr "sorts", .ref so)]) := upd_same
  generalize upd H mo (.dK [(.inr "sorts", .ref so)]) = H2 at s2 emo ⊢
  have D2 := D.same s2
  refine ⟨d, l, c, mo, so, m.steps.map (·.1), 5, rfl, D2, emo, s2 _ _ eso, nsl, Nat.lt_of_lt_of_le Nat.zero_lt_one ok.kn.n1, by have := ok.kn.n3; omega, by decide, fun rl rs ws H3 D3 B3 nrl hrl rlL lz => ?_⟩
  have hrows : RowsIn m ws := fun r hr => ⟨rlL.names r hr, rlL.bnd r hr⟩
  have B13 : But d l H H3 := (But.of s2).trans B3
  have B03 : ButN d l H0 H3 := B.trans B13.n
  have T3 := tabs_but (hT.ext s2) D2 B3
  have eso3 := B3 _ _ (s2 _ _ eso) nsd nsl
  have told3 := told1.same B13.cut
  have hrt := rlL.rowT
  have h900 : rs.length ≤ 900 := by omega
  have hpm3 := hpm.same (mine_butN D0 D B13.n)
  have hps3 := hps.same (mine_butN D0 D B13.n)
  have smk : ∀ t ∈ m.steps.map (·.1), kSm (some (.inr t)) := fun t ht => ok.kn.sm t ht
  have isR : ∀ {Hx : Hp}, Same H3 Hx → Is Hx (.ref rl) (.lst (ws.map rowW)) := fun {Hx} s => .lst h900 (s _ _ hrl) ((rlL.same s).isAll smk)
  clear emo em B3 s2 D2 nmo hpm hps
  -- what is due
  refine ⟨_, rfl, _, rfl, td, rl, m, rs, ws, rfl, (told3.same cut_le).at_, ok, hrl, hrt, h900, hrows, fun H4 s4 => ?_⟩
  have c03 : Same (cut d l H0) H3 := B03.cut.trans cut_le
  obtain ⟨hin0, ⟨ks0, esd0, ksp⟩, ⟨kt, est0, ktp⟩, hls0⟩ := id told0
  obtain ⟨vb, hvb, bt, rfl, kb, ebt0, kbp⟩ := ktp.get lk0
  have hin := c03 _ _ hin0
  have esd := c03 _ _ esd0
  have est := c03 _ _ est0
  have ebt := c03 _ _ ebt0
  obtain ⟨dx, sdp, stp, lsp, hip, _⟩ := id hpm3.ex
  have hip := (mine_ne hip).2.1
  have hpL := hpm3.same mine_le
  -- the four
  refine ⟨_, rfl, pm, dx, _, rfl, s4 _ _ hip, pm, m, rfl, hpL.same s4, fun q1 kv1 nq1 hk1 => ?_⟩
  have s5 : Same H4 (upd H4 q1 (.dK kv1)) := same_new nq1
  have e1 : (upd H4 q1 (.dK kv1)) q1 = some (.dK kv1) := upd_same
  generalize upd H4 q1 (.dK kv1) = H5 at s5 e1 ⊢
  have s35 := s4.trans s5
  refine ⟨_, rfl, pm, dx, _, rfl, s35 _ _ hip, pm, m, rfl, hpL.same s35, ok, fun q2 H6 s6 nq2 ⟨kv2, e2, g2⟩ => ?_⟩
  have s36 := s35.trans s6
  obtain ⟨vb2, hvb2, b2, rfl, nb2, _, kb2, eb2, _⟩ := g2.get lk0
  have eso3' : H3 so = some (.lst (V.str s0 :: (mrest.map (·.1)).map V.str)) := by rw [eso3, hk0]; rfl
  refine ⟨_, rfl, so, _, 0, .str s0, rfl, rfl, SqL.of (s36 _ _ eso3'), at_of (j := 0) rfl rfl, q2, _, rfl, hvb2 ▸ DGet.k (k := Sum.inr s0) e2, ?_⟩
  refine ⟨_, rfl, pm, dx, _, rfl, s36 _ _ hip, pm, m, rfl, hpL.same s36, ok, fun q3 H7 s7 nq3 ⟨kv3, e3, _⟩ => ?_⟩
  have s37 := s36.trans s7
  refine ⟨_, rfl, td, _, rfl, fok2 sd st (.ref ls) ▸ DGet.k (k := Sum.inr "steps") (s37 _ _ hin), _, rfl, so, _, 0, .str s0, rfl, rfl, SqL.of (s37 _ _ eso3'), at_of (j := 0) rfl rfl, st, _, rfl, hvb ▸ DGet.k (k := Sum.inr s0) (s37 _ _ est), by show 4 ≤ sizeLine; decide, fun l4 nl4 => ?_⟩
  have s8 : Same H7 (upd H7 l4 (.lst [.ref q1, .ref b2, .ref q3, .ref bt])) := same_new nl4
  have el4 : (upd H7 l4 (.lst [.ref q1, .ref b2, .ref q3, .ref bt])) l4 = some (.lst [.ref q1, .ref b2, .ref q3, .ref bt]) := upd_same
  generalize upd H7 l4 (.lst [.ref q1, .ref b2, .ref q3, .ref bt]) = H8 at s8 el4 ⊢
  have s38 := s37.trans s8
  -- kept: all of H3 but told's dict of sums
  have out : ∀ {b : Addr}, H4 b = none → ∀ {o : HO}, H3 b ≠ some o := fun n o z => by rw [s4 _ _ z] at n; cases n
  have q1n : ∀ {o : HO}, H3 q1 ≠ some o := fun {o} z => by rw [s4 _ _ z] at nq1; cases nq1
  have q2n : ∀ {o : HO}, H3 b2 ≠ some o := fun {o} z => by rw [s35 _ _ z] at nb2; cases nb2
  have q3n : ∀ {o : HO}, H3 q3 ≠ some o := fun {o} z => by rw [s36 _ _ z] at nq3; cases nq3
  have l4n : ∀ {o : HO}, H7 l4 ≠ some o := fun {o} z => by rw [nl4] at z; cases z
  have four : ∀ x ∈ [q1, b2, q3, bt], ∃ kv, H8 x = some (.dK kv) := fun x hx => by
    simp only [List.mem_cons, List.not_mem_nil, or_false] at hx
    rcases hx with z | z | z | z
    · exact ⟨_, z ▸ (s6.trans (s7.trans s8)) _ _ e1⟩
    · exact ⟨_, z ▸ (s7.trans s8) _ _ eb2⟩
    · exact ⟨_, z ▸ s8 _ _ e3⟩
    · exact ⟨_, z ▸ s38 _ _ ebt⟩
  have l4ne : ∀ x ∈ [q1, b2, q3, bt], x ≠ l4 := fun x hx z => by
    obtain ⟨kv, e⟩ := four x hx
    rw [z, el4] at e
    cases e
  refine ⟨l4, rfl, ⟨_, SqL.of el4⟩, for_list (xs := [.ref q1, .ref b2, .ref q3, .ref bt]) (fun i σ Hi => ∃ y14, σ = [y0, some (.ref d), y2, some (.ref so), some (.ref td), some (.ref pm), some (.ref ps), y7, y8, y9, y10, y11, some (.ref rl), some (.int (toldE m (goE m ws))), y14] ∧ Hi l4 = some (.lst [.ref q1, .ref b2, .ref q3, .ref bt]) ∧ (∀ x ∈ [q1, b2, q3, bt], ∃ kv, Hi x = some (.dK kv)) ∧ ∀ b o, H3 b = some o → b ≠ bt → Hi b = some o)
    ⟨_, rfl, el4, four, fun b o z _ => s38 _ _ z⟩ (fun i σ Hi _ ⟨_, _, e, _⟩ => SqL.of e) ?_ ?_⟩
  · rintro i x σ Hi hx ⟨y14', rfl, e, f, k⟩
    have hx := List.mem_of_getElem? hx
    obtain ⟨a, ha, rfl⟩ : ∃ a, a ∈ [q1, b2, q3, bt] ∧ x = .ref a := by
      simp only [List.mem_cons, List.not_mem_nil, or_false] at hx ⊢
      rcases hx with z | z | z | z
      · exact ⟨q1, .inl rfl, z⟩
      · exact ⟨b2, .inr (.inl rfl), z⟩
      · exact ⟨q3, .inr (.inr (.inl rfl)), z⟩
      · exact ⟨bt, .inr (.inr (.inr rfl)), z⟩
    obtain ⟨kv, ekv⟩ := f a ha
    refine ⟨_, rfl, .inr (.inr (.inl ⟨rfl, .inl ⟨kv, ekv⟩⟩)), a, kv, rfl, rfl, ekv, _, rfl, ?_, fun x hx => ?_, fun b o z n => ?_⟩
    · rw [upd_ne (fun z => l4ne a ha z.symm)]
      exact e
    · by_cases z : x = a
      · exact ⟨[], by rw [z]; exact upd_same⟩
      · rw [upd_ne z]
        exact f x hx
    · have ne : b ≠ a := fun y => by
        rw [y] at z n
        simp only [List.mem_cons, List.not_mem_nil, or_false] at ha
        rcases ha with y | y | y | y
        · exact q1n (y ▸ z)
        · exact q2n (y ▸ z)
        · exact q3n (y ▸ z)
        · exact n y
      rw [upd_ne ne]
      exact k b o z n
  rintro σ H9 ⟨y14', rfl, e, f, k⟩
  have mem0 : (s0, sm0) ∈ m.steps := by rw [hm0]; exact List.mem_cons_self ..
  have kbk : kb.map (·.1) = m.names.map Sum.inr := by rw [kbp.keys, (ok.ss _ mem0).1]
  have nb : td ≠ bt := told_ne hin ebt kbk ok.nm.ti.inT
  have nt : td ≠ st := told_ne hin est ktp.keys ok.kn.ti.inT
  have ns : td ≠ sd := told_ne hin esd ksp.keys ok.nm.ti.inT
  have dk9 : ∀ {x : Addr} {kv : List (Key × V)}, H3 x = some (.dK kv) → ∃ kv', H9 x = some (.dK kv') := fun {x kv} z => by
    by_cases y : x = bt
    · exact y ▸ f bt (by simp)
    · exact ⟨kv, k _ _ z y⟩
  obtain ⟨kv9, e9⟩ := dk9 est
  refine ⟨_, rfl, td, _, rfl, fok2 sd st (.ref ls) ▸ DGet.k (k := Sum.inr "steps") (k _ _ hin nb), (show tyV K "dict" (.ref st) H9 from .inr (.inr (.inl ⟨rfl, .inl ⟨kv9, e9⟩⟩))), st, kv9, rfl, rfl, e9, ?_⟩
  obtain ⟨kv10, e10⟩ : ∃ kv', (upd H9 st (.dK [])) sd = some (.dK kv') := by
    by_cases y : sd = st
    · exact ⟨_, by rw [y]; exact upd_same⟩
    · rw [upd_ne y]
      exact dk9 esd
  refine ⟨_, rfl, td, _, rfl, fok1 sd st (.ref ls) ▸ DGet.k (k := Sum.inr "start") (by rw [upd_ne nt]; exact k _ _ hin nb), (show tyV K "dict" (.ref sd) (upd H9 st (.dK [])) from .inr (.inr (.inl ⟨rfl, .inl ⟨kv10, e10⟩⟩))), sd, kv10, rfl, rfl, e10, ?_⟩
  have k11 : ∀ b o, H3 b = some o → b ≠ bt → b ≠ st → b ≠ sd → (upd (upd H9 st (.dK [])) sd (.dK [])) b = some o := fun b o z n1 n2 n3 => by
    rw [upd_ne n3, upd_ne n2]
    exact k _ _ z n1
  generalize upd (upd H9 st (.dK [])) sd (.dK []) = H11 at k11 ⊢
  have kk : ∀ b o, H3 b = some o → (∀ kvs, o ≠ .dK kvs) → H11 b = some o := fun b o z n => by
    have ne : ∀ {x : Addr} {kv : List (Key × V)}, H3 x = some (.dK kv) → b ≠ x := fun {x kv} y w => by
      rw [w, y] at z
      exact n _ (Option.some.inj z).symm
    exact k11 b o z (ne ebt) (ne est) (ne esd)
  have T11 := tabs_k T3 kk
  have D11 : Drw H11 d l c := by
    obtain ⟨⟨r, t, ed⟩, ⟨ns1, el⟩, ⟨ns2, ec⟩, n⟩ := D3
    exact ⟨⟨r, t, k11 _ _ ed (cut_ne ebt0).1.symm (cut_ne est0).1.symm (cut_ne esd0).1.symm⟩, ⟨ns1, kk _ _ el (fun _ z => by cases z)⟩, ⟨ns2, kk _ _ ec (fun _ z => by cases z)⟩, n⟩
  have m11 : Same (mine H0 H3) (mine H0 H11) := mine_step fun b o z n _ _ => by
    have ne : ∀ {x : Addr} {kv : List (Key × V)}, cut d l H0 x = some (.dK kv) → b ≠ x := fun {x kv} y w => by
      rw [w] at n
      exact n _ (cut_le _ _ y)
    exact k11 b o z (ne ebt0) (ne est0) (ne esd0)
  have hpm11 := hpm3.same m11
  have hps11 := hps3.same m11
  have tup11 : ∀ a xs, Rd H3 a (.tup xs) → Rd H11 a (.tup xs) := fun a xs r => by
    rcases r with r | ⟨o, r⟩
    · exact .inl (kk _ _ r (fun _ z => by cases z))
    · exact .inr ⟨o, kk _ _ r (fun _ z => by cases z)⟩
  have hls11 : Is H11 (.ref ls) (sumW m.last) := is_sum_to tup11 (hls0.same c03)
  have hin11 := k11 _ _ hin nb nt ns
  have eso11 := kk _ _ eso3 (fun _ z => by cases z)
  have erl11 := kk _ _ hrl (fun _ z => by cases z)
  have rl11 := rlL.mono fun a xs _ z => kk _ _ z (fun _ z => by cases z)
  clear e9 e10 dk9 k f e four q1n q2n q3n l4n l4ne out s8 s7 s6 s5 s4 s35 s36 s37 s38 el4 e1 e2 e3 g2 nl4 nq1 nq2 nq3 eb2 isR rlL hrl hrt T3 hpL hpm3 hps3 hip kk m11 k11 D3 B13
  obtain ⟨dx, sdp, stp, lsp, hip, _⟩ := id hpm11.ex
  have hip := (mine_ne hip).2.1
  obtain ⟨dy, sdq, stq, lsq, hiq, _⟩ := id hps11.ex
  have hiq := (mine_ne hiq).2.1
  have hpL := hpm11.same mine_le
  have noA : (lflds sdp stp lsp).lookup ("answer" : Str) = none := by kernel_rfl
  have fine : ∀ ks : List (Key × V), ks.map (·.1) = (m.steps.map (·.1)).map Sum.inr → ∃ w, Is H11 (.ref rl) w ∧ badAt ks w = none := fun ks hk => ⟨_, .lst h900 erl11 (rl11.isAll smk), (bad_none (row_ok hk rl11.names)).1⟩
  refine ⟨_, rfl, pm, dx, _, rfl, hip, noA, _, rfl, pm, m, .ref rl, rfl, hpL, ok, .inr ⟨rl, rs, ws, rfl, .inl erl11, rl11.rowT, h900, hrows, fine, fun H12 s12 => ⟨_, rfl, rfl, false, ?_, iteF ?_⟩⟩⟩
  · show V.bl (!decide _) = _
    rw [decide_eq_true rfl]
    rfl
  refine ⟨_, rfl, _, rfl, d, l, c, pm, m, rfl, D11.same s12, T11.ext s12, (hpm11.same (mine_cut D0 D11)).same (But.of s12 : But d l H11 H12).cut, ok, fun H13 D13 T13 B13 => ⟨true, rfl, iteF ?_⟩⟩
  have B113 : ButN d l H11 H13 := (But.of s12 : But d l H11 H12).n.trans B13
  have hpm13 := hpm11.same (mine_butN D0 D11 B113)
  have hps13 := hps11.same (mine_butN D0 D11 B113)
  have hin13 := B113 _ _ hin11 (cut_ne hin0).1 (cut_ne hin0).2.1 (fun _ z => by cases z)
  have eso13 := B113 _ _ eso11 nsd nsl (fun _ z => by cases z)
  have hls13 : Is H13 (.ref ls) (sumW m.last) := is_sum_to (fun a xs r => Rd.same (rd_cut D11 r) (B113.cut.trans cut_le)) hls11
  clear rl11 fine erl11 hrows tup11 hls11 hin11 eso11 noA hip hiq hpL hpm11 hps11 T11 s12 B13 B113
  obtain ⟨dx, sdp, stp, lsp, hip, ipD, spD, lsD⟩ := id hpm13.ex
  have hip := (mine_ne hip).2.1
  obtain ⟨dy, sdq, stq, lsq, hiq, _⟩ := id hps13.ex
  have hiq := (mine_ne hiq).2.1
  have hpL := hpm13.same mine_le
  have el := eqLoop_refl ok
  refine ⟨_, rfl, _, rfl, pm, dx, _, .ref C, rfl, hip, .inl ⟨ps, dy, _, rfl, hiq, rfl⟩, L.nf1, pm, m, .ref ps, rfl, hpL, ok, .inr ⟨ps, m, rfl, hps13.same mine_le, _, rfl, ?_⟩⟩
  rw [el]
  refine ⟨false, rfl, iteF ⟨_, rfl, pm, dx, _, rfl, hip, pm, m, rfl, hpL, ok, fun q1 H14 s14 nq1 ⟨kv1, e1, g1⟩ => fun q2 nq2 => ?_⟩⟩
  have sx : Same H14 (upd H14 q2 (.dK [])) := same_new nq2
  have e2 : (upd H14 q2 (.dK [])) q2 = some (.dK []) := upd_same
  generalize upd H14 q2 (.dK []) = H15 at sx e2 ⊢
  have s15 := s14.trans sx
  have neq : q1 ≠ q2 := fun z => by rw [← z, e1] at nq2; cases nq2
  have len0 : ¬ kv1.length = ([] : List (Key × V)).length := fun z => by
    have y := g1.len
    rw [hm0, z] at y
    cases y
  refine ⟨0, false, by decide, ⟨q1, q2, kv1, [], true, rfl, rfl, fun z => absurd z neq, .inl (sx _ _ e1), .inl e2, fun z => absurd z len0, ?_⟩, false, rfl, iteF ?_⟩
  · rw [decide_eq_false len0]
    rfl
  refine ⟨_, rfl, pm, dx, _, rfl, s15 _ _ hip, pm, m, rfl, hpL.same s15, fun q3 nq3 => ⟨_, rfl, so, _, rfl, .inl ⟨SqL.of (same_new nq3 _ _ (s15 _ _ eso13)), fun q4 nq4 => ?_⟩⟩⟩
  have sy : Same H15 (upd (upd H15 q3 (.tup ((m.steps.map (·.1)).map V.str))) q4 (.tup ((m.steps.map (·.1)).map V.str))) := (same_new nq3).trans (same_new nq4)
  have e3 : (upd (upd H15 q3 (.tup ((m.steps.map (·.1)).map V.str))) q4 (.tup ((m.steps.map (·.1)).map V.str))) q3 = some (.tup ((m.steps.map (·.1)).map V.str)) := same_new nq4 _ _ upd_same
  have e4 : (upd (upd H15 q3 (.tup ((m.steps.map (·.1)).map V.str))) q4 (.tup ((m.steps.map (·.1)).map V.str))) q4 = some (.tup ((m.steps.map (·.1)).map V.str)) := upd_same
  generalize upd (upd H15 q3 (.tup ((m.steps.map (·.1)).map V.str))) q4 (.tup ((m.steps.map (·.1)).map V.str)) = H16 at sy e3 e4 ⊢
  have s16 := s15.trans sy
  refine ne_tups ok.kn.sm (SqT.of e3) (SqT.of e4) ⟨false, rfl, iteF ?_⟩
  have hpL16 := hpL.same s16
  -- the variables
  refine ⟨_, rfl, pm, dx, _, rfl, s16 _ _ hip, pm, m, rfl, hpL16, fun q5 nq5 => ?_⟩
  have t5 : Same H16 (upd H16 q5 (.tup (m.names.map V.str))) := same_new nq5
  have e5 : (upd H16 q5 (.tup (m.names.map V.str))) q5 = some (.tup (m.names.map V.str)) := upd_same
  generalize upd H16 q5 (.tup (m.names.map V.str)) = H17 at t5 e5 ⊢
  have s17 := s16.trans t5
  refine ⟨_, rfl, pm, dx, _, rfl, s17 _ _ hip, pm, m, rfl, hpL.same s17, fun q6 kv6 nq6 hk6 => ⟨q6, kv6, rfl, upd_same, fun q7 nq7 => ?_⟩⟩
  have ek : (kv6.map fun kv => kV kv.1) = m.names.map V.str := kvp_keys hk6
  rw [ek]
  have t6 : Same H17 (upd (upd H17 q6 (.dK kv6)) q7 (.tup (m.names.map V.str))) := (same_new nq6).trans (same_new nq7)
  have e7 : (upd (upd H17 q6 (.dK kv6)) q7 (.tup (m.names.map V.str))) q7 = some (.tup (m.names.map V.str)) := upd_same
  generalize upd (upd H17 q6 (.dK kv6)) q7 (.tup (m.names.map V.str)) = H18 at t6 e7 ⊢
  have s18 := s17.trans t6
  refine ne_tups ok.nm.sm (SqT.of (t6 _ _ e5)) (SqT.of e7) ⟨false, rfl, iteF ?_⟩
  refine ⟨_, rfl, pm, dx, _, rfl, s18 _ _ hip, pm, m, rfl, hpL.same s18, fun lt hlt => ?_⟩
  refine ⟨_, rfl, td, _, rfl, fok3 sd st (.ref ls) ▸ DGet.k (k := Sum.inr "last") (s18 _ _ hin13), sumD m.last, sumD m.last, dp_sum hlt, dp_sum (hls13.same s18), sum_shaped (is_strs hlt), sum_shaped (is_strs hlt), false, ?_, iteF ?_⟩
  · show V.bl (!eqSum m.last m.last) = _
    rw [eqSum_refl (is_strs hlt)]
    rfl
  -- the names of the steps
  refine ⟨_, rfl, pm, dx, _, rfl, s18 _ _ hip, pm, m, rfl, hpL.same s18, ok, fun q8 H19 t8 nq8 ⟨kv8, e8, g8⟩ => ?_⟩
  have s19 := s18.trans t8
  obtain ⟨vb8, hvb8, b8, rfl, _, _, kb8, eb8, kp8⟩ := g8.get lk0
  have eso13' : H13 so = some (.lst (V.str s0 :: (mrest.map (·.1)).map V.str)) := by rw [eso13, hk0]; rfl
  refine ⟨_, rfl, so, _, 0, .str s0, rfl, rfl, SqL.of (s19 _ _ eso13'), at_of (j := 0) rfl rfl, q8, _, rfl, hvb8 ▸ DGet.k (k := Sum.inr s0) e8, b8, kb8, rfl, eb8, fun q9 nq9 => ?_⟩
  have ek8 : (kb8.map fun kv => kV kv.1) = m.names.map V.str := by rw [kvp_keys kp8, (ok.ss _ mem0).1]
  rw [ek8]
  have t9 : Same H19 (upd H19 q9 (.lst (m.names.map V.str))) := same_new nq9
  have e9 : (upd H19 q9 (.lst (m.names.map V.str))) q9 = some (.lst (m.names.map V.str)) := upd_same
  generalize upd H19 q9 (.lst (m.names.map V.str)) = H20 at t9 e9 ⊢
  have s20 := s19.trans t9
  refine ⟨_, rfl, pm, dx, _, rfl, s20 _ _ hip, pm, m, rfl, hpL.same s20, fun q10 nq10 => ⟨q10, _, rfl, .inr (SqT.of upd_same), fun q11 nq11 => ?_⟩⟩
  have t11 : Same H20 (upd (upd H20 q10 (.tup (m.names.map V.str))) q11 (.lst (m.names.map V.str))) := (same_new nq10).trans (same_new nq11)
  have e11 : (upd (upd H20 q10 (.tup (m.names.map V.str))) q11 (.lst (m.names.map V.str))) q11 = some (.lst (m.names.map V.str)) := upd_same
  generalize upd (upd H20 q10 (.tup (m.names.map V.str))) q11 (.lst (m.names.map V.str)) = H21 at t11 e11 ⊢
  have s21 := s20.trans t11
  refine ne_lists ok.nm.sm (SqL.of (t11 _ _ e9)) (SqL.of e11) ⟨false, rfl, iteF ?_⟩
  exact hnx _ _ ⟨_, _, _, _, _, _, _, _, _, _, _, _, _, _, rfl, D13.same s21, T13.ext s21⟩
end
end Kn
-- part SLBody
set_option maxHeartbeats 8000000
/-! The law, its first half, and the whole. -/
namespace Kn
open PySem PySem.Spec PyProof.Rows L2 Err LamX HLam
theorem vals_app : ∀ {a b : List V} {c d : List Value}, Vals a c → Vals b d → Vals (a ++ b) (c ++ d)
  | _, _, _, _, .nil, h => h
  | _, _, _, _, .cons h t, h2 => .cons h (vals_app t h2)
def PBody (T : List (Addr × Str)) : TS := fun D σ H => ∃ d l c, LInv T d l c σ H ∧ ∀ σ' H', LInv T d l c σ' H' → D.nx σ' H'
def rot3 {α : Type} : List α → List α
  | [a, b, c] => [b, c, a]
  | xs => xs
theorem vals_rot : ∀ {zs : List V} {ws : List Value}, Vals zs ws → Vals (rot3 zs) (rot3 ws)
  | _, _, .nil => .nil
  | _, _, .cons h .nil => .cons h .nil
  | _, _, .cons h (.cons h2 .nil) => .cons h (.cons h2 .nil)
  | _, _, .cons h (.cons h2 (.cons h3 .nil)) => .cons h2 (.cons h3 (.cons h .nil))
  | _, _, .cons h (.cons h2 (.cons h3 (.cons h4 t))) => .cons h (.cons h2 (.cons h3 (.cons h4 t)))
theorem eq_fok {K : PySem.W.Frag} {H : Hp} {fo td sd' sn' ls' sd st ls : Addr} {m' m : Lm} (e1 : H fo = some (.dK (fok sd' sn' (.ref ls')))) (e2 : H td = some (.dK (fok sd st (.ref ls)))) (ok : LoopOk m') (a1 : IntD H sd' m'.start) (a2 : StpD H sn' m'.steps) (a3 : Is H (.ref ls') (sumW m'.last)) (b1 : IntD H sd m.start) (b2 : StpD H st m.steps) (b3 : Is H (.ref ls) (sumW m.last)) :
    DicE H (EqN K H 2) (.ref fo) (.ref td) (eqLoop m' m) := by
  refine ⟨fo, td, _, _, eqStart m'.start m.start && (eqSteps m'.steps m.steps && (eqSum m'.last m.last && true)), rfl, rfl, fun z => ?_, .inl e1, .inl e2, fun _ => ?_, ?_⟩
  · rw [z, e2] at e1
    have q := Option.some.inj e1
    have q1 : sd = sd' := by
      have := congrArg (fun o => match o with | HO.dK ((_, .ref a) :: _) => a | _ => sd) q
      exact this
    have q2 : st = sn' := by
      have := congrArg (fun o => match o with | HO.dK (_ :: (_, .ref a) :: _) => a | _ => st) q
      exact this
    have q3 : ls = ls' := by
      have := congrArg (fun o => match o with | HO.dK (_ :: _ :: (_, .ref a) :: _) => a | _ => ls) q
      exact this
    subst q1
    subst q2
    subst q3
    have r1 := intD_inj a1 b1
    have r2 := stpD_inj a2 b2
    have r3 := sumR_inj ⟨_, rfl, a3⟩ ⟨_, rfl, b3⟩
    have r : m' = m := by
      cases m'
      cases m
      cases r1
      cases r2
      cases r3
      rfl
    subst r
    exact eqLoop_refl ok
  · exact .inr ⟨_, _, _, fok1 sd st (.ref ls), .inr (eq_start a1 b1 ok.nm.ti.nd), .inr ⟨_, _, _, fok2 sd st (.ref ls), .inr (eq_steps a2 b2 ok.kn.ti.nd (fun p hp => by rw [(ok.ss p hp).1]; exact ok.nm.ti.nd)), .inr ⟨_, _, true, fok3 sd st (.ref ls), .inl (eqb_sum ⟨_, rfl, a3⟩ ⟨_, rfl, b3⟩), rfl, rfl⟩, rfl⟩, rfl⟩
  · show eqLoop m' m = (_ && (_ && (_ && true)))
    unfold eqLoop
    rw [Bool.and_true]
theorem ErrL.part {H : Hp} {v u : V} {wl : W} {part : Str} (h : ErrL H v u wl part) : PyData.strOk part = true := by
  obtain ⟨wv, wu, _, _, _, h4⟩ := h
  rcases h4 with ⟨_, rfl⟩ | ⟨_, _, _, _, _, _, _, _, _, ⟨_, rfl⟩ | ⟨_, _, _, rfl⟩⟩ <;> decide +kernel
theorem eqv_one (p : Str) : PyData.eqv (.list [.str p]) (.list []) = false := by
  kernel_rfl
theorem shp_one {p : Str} (h : PyData.strOk p = true) : SeqAt.shaped (.list [.str p]) = true := Sms.flat (.cons (.str p h) .nil)
theorem shp_nil : SeqAt.shaped (.list []) = true := Sms.flat .nil
theorem fok_inj {a b a2 b2 : Addr} {v v2 : V} (h : some (HO.dK (fok a b v)) = some (HO.dK (fok a2 b2 v2))) : a = a2 ∧ b = b2 ∧ v = v2 := by
  unfold fok at h
  cases h
  exact ⟨rfl, rfl, rfl⟩
theorem fok_draw {H : Hp} {d l c fo sd sn : Addr} {lv : V} (D : Drw H d l c) (e : H fo = some (.dK (fok sd sn lv))) : fo ≠ d ∧ fo ≠ l := by
  obtain ⟨⟨r, t, hd⟩, ⟨ns, hl⟩, _, _⟩ := D
  refine ⟨fun z => ?_, fun z => ?_⟩
  · rw [z, hd] at e
    have q := congrArg (fun o => match o with | some (HO.dK ((k, _) :: _)) => k | _ => Sum.inr "") e
    have q2 : kLarge = (Sum.inr ("start" : Str) : Key) := q
    exact absurd q2 (by decide +kernel)
  · rw [z, hl] at e
    cases e
section
variable {P : Program} {w : World} {C CB CR : Addr} {K : PySem.W.Frag} {mg : Str → Option Value} {base : Heap} {T : List (Addr × Str)} {CS : Addr} {f c0 Pt : Addr} {A : Around} {outer : List Env} {s0 : Shared} {H00 : Hp} {E0' : XK}
theorem body_ok (L : LEnv7 P w K mg base T C CB CR CS) (hr : Room 11 (XL7 P w K mg base f c0 A outer s0 H00 E0').A) (TB : TabB base mg c0 Pt) (hT1 : (Pt, ("law.<locals>." : Str) ++ "<lambda>") ∈ T) (hT2 : ∀ p ∈ T, p.1 = Pt → p.2 = ("law.<locals>." : Str) ++ "<lambda>")
    (hgd : (XL7 P w K mg base f c0 A outer s0 H00 E0').A.guards = some []) : PSs (XL7 P w K mg base f c0 A outer s0 H00 E0') (forOf lawFor) (PBody T) := by
  have tok := tail_ok (f := f) (c0 := c0) (A := A) (outer := outer) (s0 := s0) (H00 := H00) (E0' := E0') L hr
  have S := scLaw7
  have hu := hu_of hr
  have hr1 := hr.mono (show 1 ≤ 11 by decide)
  have hr2 := hr.mono (show 2 ≤ 11 by decide)
  have hr4 := hr.mono (show 4 ≤ 11 by decide)
  have hr5 := hr.mono (show 5 ≤ 11 by decide)
  have hr9 := hr.mono (show 9 ≤ 11 by decide)
  have hr10 := hr.mono (show 10 ≤ 11 by decide)
  have hr11 := hr
  obtain ⟨fE, fdE, GE, bE, hE, iE⟩ := L.eq
  have eqO := @op_eqO (XL7 P w K mg base f c0 A outer s0 H00 E0') CX0 C fE fdE _ _ C8.E0 1 GE bE hE iE hr1 pass0
  have neO := @op_neO (XL7 P w K mg base f c0 A outer s0 H00 E0') CX0 C fE fdE _ _ C8.E0 1 GE bE hE iE L.ne0 L.hm hr2 pass0
  obtain ⟨pp1', fp1, fdp1, GP1, pp1, pb1⟩ := L.p1
  obtain ⟨pp2', fp2, fdp2, GP2, pp2, pb2⟩ := L.p2
  obtain ⟨pp3', fp3, fdp3, GP3, pp3, pb3⟩ := L.p3
  obtain ⟨pp4', fp4, fdp4, GP4, pp4, pb4⟩ := L.p4
  obtain ⟨pp5', fp5, fdp5, GP5, pp5, pb5⟩ := L.p5
  obtain ⟨fA, fdA, GA, bA, mA⟩ := L.ans
  obtain ⟨fT, fdT, GT, kT, bT, gT⟩ := L.take
  obtain ⟨fI, fdI, GI, kI, bI, gI⟩ := L.titles
  obtain ⟨fO, fdO, GO, kO, bO, gO⟩ := L.loop
  obtain ⟨fM, fdM, GM, kM, bM, gM⟩ := L.made
  obtain ⟨fX, fdX, GX, kX, bX, gX⟩ := L.other
  obtain ⟨fR, fdR, GR, kR, bR, gR⟩ := L.rows
  obtain ⟨fL, fdL, GL, kL, bL, gL⟩ := L.reply
  obtain ⟨fF, fdF, GF, kF, bF, gF⟩ := L.first
  obtain ⟨fRt, fdRt, GRt, kRt, bRt, gRt⟩ := L.right
  obtain ⟨fC, fdC, FC, bC, gC⟩ := L.caught
  obtain ⟨fi, fdi, ML, bIk⟩ := L.make
  have mi := L.fr "isinstance" (by decide)
  have mt := L.fr "tuple" (by decide)
  have ml := L.fr "list" (by decide)
  have FC0 := FC
  obtain ⟨ocC, odC, kVC, docC, pmC, anC, cdC, ctC, oslC, rfl, lkC, hcC⟩ := FC.ex
  have app : ∀ (X : Cx) {o e : Expr} {to te : TE} {apos cpos : Pos}, X.K = K → PE X o to → PE X e te → attributeBase o "append" X.env (eval o X.env) = eval o X.env →
      ((backTo cpos (starEach [e] X.env)).all (fun x => !x.1) && (backToKw cpos (keywordEach [] X.env)).all (fun x => x.1.isSome) && decide (([e] : List Expr).length + ([] : List Keyword).length + (if ([] : List Keyword).isEmpty then 0 else 1) < 30)) = true →
      (apos.endLine == cpos.line) = true → starEach [e] X.env = (false, eval e X.env) :: starEach [] X.env → (backTo cpos (starEach [] X.env)).any (·.1) = false →
      PE X (.Call (.Attribute o "append" apos) [e] [] cpos) (tBM K "list" rAppend to (tCons te tNil)) := by
    intro X o e to te apos cpos hK ho he h1 h2 h3 h4 h5
    subst hK
    exact pe_bm PySem.F.plainAttrs_list PySem.F.slot_list_append PySem.F.type_list_append mt_append ho (pa_cons he pa_nil h4) h1 h2 h3 h4 h5
  have kbn : KBn K fdi ["self", "start", "steps", "last"] 1 ["last", "start", "steps"] (fun us ws => us ++ rot3 ws) (fun vs zs => vs ++ rot3 zs) := by
    refine ⟨fun s us ws kin h1 h2 => ?_, fun r rz => vals_app r (vals_rot rz)⟩
    match us, ws, h1, h2 with
    | [u], [a, b, c], _, _ => exact bIk s u b c a kin
  refine PSs.pre (PBody T) (pss_cons (ps_set (i := 3) S.nd rfl (.inl rfl) (pe_call GI hr4 (by rfl) gI kI bI .nil pass0 (pa_cons (pv 1) (pa_cons (pe_op op_add pe_int (pe_call GT hr2 (by rfl) gT kT bT .nil pass0 (pa_cons (pv 1) (pa_cons pe_int pa_nil)))) pa_nil))))
      (pss_cons (ps_set (i := 4) S.nd rfl (.inl rfl) (pe_call GO hr5 (by rfl) gO kO bO .nil pass0 (pa_cons (pv 1) (pa_cons (pv 3) (pa_cons (pe_op op_add pe_int (pe_call GT hr2 (by rfl) gT kT bT .nil pass0 (pa_cons (pv 1) (pa_cons pe_int pa_nil)))) (pa_cons pe_int pa_nil))))))
      (pss_cons (ps_par (i := 5) (j := 6) rfl S.nd rfl rfl (by decide) rfl rfl (pa_cons (pe_call GM hr9 (by rfl) gM kM bM .nil pass0 (pa_cons (pv 4) pa_nil)) (pa_cons (pe_call GM hr9 (by rfl) gM kM bM .nil pass0 (pa_cons (pv 4) pa_nil)) pa_nil)) (by rfl) (by rfl))
      (pss_cons (ps_if (PW.pt (pw_or (pt_cmpR neO (pv 5) (pv 6) (nomark _)) (pw_or (pt_cmpR eqO (pv 5) (pv 4) (nomark _)) (pw_or1 (pt_not (pt_val (Gd.callG GRt hr9 hgd (by rfl) gRt kRt bRt pass0 (pa_cons (pv 1) (pa_cons (pv 4) (pa_cons (pv 5) pa_nil)))))))))) (pss_one (ps_ret pe_bl)) pss_nil)
      (pss_cons (ps_asg (pe_call GX hr4 (by rfl) gX kX bX .nil pass0 (pa_cons (pv 1) (pa_cons (pv 4) pa_nil))) (pg_tup rfl (pgs_cons (pg_name (i := 7) S.nd rfl (.inl rfl)) (pgs_cons (pg_name (i := 8) S.nd rfl (.inl rfl)) pgs_nil))))
      (pss_cons (ps_set (i := 9) S.nd rfl (.inr rfl) (pe_lst pa_nil))
      (pss_cons (ps_set (i := 10) S.nd rfl (.inr rfl) (pe_lst (pa_cons (pe_dget hu (pv 7) pe_str (fun _ _ => rfl)) (pa_cons (pe_dget hu (pv 7) pe_str (fun _ _ => rfl)) (pa_cons (pe_dget hu (pv 7) pe_str (fun _ _ => rfl)) pa_nil)))))
      (pss_cons (ps_set (i := 11) S.nd rfl (.inl rfl) (pe_lamcall (T := T) (TT := TCaught K CS) (k := 8) (by rfl) gC FC.kp lkC hcC bC scCa rfl (.inl rfl) (caught_gives L.gS) TB rfl hT1 hT2 hr10 (lamS_by (by show lamSB (defScope sLaw) _ = true; decide +kernel)) (by rfl) (fun _ _ _ _ _ => rfl) (fun A outer s H E f c' hrL => app _ rfl (pv 9) (pe_makeK0 ML.M ML.G hrL (by rfl) ML.g kbn (passes_call (takes_of rfl rfl rfl rfl) fun _ _ _ _ h => h) (pk_cons (pe_ix (show IxR _ (rIxL K) from ix_list) (pv 10) pe_int (fun _ _ => rfl)) (pk_cons (pe_ix (show IxR _ (rIxL K) from ix_list) (pv 10) pe_int (fun _ _ => rfl)) (pk_cons (pe_ix (show IxR _ (rIxL K) from ix_list) (pv 10) pe_int (fun _ _ => rfl)) pk_nil)))) rfl rfl rfl rfl rfl)))
      (pss_cons (ps_if (PW.pt (pw_and (pt_cmpR (op_neD hr1.units) (pv 8) (pe_lst pa_nil) (nomark _)) (pw_and1 (PW.pt (pw_or (pt_not (pt_val (pe_callB (show CallR _ (.builtin "isinstance") (rIsq K) from call_isq) (by rfl) mi PyProof.Rows.boot_isinstance (pa_cons (pv 11) (pa_cons (pe_glob (v := .ref CB) (by rfl) L.EB.glob rfl) pa_nil))))) (pw_or1 (pt_cmpR op_ne (show PE _ _ (tAttq K "part" _) from pe_attq (pv 11)) (pe_ix (show IxR _ (rIxL K) from ix_list) (pv 8) pe_int (fun _ _ => rfl)) (nomark _)))))))) (pss_one (ps_ret pe_bl)) pss_nil)
      (pss_cons (ps_if (PW.pt (pw_and (pt_cmpR (op_eqD hr1.units) (pv 8) (pe_lst pa_nil) (nomark _)) (pw_and1 (PW.pt (pw_or (pt_cmpR op_notN (pv 11) pe_non (nomark _)) (pw_or1 (pt_cmpR op_ne (pe_cmpR eqO (pe_ix (show IxR _ (rIxL K) from ix_list) (pv 9) pe_int (fun _ _ => rfl)) (pv 5) (nomark _)) (pe_cmpR (show OpR _ (compareOp .Eq) (rEqN K) from op_eqN hr1.units) (pv 7) (pv 4) (nomark _)) (nomark _)))))))) (pss_one (ps_ret pe_bl)) pss_nil)
      (pss_cons (ps_if (PW.pt (pw_and (pt_cmpR (op_eqD hr1.units) (pv 8) (pe_lst pa_nil) (nomark _)) (pw_and1 (pt_not (pt_val (Gd.callG GRt hr9 hgd (by rfl) gRt kRt bRt pass0 (pa_cons (pv 1) (pa_cons (pv 7) (pa_cons (pe_ix (show IxR _ (rIxL K) from ix_list) (pv 9) pe_int (fun _ _ => rfl)) pa_nil))))))))) (pss_one (ps_ret pe_bl)) pss_nil) tok))))))))))) ?_
  rintro Dn σ H ⟨d, l, c, ⟨y0, y2, y3, y4, y5, y6, y7, y8, y9, y10, y11, y12, y13, y14, rfl, D, hT⟩, hnx⟩
  -- the kinds
  refine ⟨_, rfl, _, rfl, d, l, c, 3, rfl, D, by decide, by decide, fun k1 H1 k10 k11 D1 B1 => ?_⟩
  obtain ⟨j1, rfl⟩ := Int.eq_ofNat_of_zero_le k10
  refine ⟨_, _, rfl, rfl, d, l, c, 1 + j1, by rw [Int.natCast_add]; rfl, D1, by omega, fun so ts H2 tis tl D2 B2 nso eso => ?_⟩
  have nmt : NmOk ts := ⟨tis, by omega, by omega⟩
  have offS := D1.off nso
  have T2 := tabs_but hT D (B1.trans B2)
  -- told
  refine ⟨_, rfl, _, rfl, _, rfl, d, l, c, 3, rfl, D2, by decide, by decide, fun k2 H3 k20 k21 D3 B3 => ⟨_, _, rfl, rfl, d, l, c, so, ts, 1 + k2, rfl, D3, B3 _ _ eso offS.1 offS.2, offS.2, nmt, by omega, by omega, fun td m H0 D0 B4 ntd ⟨sd, st, ls, told⟩ ok nm => ?_⟩⟩
  have T0 := tabs_but T2 D2 (B3.trans B4)
  have eso0 := B4 _ _ (B3 _ _ eso offS.1 offS.2) offS.1 offS.2
  rw [← nm] at eso0
  clear B1 B2 B3 B4 D1 D2 D3 T2 eso nmt tl tis ntd nso
  -- two made of it
  have toldH := told.same cut_le
  refine ⟨_, rfl, td, m, rfl, toldH.at_, ok, fun pm H4 s4 nm4 hpm => ⟨_, rfl, td, m, rfl, (toldH.same s4).at_, ok, fun ps H5 s5 nm5 hps => ?_⟩⟩
  have s05 := s4.trans s5
  have hpm5 : LoopAt C (mine H0 H5) pm m := hpm.mine.same (mine_step fun b o z _ _ _ => s5 _ _ z)
  have hps5 : LoopAt C (mine H0 H5) ps m := (hps.same (noD_base fun b kvs z => s4 _ _ z)).mine
  have D5 := D0.same s05
  have T5 := T0.ext s05
  have B05 : ButN d l H0 H5 := (But.of s05).n
  have told5 := told.same B05.cut
  obtain ⟨dx, _, _, _, hip, _⟩ := id hpm5.ex
  have hip := (mine_ne hip).2.1
  obtain ⟨dy, _, _, _, hiq, _⟩ := id hps5.ex
  have hiq := (mine_ne hiq).2.1
  have hpL := hpm5.same mine_le
  clear hpm hps nm4 nm5 s4 s5
  refine ⟨_, _, rfl, _, rfl, _, rfl, pm, dx, _, .ref C, rfl, hip, .inl ⟨ps, dy, _, rfl, hiq, rfl⟩, L.nf1, pm, m, .ref ps, rfl, hpL, ok, .inr ⟨ps, m, rfl, hps5.same mine_le, _, rfl, ?_⟩⟩
  rw [eqLoop_refl ok]
  refine ⟨false, rfl, iteF ⟨_, rfl, _, rfl, pm, dx, _, .type "dict", rfl, hip, .inr ⟨td, _, rfl, (told5.same cut_le).1, rfl⟩, L.nf2, pm, m, .ref td, rfl, hpL, ok, .inl ⟨.type "dict", .base (.dK (told5.same cut_le).1), L.dct, _, rfl, false, rfl, iteF ?_⟩⟩⟩
  refine ⟨_, rfl, _, rfl, _, rfl, d, l, c, td, pm, m, rfl, D5, T5, told5.at_, hpm5.same (mine_cut D0 D5), ok, fun H6 D6 T6 B6 => ⟨true, rfl, iteF ?_⟩⟩
  have B06 := B05.trans B6
  have told6 := told.same B06.cut
  have hpm6 := hpm5.same (mine_butN D0 D5 B6)
  have hps6 := hps5.same (mine_butN D0 D5 B6)
  clear told5 hip hiq hpL hpm5 hps5 T5 B6 B05 s05
  -- told otherwise
  refine ⟨_, rfl, _, rfl, d, l, c, td, m, rfl, D6, told6.at_, ok, fun tp fo wr due H7 D7 B7 etp ewr later => ?_⟩
  refine ⟨tp, _, rfl, SqT.of etp, rfl, _, _, rfl, _, _, rfl, rfl, ?_⟩
  have B07 := B06.trans B7.n
  have T7 := tabs_but T6 D6 B7
  have hpm7 := hpm6.same (mine_butN D0 D6 B7.n)
  have hps7 := hps6.same (mine_butN D0 D6 B7.n)
  have told7 := told.same B07.cut
  clear told6 hpm6 hps6 T6 B06 B7 D5
  obtain ⟨sd2, sn2, lv2, efo⟩ : ∃ sd2 sn2 lv2, H7 fo = some (.dK (fok sd2 sn2 lv2)) := by
    rcases later with ⟨_, a, b, v, _, _, e, _⟩ | ⟨_, _, a, b, v, e, _⟩
    · exact ⟨a, b, v, e⟩
    · exact ⟨a, b, _, e⟩
  refine ⟨by show 0 ≤ sizeLine; decide, fun fnd nfnd => ?_⟩
  have s8 : Same H7 (upd H7 fnd (.lst [])) := same_new nfnd
  have e8 : (upd H7 fnd (.lst [])) fnd = some (.lst []) := upd_same
  generalize upd H7 fnd (.lst []) = H8 at s8 e8 ⊢
  have efo8 := s8 _ _ efo
  refine ⟨_, rfl, fo, _, rfl, fok1 sd2 sn2 lv2 ▸ DGet.k (k := Sum.inr "start") efo8, _, rfl, fo, _, rfl, fok2 sd2 sn2 lv2 ▸ DGet.k (k := Sum.inr "steps") efo8, _, rfl, fo, _, rfl, fok3 sd2 sn2 lv2 ▸ DGet.k (k := Sum.inr "last") efo8, by show 3 ≤ sizeLine; decide, fun pa npa => ?_⟩
  have s9 : Same H8 (upd H8 pa (.lst [.ref sd2, .ref sn2, lv2])) := same_new npa
  have e9 : (upd H8 pa (.lst [.ref sd2, .ref sn2, lv2])) pa = some (.lst [.ref sd2, .ref sn2, lv2]) := upd_same
  generalize upd H8 pa (.lst [.ref sd2, .ref sn2, lv2]) = H9 at s9 e9 ⊢
  have s79 := s8.trans s9
  have T9 := T7.ext s79
  have D9 := D7.same s79
  -- tried
  refine ⟨T9, fun G1 eN T1 => ?_⟩
  have B1 : ButN d l H9 G1 := .ext eN
  have DG1 := D9.extN eN
  have e81 := eN _ _ (s9 _ _ e8) (fun _ z => by cases z)
  have e91 := eN _ _ e9 (fun _ z => by cases z)
  refine ⟨_, rfl, .inl ⟨rfl, _, SqL.of e81⟩, _, rfl, pa, _, 2, lv2, rfl, rfl, SqL.of e91, rfl, _, rfl, pa, _, 0, .ref sd2, rfl, rfl, SqL.of e91, rfl, _, rfl, pa, _, 1, .ref sn2, rfl, rfl, SqL.of e91, rfl, rfl, rfl, fun x dx nx ndx ne => ?_⟩
  have sx : Same G1 (upd (upd G1 dx (.own x)) x (.ins C dx [])) := same_made nx ndx
  have B7G : ButN d l H7 G1 := (But.of s79 : But d l H7 H9).n.trans B1
  have sX := (B7G.cut.trans cut_le).trans sx
  have kG : ∀ b o, H7 b = some o → (∀ ps, o ≠ .tbl ps) → G1 b = some o := fun b o z n => eN _ _ (s79 _ _ z) n
  clear eN e9 e91 e8 npa
  have fin : ∀ {G : Hp} {y7 y8 y9 y10 y11 : Option V}, ButN d l H7 G → Drw G d l c → Tabs T G → PTail T C Dn [y0, some (.ref d), y2, some (.ref so), some (.ref td), some (.ref pm), some (.ref ps), y7, y8, y9, y10, y11, y12, y13, y14] G := fun {G y7 y8 y9 y10 y11} BB DG TG => by
    exact ⟨d, l, c, ⟨_, _, _, _, _, _, _, _, _, _, so, td, sd, st, ls, pm, ps, m, H0, rfl, D0, DG, TG, B07.trans BB, eso0, offS.1, offS.2, told, ok, hpm7.same (mine_butN D0 D7 BB), hps7.same (mine_butN D0 D7 BB)⟩, hnx⟩
  rcases later with ⟨part, a1, a2, a3, wl, rfl, e, hlv, err⟩ | ⟨rfl, m2, a1, a2, ls2, e, hi1, hi2, hi3, ok2, _⟩
  · rw [e] at efo
    obtain ⟨rfl, rfl, rfl⟩ := fok_inj efo
    refine (err.same sX).init (hlv.same sX) fun dd H' s' nd => ⟨L.EB.ex, fun a na => ?_⟩
    have s5 : Same G1 (upd (upd H' dd (.xd [("part", .str part)])) a (exq a (.ref CB) (some dd))) := sx.trans ((s'.trans (same_new nd)).trans (same_new na))
    have qa : QAt (upd (upd H' dd (.xd [("part", .str part)])) a (exq a (.ref CB) (some dd))) a CB [("part", .str part)] := ⟨dd, upd_same, same_new na _ _ upd_same⟩
    generalize upd (upd H' dd (.xd [("part", .str part)])) a (exq a (.ref CB) (some dd)) = G2 at s5 qa ⊢
    have ewG := s5 _ _ (kG _ _ ewr (fun _ z => by cases z))
    refine ⟨_, rfl, by show 0 ≤ sizeLine; decide, fun z1 nz1 => ?_⟩
    have s6 : Same G2 (upd G2 z1 (.lst [])) := same_new nz1
    have ez1 : (upd G2 z1 (.lst [])) z1 = some (.lst []) := upd_same
    generalize upd G2 z1 (.lst []) = G3 at s6 ez1 ⊢
    refine ⟨.list [.str part], .list [], .lst (SqL.of (s6 _ _ ewG)) (.cons (.str _) .nil), .lst (SqL.of ez1) .nil, shp_one err.part, shp_nil, true, ?_, iteT ?_⟩
    · rw [eqv_one]
      rfl
    refine ⟨_, rfl, a, CB, _, .ref CB, .ref CB, true, rfl, qa.same s6, L.EB.is, .own CB, L.EB.own, _, rfl, iteF ⟨_, rfl, a, CB, _, .str part, rfl, qa.same s6, L.EB.is, L.EB.no, rfl, _, rfl, wr, _, 0, .str part, rfl, rfl, SqL.of (s6 _ _ ewG), rfl, rfl, false, ?_, iteF ?_⟩⟩
    · show V.bl (!decide _) = _
      rw [decide_eq_true rfl]
      rfl
    have eq0 : ∀ b : Bool, PyData.eqv (.list [.str part]) (.list []) = b → V.bl (PyData.eqv (.list [.str part]) (.list [])) = V.bl b := fun b z => by rw [z]
    have s13 := s5.trans s6
    have ew3 := s6 _ _ ewG
    clear s6 ez1 nz1
    refine ⟨_, rfl, by show 0 ≤ sizeLine; decide, fun z2 nz2 => ⟨.list [.str part], .list [], .lst (SqL.of (same_new nz2 _ _ ew3)) (.cons (.str _) .nil), .lst (SqL.of upd_same) .nil, shp_one err.part, shp_nil, false, eq0 _ (eqv_one _), iteF ?_⟩⟩
    have s7 : Same G3 (upd G3 z2 (.lst [])) := same_new nz2
    generalize upd G3 z2 (.lst []) = G4 at s7 ⊢
    refine ⟨_, rfl, by show 0 ≤ sizeLine; decide, fun z3 nz3 => ⟨.list [.str part], .list [], .lst (SqL.of (same_new nz3 _ _ (s7 _ _ ew3))) (.cons (.str _) .nil), .lst (SqL.of upd_same) .nil, shp_one err.part, shp_nil, false, eq0 _ (eqv_one _), iteF ?_⟩⟩
    have s8 : Same G4 (upd G4 z3 (.lst [])) := same_new nz3
    have s15 : Same G1 (upd G4 z3 (.lst [])) := s13.trans (s7.trans s8)
    exact fin (B7G.trans (But.of s15).n) (DG1.same s15) (T1.ext s15)
  · rw [e] at efo
    obtain ⟨rfl, rfl, rfl⟩ := fok_inj efo
    have DX := DG1.same sx
    refine .inl ⟨x, dx, _, _, ls2, m2, rfl, upd_same, hi1.same sX, hi2.same sX, hi3.same sX, ok2, fun H' bp hx => ⟨rfl, ?_⟩⟩
    have sH := made_same nx ndx bp
    have hx1 := hx.mine
    generalize upd (upd G1 dx (.own x)) x (.ins C dx []) = HX at DX hx1
    refine ⟨fnd, _, _, rfl, rfl, sH _ _ e81, by show 0 < sizeLine; decide, _, rfl, ?_⟩
    have nf : ∀ {b : Addr} {o : HO}, H7 b = some o → b ≠ fnd := fun {b o} z y => by rw [y, nfnd] at z; cases z
    have k2 : ∀ b o, H7 b = some o → (∀ ps, o ≠ .tbl ps) → (upd H' fnd (.lst ([] ++ [.ref x]))) b = some o := fun b o z n => by
      rw [upd_ne (nf z)]
      exact sH _ _ (kG _ _ z n)
    have D2 : Drw (upd H' fnd (.lst ([] ++ [.ref x]))) d l c := (DG1.same sH).own D7 nfnd
    have T2 : Tabs T (upd H' fnd (.lst ([] ++ [.ref x]))) := tabs_keep (T1.ext sH) fun b o z n _ => by
      have ne : b ≠ fnd := fun y => by
        rw [y, sH _ _ e81] at z
        exact n _ (Option.some.inj z).symm
      rw [upd_ne ne]
      exact z
    have hx2 : LoopAt C (mine HX (upd H' fnd (.lst ([] ++ [.ref x])))) x m2 := hx1.same (mine_step fun b o z _ n _ => by
      have ne : b ≠ fnd := fun y => by
        rw [y, sH _ _ e81] at z
        exact n _ (Option.some.inj z).symm
      rw [upd_ne ne]
      exact z)
    have ef : (upd H' fnd (.lst ([] ++ [.ref x]))) fnd = some (.lst [.ref x]) := upd_same
    generalize upd H' fnd (.lst ([] ++ [.ref x])) = G2 at k2 D2 T2 hx2 ef ⊢
    have B2 : ButN d l H7 G2 := fun b o z _ _ n => k2 b o z n
    clear hx hx1 bp sH sX sx nx ndx ne kG e81 DG1 B7G s79 B1 T1
    have ew2 := k2 _ _ ewr (fun _ z => by cases z)
    refine ⟨_, rfl, by show 0 ≤ sizeLine; decide, fun z1 nz1 => ⟨.list [], .list [], .lst (SqL.of (same_new nz1 _ _ ew2)) .nil, .lst (SqL.of upd_same) .nil, shp_nil, shp_nil, false, by kernel_rfl, iteF ?_⟩⟩
    have s3 : Same G2 (upd G2 z1 (.lst [])) := same_new nz1
    generalize upd G2 z1 (.lst []) = G3 at s3 ⊢
    refine ⟨_, rfl, by show 0 ≤ sizeLine; decide, fun z2 nz2 => ⟨.list [], .list [], .lst (SqL.of (same_new nz2 _ _ (s3 _ _ ew2))) .nil, .lst (SqL.of upd_same) .nil, shp_nil, shp_nil, true, by kernel_rfl, iteT ?_⟩⟩
    have s4 : Same G3 (upd G3 z2 (.lst [])) := same_new nz2
    generalize upd G3 z2 (.lst []) = G4 at s4 ⊢
    have s24 := s3.trans s4
    have c74 : Same (cut d l H7) G4 := (B2.cut.trans cut_le).trans s24
    obtain ⟨t1, t2, t3, t4⟩ := told7.same c74
    have hxL := hx2.same (mine_le.trans s24)
    have hpm4 := hpm7.same (mine_butN D0 D7 (B2.trans (But.of s24).n))
    have hpL := hpm4.same mine_le
    obtain ⟨dx1, _, _, _, hix, _⟩ := id hxL.ex
    obtain ⟨dx2, _, _, _, hip, _⟩ := id hpL.ex
    refine ⟨_, rfl, rfl, false, ?_, iteF ?_⟩
    · show V.bl (!decide _) = _
      rw [decide_eq_true rfl]
      rfl
    refine ⟨_, rfl, fnd, _, 0, .ref x, rfl, rfl, SqL.of (s24 _ _ ef), rfl, _, rfl, x, dx1, _, .ref C, rfl, hix, .inl ⟨pm, dx2, _, rfl, hip, rfl⟩, L.nf1, x, m2, .ref pm, rfl, hxL, ok2, .inr ⟨pm, m, rfl, hpL, _, rfl, ?_⟩⟩
    refine ⟨_, rfl, _, rfl, 2, _, by decide, eq_fok (s24 _ _ (k2 _ _ e (fun _ z => by cases z))) t1 ok2 (hi1.same c74) (hi2.same c74) (hi3.same c74) t2 t3 t4, rfl, false, ?_, iteF ?_⟩
    · show V.bl (!decide _) = _
      rw [decide_eq_true rfl]
      rfl
    refine ⟨_, rfl, by show 0 ≤ sizeLine; decide, fun z3 nz3 => ⟨.list [], .list [], .lst (SqL.of (same_new nz3 _ _ (s24 _ _ ew2))) .nil, .lst (SqL.of upd_same) .nil, shp_nil, shp_nil, true, by kernel_rfl, iteT ?_⟩⟩
    have s5 : Same G4 (upd G4 z3 (.lst [])) := same_new nz3
    generalize upd G4 z3 (.lst []) = G5 at s5 ⊢
    have s25 := s24.trans s5
    have B5 : ButN d l H7 G5 := B2.trans (But.of s25).n
    refine ⟨_, rfl, _, rfl, _, rfl, fnd, _, 0, .ref x, rfl, rfl, SqL.of (s25 _ _ ef), rfl, d, l, c, fo, x, m2, rfl, D2.same s25, T2.ext s25, ?_, (hx2.same (mine_cut DX D2)).same (But.of s25 : But d l G2 G5).cut, ok2, fun G6 D6 T6 B6 => ⟨true, rfl, iteF ?_⟩⟩
    · exact (show ToldF (cut d l G5) fo a1 a2 ls2 m2 from ⟨B5.cut _ _ (cut_at e (fok_draw D7 e).1 (fok_draw D7 e).2), hi1.same B5.cut, hi2.same B5.cut, hi3.same B5.cut⟩).at_
    exact fin (B5.trans B6) D6 T6
end
end Kn
-- part SLaw
set_option maxHeartbeats 8000000
/-! The law. -/
namespace Kn
open PySem PySem.Spec PyProof.Rows L2 Err LamX HLam
def spLaw7 (K : PySem.W.Frag) (T : List (Addr × Str)) : Sp := fun vs H Q _ => ∃ (a : Addr) (ns : List Int), vs = [.ref a] ∧ SqL K H a (ns.map V.int) ∧ ns.length ≤ 63 ∧ Tabs T H ∧ ∀ H', Q (.bl true) H'
theorem sql_same {K : PySem.W.Frag} {H H' : Hp} {a : Addr} {xs : List V} (h : SqL K H a xs) (s : Same H H') : SqL K H' a xs := by
  rcases h with h | h
  · exact .inl (Rd.same h s)
  · exact .inr h
section
variable {P : Program} {w : World} {C CB CR : Addr} {K : PySem.W.Frag} {mg : Str → Option Value} {base : Heap} {T : List (Addr × Str)} {CS : Addr} {f c0 Pt : Addr}
theorem ok_law7 {fd : FuncData} (F : FunC K "law" "law" sLaw f fd c0) (L : LEnv7 P w K mg base T C CB CR CS) (TB : TabB base mg c0 Pt) (hT1 : (Pt, ("law.<locals>." : Str) ++ "<lambda>") ∈ T) (hT2 : ∀ p ∈ T, p.1 = Pt → p.2 = ("law.<locals>." : Str) ++ "<lambda>") :
    Gd.FnOkG P w K mg base CX0 12 f fd ["_law_script"] (spLaw7 K T) := by
  have S := scLaw7
  obtain ⟨oc, od, kV, doc, pm, an, ct, osl, rfl, lk, hcd⟩ := F.ex
  obtain ⟨fB, fdB, GB, kB, bB, gB⟩ := L.begun
  refine Gd.okG_of lk hcd S (fun vs H Q E h => ?_) fun A outer s H vs Q E hr hg h => ?_
  · obtain ⟨a, ns, rfl, _⟩ := h
    rfl
  · obtain ⟨a, ns, rfl, hS, hn, hT, q⟩ := h
    have hr1 := hr.mono (show 1 ≤ 11 by decide)
    suffices z : ∃ t, PSs (XL7 P w K mg base f (c0) A outer s H E) (defBody sLaw) t ∧ t { nx := fun _ H' => Q .non H', rt := Q } (start NLaw7 [.ref a]) H by
      obtain ⟨t, h1, h2⟩ := z
      exact ⟨t, h1.nox, h2⟩
    refine ⟨_, pss_cons (ps_set (i := 1) S.nd rfl (.inl rfl) (pe_call GB hr1 (by rfl) gB kB bB .nil pass0 (pa_cons (pv 0) pa_nil)))
      (pss_cons (ps_for PassesOwn.never rfl (pi_range1 (by rfl) (L.fr "range" (by decide)) (pa_cons (pe_callB (call_max2 rfl) (by rfl) (L.fr "max" (by decide)) (by decide +kernel) (pa_cons pe_int (pa_cons (pe_callB (call_min2 rfl) (by rfl) (L.fr "min" (by decide)) (by decide +kernel) (pa_cons pe_int (pa_cons (pe_callB call_len_seq (by rfl) (L.fr "len" (by decide)) PySem.boot_len (pa_cons (pv 0) pa_nil)) pa_nil))) pa_nil))) pa_nil)) (pg_name (i := 2) S.nd rfl (.inl rfl))
          (body_ok L hr TB hT1 hT2 hg)) (pss_one (ps_ret pe_bl))), ?_⟩
    refine ⟨_, rfl, a, ns, rfl, hS, hn, fun d l c H1 s1 nd nl nc D => ?_⟩
    have hS1 := sql_same hS s1
    refine ⟨_, rfl, a, _, rfl, .inl hS1, 6, _, rfl, 2, _, rfl, _, rfl, ?_, ?_, for_range (fun i σ H2 => LInv T d l c σ H2)
      ⟨_, _, _, _, _, _, _, _, _, _, _, _, _, _, rfl, D, hT.ext s1⟩ ?_ ?_⟩
    · rw [List.length_map]
      split <;> (try split) <;> omega
    · rw [List.length_map]
      split <;> (try split) <;> omega
    · rintro i σ H2 hi ⟨y0, y2, y3, y4, y5, y6, y7, y8, y9, y10, y11, y12, y13, y14, rfl, z⟩
      exact ⟨d, l, c, ⟨_, _, _, _, _, _, _, _, _, _, _, _, _, _, rfl, z⟩, fun σ' H' z' => z'⟩
    · rintro σ H2 z
      obtain ⟨y0, y2, y3, y4, y5, y6, y7, y8, y9, y10, y11, y12, y13, y14, rfl, z⟩ := z
      exact q H2
end
end Kn
-- part GdE
set_option maxHeartbeats 4000000
/-! The end of a law whose defs make lambdas: the script and the empty tables of code objects are what is tracked. -/
namespace Gd
open PySem PySem.Spec PyProof.Rows L2 LamX
abbrev noTab : Obj := { cls := .none, data := .fields #[] }
/-- the script's list as it stands -/
def lstH (a : Addr) (vs : List Value) (ns : List Int) : Hp := fun b => if b = a then some (.frz { cls := .type "list", data := .seq vs.toArray } (.lst (ns.map V.int))) else none
/-- the same with the tables put in -/
def withT (cs : List (Addr × Addr)) (H : Hp) : Hp := fun b => if b ∈ cs.map (·.2) then some (.tbl #[]) else H b
section
variable {P : Program} {w : World} {K : PySem.W.Frag} {mg mb : Str → Option Value} {k : Nat} {fa a : Addr} {fd : FuncData} {x : Str} {sp : Sp} {s : Shared} {vs : List Value} {ns : List Int} {H : Hp} {cs : List (Addr × Addr)}
theorem from_heapT (kin : K.In s.heap) (gl : s.heap.Ns mainGlobals mg) (bl : s.heap.Ns builtinsNs mb) (bb : ∀ x : Str, x ≠ "__name__" → mb x = bootBuiltins x) (nl : s.heap.NoLimit) (ng : s.gens = #[])
    (bmn : ∃ (bm : Addr) (ob : Obj), mg "__builtins__" = some (.ref bm) ∧ bm ≠ builtinsNs ∧ s.heap.get? bm = some ob ∧ ob.cls = .type "module" ∧ ob.dict = some builtinsNs ∧ ob.data = .plain)
    (Cd : ∀ p ∈ cs, PySem.W.codeHdIn K p.1 p.2 = true) (Nt : ∀ p ∈ cs, s.heap.get? p.2 = some noTab) (Nk : ∀ p ∈ cs, K.lookup p.2 = none)
    (ho : s.heap.get? a = some { cls := .type "list", data := .seq vs.toArray }) (hr : Room k callerA)
    (F : ∀ base : Heap, K.In base → base.Ns mainGlobals mg → (∀ p ∈ cs, TabB base mg p.1 p.2) → FnOkG P w K mg base CX0 k fa fd [x] sp) (bind : ∀ (s : Shared) (u : Value), BindsTo s fd ⟨[u], []⟩ [(x, u)])
    (hO : Only H) (hok : HOk P w (withT cs H) s.heap) (hA : ∀ b, H b ≠ none → b = a) (hK : H a ≠ none → K.lookup a = none) (hs : sp [.ref a] (withT cs H) (fun v _ => v = .bl true) fun _ _ _ => False) :
    codeAny (model P w) callerA (.call (.ref fa) ⟨[.ref a], []⟩) (fun r s' => r = .ok (.ret (.bool true)) ∧ OldK s.heap s'.heap ∧ s'.os = s.os ∧ AllBare s'.gens) s := by
  have tabO : ∀ {b : Addr}, b ∈ cs.map (·.2) → s.heap.get? b = some noTab := fun {b} z => by
    obtain ⟨p, hp, e⟩ := List.mem_map.mp z
    subst e
    exact Nt p hp
  have inT : ∀ {b : Addr}, b ∈ cs.map (·.2) → withT cs H b = some (.tbl #[]) := fun z => if_pos z
  have offT : ∀ {b : Addr}, b ∉ cs.map (·.2) → withT cs H b = H b := fun z => if_neg z
  -- what is neither the script's list nor an empty table is seen
  have see : ∀ {b : Addr} {o : Obj}, s.heap.get? b = some o → (∀ (u : Array Value) (n : Nat), o.data ≠ .seq u n) → o.data ≠ .fields #[] → withT cs H b = none := fun {b o} z n1 n2 => by
    by_cases y : b ∈ cs.map (·.2)
    · rw [tabO y] at z
      cases z
      exact absurd rfl n2
    · rw [offT y]
      cases q : H b with
      | none => rfl
      | some u =>
        obtain rfl : b = a := hA b (by rw [q]; simp)
        rw [ho] at z
        cases z
        exact absurd rfl (n1 _ _)
  have dic : ∀ {b : Addr} {o : Obj} {es : Array DictEntry} {ep : Nat}, s.heap.get? b = some o → o.data = .dict es ep → withT cs H b = none := fun {b o es ep} z d =>
    see z (fun u n y => by rw [d] at y; cases y) fun y => by rw [d] at y; cases y
  have space : ∀ {b : Addr} {m : Str → Option Value}, s.heap.Ns b m → (hidT s.heap (withT cs H)).Ns b m := by
    rintro b m ⟨o, es, ep, z1, z2, r⟩
    exact ⟨o, es, ep, hidT_get z1 (dic z1 z2), z2, r⟩
  have kin2 : K.In (hidT s.heap (withT cs H)) := fun b o z => by
    refine hidT_get (kin b o z) ?_
    by_cases y : b ∈ cs.map (·.2)
    · obtain ⟨p, hp, e⟩ := List.mem_map.mp y
      subst e
      rw [Nk p hp] at z
      cases z
    · rw [offT y]
      cases q : H b with
      | none => rfl
      | some u =>
        obtain rfl : b = a := hA b (by rw [q]; simp)
        rw [hK (by rw [q]; simp)] at z
        cases z
  have notG : ∀ {b : Addr} {o : Obj}, s.heap.get? b = some o → (∀ (es : Array DictEntry) (ep : Nat), o.data ≠ .dict es ep) → mainGlobals ≠ b := fun {b o} z n y => by
    obtain ⟨og, es, ep, z1, z2, _⟩ := gl
    rw [y, z] at z1
    cases z1
    exact n _ _ z2
  have tabs : ∀ p ∈ cs, TabB (hidT s.heap (withT cs H)) mg p.1 p.2 := fun p hp => by
    have g2 : mainGlobals ≠ p.2 := notG (Nt p hp) fun es ep y => by cases y
    refine NdefX.tabB_of_K kin2 (Cd p hp) ?_ g2
    obtain ⟨bm, ob, m1, m2, m3, m4, m5, m6⟩ := bmn
    have g3 : mainGlobals ≠ bm := notG m3 fun es ep y => by rw [m6] at y; cases y
    refine ⟨bm, ob, m1, m2, fun y => g3 y.symm, fun y => ?_, hidT_get m3 (see m3 (fun u n y => by rw [m6] at y; cases y) fun y => by rw [m6] at y; cases y), m4, m5, m6⟩
    rw [y, Nt p hp] at m3
    cases m3
    cases m6
  have at_a : a ∉ cs.map (·.2) := fun z => by
    have y := tabO z
    rw [ho] at y
    have y2 := congrArg Obj.data (Option.some.inj y)
    cases y2
  obtain ⟨mc, n1, n2⟩ := nl
  have md : Mod K mg (hidT s.heap (withT cs H)) := ⟨kin2, space gl, ⟨mb, space bl, bb⟩, mc, space n1, n2⟩
  have e0 : Env0 P w K mg (hidT s.heap (withT cs H)) callerA [] s (withT cs H) :=
    ⟨rfl, md, fun _ _ z => of_hidT z, Nat.le_of_eq (hidT_size _ _), trivial, fun b z => absurd (show b ∈ ([] : List Addr) from z) (by simp), hok, .of_eq ng⟩
  refine codeAny_mono ((F _ kin2 (space gl) tabs).run callerA [] s _ ⟨[.ref a], []⟩ [.ref a] [.ref a] _ _ hr rfl e0 (bind s (.ref a)) (.cons rfl .nil) hs) fun r s' h => ?_
  cases r with
  | error _ => exact False.elim h
  | ok fl =>
    cases fl with
    | next => exact False.elim h
    | brk => exact False.elim h
    | cont => exact False.elim h
    | ret u =>
      obtain ⟨v, H', os, bare, un, hok', rv, q⟩ := h
      obtain rfl : v = .bl true := q
      obtain rfl : u = Value.bool true := rv
      have stay : ∀ b o, b ∉ cs.map (·.2) → s.heap.get? b = some o → s'.heap.get? b = some o := fun b o y z => by
        cases hb : withT cs H b with
        | none => exact un.keep b o z hb (fun y => absurd (show b ∈ ([] : List Addr) from y) (by simp)) (by simp)
        | some u =>
          rw [offT y] at hb
          rcases hO b with y2 | ⟨ob, xs, y2⟩
          · rw [hb] at y2
            cases y2
          · obtain ⟨e1, _⟩ := hok b _ ((offT y).trans y2)
            obtain ⟨e2, _⟩ := hok' b _ (un.frzs b ob _ ((offT y).trans y2))
            rw [z] at e1
            cases e1
            exact e2
      have more : ∀ b, b ∈ cs.map (·.2) → ∃ us : Array Value, s'.heap.get? b = some { cls := .none, data := .fields us } := fun b y => by
        obtain ⟨us, z⟩ := un.tbls b #[] (inT y)
        exact ⟨_, hok' b _ z⟩
      refine ⟨rfl, ⟨fun b o z => ?_, fun b o z => ?_⟩, os, bare⟩
      · by_cases y : b ∈ cs.map (·.2)
        · obtain ⟨us, z2⟩ := more b y
          obtain ⟨p, hp, e⟩ := List.mem_map.mp y
          subst e
          rw [Nt p hp] at z
          cases z
          refine .inr (.inl ⟨((PySem.W.codeHd_of_K kin (Cd p hp)).tab (Nt p hp)).isCodeTable, rfl, #[], us, rfl, ?_⟩)
          rw [Array.empty_append]
          exact z2
        · exact .inl (stay b o y z)
      · by_cases y : b ∈ cs.map (·.2)
        · obtain ⟨us, z2⟩ := more b y
          exact ⟨_, z2⟩
        · exact ⟨o, stay b o y z⟩
end
/-- the end of such a law, told over whatever part of the heap the head has looked at -/
theorem walkGET {l : PySem.W.OpenLaw} {n k : Nat} {q : Program} {loose : List Str} {XP : (Str → Option Value) → Heap → Prop} {YP : World → Heap → Prop} {d : DefRec} {x : Str}
    (hn : l.most = some n) (hn2 : n ≤ sizeLine) (hdf : d.params.defaults = []) (hr : Room k callerA)
    (F : ∀ (w : World) (mg : Str → Option Value) (fa : Addr) (h : Heap), YP w h → h.Ns mainGlobals mg → mg d.name = some (.ref fa) →
      ∃ (K : PySem.W.Frag) (fd : FuncData) (sp : Sp) (cs : List (Addr × Addr)), K.In h ∧ (∀ p ∈ cs, PySem.W.codeHdIn K p.1 p.2 = true) ∧ (∀ p ∈ cs, h.get? p.2 = some noTab) ∧ (∀ p ∈ cs, K.lookup p.2 = none) ∧
        (∀ (s : Shared) (u : Value), BindsTo s fd ⟨[u], []⟩ [(x, u)]) ∧
        (∀ (H : Hp) (a : Addr) (ns : List Int), ns.length ≤ n → (∀ p ∈ cs, H p.2 = some (.tbl #[])) → SqL K H a (ns.map V.int) → sp [.ref a] H (fun v _ => v = .bl true) fun _ _ _ => False) ∧
        ∀ base : Heap, K.In base → base.Ns mainGlobals mg → (∀ p ∈ cs, TabB base mg p.1 p.2) → FnOkG l.prog w K mg base CX0 k fa fd [x] sp) :
    PySem.W.WalkO q loose XP YP l.row.toRowW d [] (fun f vs => PySem.call f vs) := by
  refine Att.attach_call hn hdf fun w s₀ s mg mb fa o pm cd doc a vs ns G Y ho hd hcd hmg hobj hints hlen hg => ?_
  obtain ⟨K, fd, sp, cs, kin, Cd, Nt, Nk, bind, hsp, hF⟩ := F w mg fa _ Y G.T.g hmg
  have len : ns.length ≤ sizeLine := Nat.le_trans hlen hn2
  have rv := vals_ints hints
  have tH : ∀ (H : Hp), ∀ p ∈ cs, withT cs H p.2 = some (.tbl #[]) := fun H p hp => if_pos (List.mem_map_of_mem hp)
  have tO : ∀ {H : Hp} {b : Addr} {u : HO}, withT cs H b = some u → (u = .tbl #[] ∧ s.heap.get? b = some noTab) ∨ H b = some u := fun {H b u} y => by
    by_cases z : b ∈ cs.map (·.2)
    · have y2 : some (.tbl #[]) = some u := (if_pos z).symm.trans y
      obtain ⟨p, hp, e⟩ := List.mem_map.mp z
      subst e
      exact .inl ⟨(Option.some.inj y2).symm, Nt p hp⟩
    · exact .inr ((if_neg z).symm.trans y)
  have nT : a ∉ cs.map (·.2) := fun z => by
    obtain ⟨p, hp, e⟩ := List.mem_map.mp z
    have y := Nt p hp
    rw [e, hobj] at y
    have y2 := congrArg Obj.data (Option.some.inj y)
    cases y2
  cases hk : K.lookup a with
  | some oa =>
    have z := kin a oa hk
    rw [hobj] at z
    cases z
    have hS : SqL K (withT cs fun _ => none) a (ns.map V.int) := .inr ⟨_, vs.toArray, _, hk, rfl, rfl, rfl, by rw [List.size_toArray, hints.length]; exact len, by simpa using rv⟩
    exact from_heapT (H := fun _ => none) kin G.T.g G.T.b G.T.builtins G.T.nolimit hg G.T.bmain Cd Nt Nk hobj hr hF bind (fun _ => .inl rfl) (fun b u y => by
      rcases tO y with ⟨z1, z2⟩ | z1
      · subst z1
        exact z2
      · cases z1) (fun b y => absurd rfl y) (fun y => absurd rfl y) (hsp _ a ns hlen (tH _) hS)
  | none =>
    have at_a : lstH a vs ns a = some (.frz { cls := .type "list", data := .seq vs.toArray } (.lst (ns.map V.int))) := if_pos rfl
    have other : ∀ b, b ≠ a → lstH a vs ns b = none := fun b hb => if_neg hb
    have hO : Only (lstH a vs ns) := fun b => by
      by_cases hb : b = a
      · exact .inr ⟨_, _, if_pos hb⟩
      · exact .inl (if_neg hb)
    refine from_heapT (H := lstH a vs ns) kin G.T.g G.T.b G.T.builtins G.T.nolimit hg G.T.bmain Cd Nt Nk hobj hr hF bind hO (fun b u y => ?_) (fun b y => ?_) (fun _ => hk) (hsp _ a ns hlen (tH _) (.inl (.inr ⟨_, (if_neg nT).trans at_a⟩)))
    · rcases tO y with ⟨z1, z2⟩ | y
      · subst z1
        exact z2
      by_cases hb : b = a
      · subst hb
        rw [at_a] at y
        cases y
        exact ⟨hobj, by rw [List.length_map]; exact len, vs, _, rv, hobj⟩
      · rw [other b hb] at y
        cases y
    · by_cases hb : b = a
      · exact hb
      · exact absurd (other b hb) y
end Gd
-- part SHk1
set_option maxHeartbeats 4000000
/-! Out of the look at the heap: the law's defs, the class, its methods and properties, the errors. -/
namespace Hk
open PySem PySem.Spec PyProof.Rows L2 NdefX Err Kn
/-- a def by its address -/
theorem fq_of {K : PySem.W.Frag} {d : DQ} (e : fObs K (d.adr K) = d.val) (o : d.ok K = true) : ∃ fd, FunC K d.name d.qual d.st (d.adr K) fd (cdq K (d.adr K)) := by
  obtain ⟨o1, o⟩ := He.ba o
  obtain ⟨o2, o3⟩ := He.ba o
  have o4 : (match K.lookup (d.adr K) with
    | some ⟨_, _, .func fd, _⟩ => (match fd.code with
      | .ref _ => true
      | _ => false)
    | _ => false) = true := o3
  have o5 : PySem.W.codeIn K (.ref (match K.lookup (d.adr K) with
    | some ⟨_, _, .func fd, _⟩ => (match fd.code with
      | .ref c => c
      | _ => 0)
    | _ => 0)) d.qual = true := o1
  unfold fObs at e
  suffices z : ∀ c, c = cdq K (d.adr K) → ∃ fd, FunC K d.name d.qual d.st (d.adr K) fd c from z _ rfl
  intro c hc
  unfold cdq at hc
  cases q : K.lookup (d.adr K) with
  | none =>
    rw [q] at o4
    cases o4
  | some ob =>
    obtain ⟨oc, od, dt, osl⟩ := ob
    rw [q] at o4 o5 e hc
    cases dt with
    | func fd =>
      obtain ⟨n1, n2, n3, n4, n5, n6, n7, n8, n9, n10, n11, n12, n13, n14, n15⟩ := fd
      have e2 : (some (n1, n2, n3, n4, n5, n6, n7, n8, n15) : He.FnV) = d.val := e
      unfold DQ.val at e2
      simp only [Option.some.injEq, Prod.mk.injEq] at e2
      obtain ⟨h1, h2, h3, h4, h5, h6, h7, h8, h9⟩ := e2
      subst h1 h2 h3 h4 h5 h6 h7 h8 h9
      dsimp only at o4 o5 hc
      cases n13 with
      | ref cd =>
        obtain rfl : c = cd := hc
        exact ⟨_, ⟨_, _, _, _, _, _, _, _, rfl, q, o5⟩, o2⟩
      | _ => cases o4
    | _ => cases o4
section
variable {file : Str} {K : PySem.W.Frag} {h : Heap} {mg : Str → Option Value}
theorem fq_at (c : SaysK file h K) {d : DQ} (hd : d ∈ fq) : ∃ fd, FunC K d.name d.qual d.st (d.adr K) fd (cdq K (d.adr K)) := by
  have c1 := c.ck
  unfold chk at c1
  simp only [Bool.and_eq_true] at c1
  exact fq_of (List.map_inj_left.mp c.fs d hd) (List.all_eq_true.mp c1.2.2.2.2.2.2.2.2 d hd)
theorem md_at (c : SaysK file h K) (i : Nat) {x : Str} {n : Nat} (e : MD[i]? = some (x, n)) : ∃ fd, FunC K x x (Kn.topS n) (He.ga K x) fd (cdq K (He.ga K x)) :=
  fq_at c (d := mdD (x, n)) (List.mem_append_left _ (List.mem_map_of_mem (List.mem_of_getElem? e)))
theorem cd_at (c : SaysK file h K) (i : Nat) {d : DQ} (e : CD[i]? = some d) : ∃ fd, FunC K d.name d.qual d.st (d.adr K) fd (cdq K (d.adr K)) :=
  fq_at c (List.mem_append_right _ (List.mem_of_getElem? e))
theorem gl_at (X : K.In h) (G : h.Ns mainGlobals mg) (c : SaysK file h K) (i : Nat) {x : Str} {n : Nat} (e : MD[i]? = some (x, n)) : mg x = some (.ref (He.ga K x)) := by
  have c1 := c.ck
  unfold chk at c1
  simp only [Bool.and_eq_true] at c1
  exact He.glo_ok X G (List.all_eq_true.mp c1.2.2.2.2.2.2.2.1 _ (List.mem_of_getElem? e))
theorem fact_at (c : SaysK file h K) (i : Nat) {f : He.Fa} (e : fa[i]? = some f) : f.ok K = true := by
  have c1 := c.ck
  unfold chk at c1
  simp only [Bool.and_eq_true] at c1
  exact List.all_eq_true.mp c1.2.2.2.2.2.2.1 _ (List.mem_of_getElem? e)
theorem fr_at (X : K.In h) (G : h.Ns mainGlobals mg) (c : SaysK file h K) (i : Nat) {x : Str} (e : fa[i]? = some (.free x) := by rfl) : mg x = none := He.free_ok X G (fact_at c i e)
theorem sys_at (c : SaysK file h K) : ∃ o, K.lookup sysModules = some o := by
  have c1 := c.ck
  unfold chk genB at c1
  simp only [Bool.and_eq_true] at c1
  exact Option.isSome_iff_exists.mp c1.1.2.2.2
theorem gen_at (c : SaysK file h K) : genB K = true := by
  have c1 := c.ck
  unfold chk at c1
  simp only [Bool.and_eq_true] at c1
  exact c1.1
theorem still_at (c : SaysK file h K) : basB K (He.ga K bS) = true := by
  have c1 := c.ck
  unfold chk at c1
  simp only [Bool.and_eq_true] at c1
  exact c1.2.1.1
theorem prop_at (c : SaysK file h K) {x : Str} (hx : x ∈ (["start", "steps", "last", "kinds", "variables"] : List Str)) : PropOf K (He.ga K pC) x (He.ma K (He.ga K pC) x) (gtr K x) := by
  have c1 := c.ck
  unfold chk at c1
  simp only [Bool.and_eq_true] at c1
  have z := List.all_eq_true.mp c1.2.2.2.2.1 x hx
  unfold propB at z
  simp only [Bool.and_eq_true, decide_eq_true_eq] at z
  obtain ⟨z1, z2, z3, z4⟩ := z
  refine ⟨He.eqO_ok z1, He.eqO_ok z2, z3, ?_⟩
  unfold recB at z4
  unfold gtr
  split at z4
  · rename_i g r e
    rw [e]
    exact ⟨r, rfl⟩
  · cases z4
theorem tab_at (c : SaysK file h K) {x : Str} (hx : x ∈ TN) : PySem.W.codeHdIn K (cdq K (He.ga K x)) (tbq K x) = true ∧ K.lookup (tbq K x) = none := by
  have c1 := c.ck
  unfold chk tabK at c1
  simp only [Bool.and_eq_true] at c1
  have z := List.all_eq_true.mp c1.2.2.2.2.2.1.1 x hx
  simp only [Bool.and_eq_true] at z
  exact ⟨z.1, Option.isNone_iff_eq_none.mp z.2⟩
theorem tab_ne (c : SaysK file h K) : tbq K "_law_rows_right" ≠ tbq K "law" ∧ tbq K "_law_rows_right" ≠ tbq K "_law_first_right" ∧ tbq K "_law_first_right" ≠ tbq K "law" := by
  have c1 := c.ck
  unfold chk tabK at c1
  simp only [Bool.and_eq_true, Bool.not_eq_true', decide_eq_false_iff_not] at c1
  exact c1.2.2.2.2.2.1.2
/-- the class -/
structure PatA (K : PySem.W.Frag) (C : Addr) : Prop where
  tx : PTxt K C
  is : PIs K C
  mr : Mk K C (He.ma K C "__init__")
  mA : Meth K C "answer" (He.ma K C "answer")
  mH : Meth K C "held" (He.ma K C "held")
  mL : Meth K C "answers_along" (He.ma K C "answers_along")
  mB : Meth K C "_begun" (He.ma K C "_begun")
  mE : Meth K C "_behind" (He.ma K C "_behind")
  mT : Meth K C "_told" (He.ma K C "_told")
  eq : PySem.W.findIn K (.ref C) "__eq__" = some (some (.ref (He.ma K C "__eq__")))
  eqF : PySem.W.isFn K (.ref (He.ma K C "__eq__")) = true
  ne : PySem.W.findIn K (.ref C) "__ne__" = some (some (.builtin "object.__ne__"))
  n1 : PySem.W.notFirst K C (.ref C) = true
  n2 : PySem.W.notFirst K C (.type "dict") = true
  dc : PySem.W.kitOne K (.type "dict") (.ref C) = some false
theorem pat_at (c : SaysK file h K) : PatA K (He.ga K pC) := by
  have c1 := c.ck
  unfold chk patB genB at c1
  simp only [Bool.and_eq_true, decide_eq_true_eq] at c1
  obtain ⟨⟨g1, g2, _, _⟩, _, _, ⟨p1, p2, p3, p6, p7, p8, p9, p10, p11⟩, _⟩ := c1
  have cl := He.cls_ok (fact_at c 22 (f := .cls pC) rfl)
  exact {
    tx := ⟨cl, He.noat_ok (fact_at c 23 (f := .noat pC "_start") rfl), He.noat_ok (fact_at c 24 (f := .noat pC "_steps") rfl), He.noat_ok (fact_at c 25 (f := .noat pC "_last") rfl)⟩
    is := ⟨He.eqO_ok p1, He.eqO_ok g1, g2, p2, p3⟩
    mr := He.mkr_ok (fact_at c 26 (f := .mkr pC) rfl)
    mA := He.meth_ok (fact_at c 27 (f := .meth pC "answer") rfl)
    mH := He.meth_ok (fact_at c 28 (f := .meth pC "held") rfl)
    mL := He.meth_ok (fact_at c 29 (f := .meth pC "answers_along") rfl)
    mB := He.meth_ok (fact_at c 30 (f := .meth pC "_begun") rfl)
    mE := He.meth_ok (fact_at c 31 (f := .meth pC "_behind") rfl)
    mT := He.meth_ok (fact_at c 32 (f := .meth pC "_told") rfl)
    eq := He.eqO_ok p7
    eqF := p8
    ne := He.eqO_ok p9
    n1 := p10
    n2 := p11
    dc := p6 }
/-- an error of the package -/
structure ErrA (P : Program) (K : PySem.W.Frag) (mg : Str → Option Value) (x att : Str) (C : Addr) : Prop where
  gl : mg x = some (.ref C)
  kp : PySem.W.keepIn K (.ref C) = true
  one : One P K C att
  is : Isi K C
  own : PySem.W.kitOne K (.ref C) (.ref C) = some true
  no : PySem.W.findIn K (.ref C) att = some none
  ex : PySem.W.exmOne K (.ref C) (.ref (He.ga K bS)) = some true
theorem err_at {P : Program} (X : K.In h) (G : h.Ns mainGlobals mg) (c : SaysK P.main.file h K) (tp : (P.main.scope.names.lookup ("super" : Str)).isSome = false) {d : ErrD} (hd : d ∈ ED) (t : Text d) : ErrA P K mg d.nm d.att (He.ga K d.nm) := by
  have c1 := c.ck
  unfold chk at c1
  simp only [Bool.and_eq_true] at c1
  have z := List.all_eq_true.mp c1.2.2.1 d hd
  unfold errB at z
  simp only [Bool.and_eq_true, decide_eq_true_eq] at z
  obtain ⟨z1, z2, z3, z4, z5⟩ := z
  have g := gen_at c
  have b2 := z2
  unfold basB at b2
  simp only [Bool.and_eq_true, decide_eq_true_eq] at b2
  have o := z4
  unfold oneB at o
  simp only [Bool.and_eq_true, decide_eq_true_eq] at o
  exact {
    gl := He.glo_ok X G z1
    kp := b2.2.1
    one := one_of (l := [.ref (He.ga K bS)]) t (List.map_inj_left.mp c.is d hd) z4 z2 z3 g tp
    is := isi_of (l := [.ref (He.ga K bS)]) z2 z3 g
    own := by
      rw [kit_ref (l := [He.ga K d.nm, He.ga K bS]) z3 rfl z2]
      exact congrArg some (decide_eq_true (List.mem_cons_self ..))
    no := He.eqO_ok o.2.2.2.2.2.2
    ex := z5 }
end
end Hk
-- part SHk2
set_option maxHeartbeats 4000000
/-! Every def's promise, one out of the other. -/
namespace Hk
open PySem PySem.Spec PyProof.Rows L2 NdefX Err Kn LamX
section
variable {P : Program} {w : World} {file : Str} {K : PySem.W.Frag} {h : Heap} {mg : Str → Option Value} {base : Heap}
theorem df_of (X : K.In h) (G : h.Ns mainGlobals mg) (c : SaysK file h K) {CX : CXT} {k : Nat} {ps : List Str} {sp : Sp} (i : Nat) (x : Str) (n : Nat) (e : MD[i]? = some (x, n))
    (B : ∀ (kV doc pm : Value) (an : Option Addr) (cdv ct : Value) (us : List Value), us.length = ps.length → bindArgs (PySem.W.fnOf x x (defArgs (Kn.topS n)) (defBody (Kn.topS n)) (defScope (Kn.topS n)) .none kV doc pm an cdv ct) ⟨us, []⟩ = pure (ps.zip us))
    (ok : ∀ (f : Addr) (fd : FuncData), L2.Fun K x x (Kn.topS n) f fd → FnOk P w K mg base CX k f fd ps sp) : Df P w K mg base CX k x ps sp := by
  obtain ⟨fd, F⟩ := md_at c i e
  exact ⟨_, fd, ok _ _ F.toFun, F.kp, F.toFun.binds B, gl_at X G c i e⟩
/-- what the head tells, in short -/
structure Hd (file : Str) (K : PySem.W.Frag) (h : Heap) (mg : Str → Option Value) : Prop where
  X : K.In h
  G : h.Ns mainGlobals mg
  c : SaysK file h K
theorem Hd.fr (d : Hd file K h mg) (i : Nat) {x : Str} (e : fa[i]? = some (.free x) := by rfl) : mg x = none := fr_at d.X d.G d.c i e
theorem Hd.super (d : Hd file K h mg) : mg "super" = none := d.fr 0
theorem Hd.isinst (d : Hd file K h mg) : mg "isinstance" = none := d.fr 1
theorem Hd.int (d : Hd file K h mg) : mg "int" = none := d.fr 2
theorem Hd.bool (d : Hd file K h mg) : mg "bool" = none := d.fr 3
theorem Hd.str (d : Hd file K h mg) : mg "str" = none := d.fr 4
theorem Hd.list (d : Hd file K h mg) : mg "list" = none := d.fr 5
theorem Hd.tuple (d : Hd file K h mg) : mg "tuple" = none := d.fr 6
theorem Hd.dict (d : Hd file K h mg) : mg "dict" = none := d.fr 7
theorem Hd.len (d : Hd file K h mg) : mg "len" = none := d.fr 8
theorem Hd.all (d : Hd file K h mg) : mg "all" = none := d.fr 9
theorem Hd.max (d : Hd file K h mg) : mg "max" = none := d.fr 10
theorem Hd.min (d : Hd file K h mg) : mg "min" = none := d.fr 11
theorem Hd.sorted (d : Hd file K h mg) : mg "sorted" = none := d.fr 12
theorem Hd.range (d : Hd file K h mg) : mg "range" = none := d.fr 13
theorem Hd.enum (d : Hd file K h mg) : mg "enumerate" = none := d.fr 14
theorem Hd.repr (d : Hd file K h mg) : mg "repr" = none := d.fr 15
theorem Hd.abs (d : Hd file K h mg) : mg "abs" = none := d.fr 16
theorem Hd.sum (d : Hd file K h mg) : mg "sum" = none := d.fr 17
theorem Hd.zip (d : Hd file K h mg) : mg "zip" = none := d.fr 18
theorem Hd.letters (d : Hd file K h mg) : ∃ t, mg "LETTERS" = some (.str LET t) := He.str_ok d.X d.G (fact_at d.c 19 (f := .str "LETTERS" "abcdefghijklmnopqrstuvwxyz") rfl)
theorem Hd.pat (d : Hd file K h mg) : mg "Loop" = some (.ref (He.ga K pC)) := He.glo_ok d.X d.G (fact_at d.c 20 (f := .glo pC) rfl)
theorem Hd.still (d : Hd file K h mg) : mg "StillError" = some (.ref (He.ga K bS)) := He.glo_ok d.X d.G (fact_at d.c 21 (f := .glo bS) rfl)
variable (d : Hd file K h mg)
include d
theorem df_number : Df P w K mg base CX0 1 "is_number" ["value"] (spJ isNum) := by
  exact df_of d.X d.G d.c 0 "is_number" 6 rfl (fun _ _ _ _ _ _ us hl => match us, hl with | [_], _ => rfl) fun _ _ F => ok_number F d.isinst d.int d.bool
theorem df_within : Df P w K mg base CX0 2 "is_within" ["value", "least", "greatest"] spWithin := by
  obtain ⟨f1, fd1, G1, k1, b1, g1⟩ := df_number (P := P) (w := w) (base := base) d
  exact df_of d.X d.G d.c 1 "is_within" 7 rfl (fun _ _ _ _ _ _ us hl => match us, hl with | [_, _, _], _ => rfl) fun _ _ F => ok_within F G1 k1 b1 g1
theorem df_name : Df P w K mg base CX0 1 "is_name" ["value"] spName := by
  exact df_of d.X d.G d.c 2 "is_name" 8 rfl (fun _ _ _ _ _ _ us hl => match us, hl with | [_], _ => rfl) fun _ _ F => ok_name F d.isinst d.str d.len d.all d.letters
theorem df_isList : Df P w K mg base CX0 1 "is_list" ["value"] spIsList := by
  exact df_of d.X d.G d.c 3 "is_list" 9 rfl (fun _ _ _ _ _ _ us hl => match us, hl with | [_], _ => rfl) fun _ _ F => ok_isList F d.isinst d.list d.tuple
theorem df_tupOf : Df P w K mg base CX0 1 "is_tuple_of" ["value", "many"] spTupOf := by
  exact df_of d.X d.G d.c 4 "is_tuple_of" 10 rfl (fun _ _ _ _ _ _ us hl => match us, hl with | [_, _], _ => rfl) fun _ _ F => ok_tupOf F d.isinst d.tuple d.len
theorem df_dctN : Df P w K mg base CX0 2 "is_dict_of_names" ["value", "fewest", "most"] spDctN := by
  obtain ⟨f1, fd1, G1, k1, b1, g1⟩ := df_name (P := P) (w := w) (base := base) d
  exact df_of d.X d.G d.c 5 "is_dict_of_names" 11 rfl (fun _ _ _ _ _ _ us hl => match us, hl with | [_, _, _], _ => rfl) fun _ _ F => ok_dctN F G1 k1 b1 g1 d.isinst d.dict d.len d.all
theorem df_keyOf : Df P w K mg base CX0 1 "is_key_of" ["value", "names"] spKeyOf := by
  exact df_of d.X d.G d.c 6 "is_key_of" 12 rfl (fun _ _ _ _ _ _ us hl => match us, hl with | [_, _], _ => rfl) fun _ _ F => ok_keyOf F d.isinst d.str
theorem df_row : Df P w K mg base CX0 2 "is_row" ["kinds", "value"] spRow := by
  obtain ⟨f1, fd1, G1, k1, b1, g1⟩ := df_tupOf (P := P) (w := w) (base := base) d
  obtain ⟨f2, fd2, G2, k2, b2, g2⟩ := df_keyOf (P := P) (w := w) (base := base) d
  obtain ⟨f3, fd3, G3, k3, b3, g3⟩ := df_number (P := P) (w := w) (base := base) d
  exact df_of d.X d.G d.c 7 "is_row" 13 rfl (fun _ _ _ _ _ _ us hl => match us, hl with | [_, _], _ => rfl) fun _ _ F => ok_row F G1 k1 b1 g1 G2 k2 b2 g2 G3 k3 b3 g3
theorem df_term : Df P w K mg base CX0 3 "is_term" ["variables", "value"] spTerm := by
  obtain ⟨f1, fd1, G1, k1, b1, g1⟩ := df_tupOf (P := P) (w := w) (base := base) d
  obtain ⟨f2, fd2, G2, k2, b2, g2⟩ := df_keyOf (P := P) (w := w) (base := base) d
  obtain ⟨f3, fd3, G3, k3, b3, g3⟩ := df_within (P := P) (w := w) (base := base) d
  exact df_of d.X d.G d.c 9 "is_term" 16 rfl (fun _ _ _ _ _ _ us hl => match us, hl with | [_, _], _ => rfl) fun _ _ F => ok_term F G1 k1 b1 g1 G2 k2 b2 g2 G3 k3 b3 g3
theorem df_sum : Df P w K mg base CX0 4 "is_sum" ["variables", "value"] spSum := by
  obtain ⟨f1, fd1, G1, k1, b1, g1⟩ := df_term (P := P) (w := w) (base := base) d
  exact df_of d.X d.G d.c 10 "is_sum" 17 rfl (fun _ _ _ _ _ _ us hl => match us, hl with | [_, _], _ => rfl) fun _ _ F => ok_sum F G1 k1 b1 g1 d.isinst d.tuple d.all d.zip
theorem df_start : Df P w K mg base CX0 3 "is_start" ["value"] spStart := by
  obtain ⟨f1, fd1, G1, k1, b1, g1⟩ := df_dctN (P := P) (w := w) (base := base) d
  obtain ⟨f2, fd2, G2, k2, b2, g2⟩ := df_within (P := P) (w := w) (base := base) d
  exact df_of d.X d.G d.c 11 "is_start" 18 rfl (fun _ _ _ _ _ _ us hl => match us, hl with | [_], _ => rfl) fun _ _ F => ok_start F G1 k1 b1 g1 G2 k2 b2 g2 d.all
theorem df_sums : Df P w K mg base CX0 5 "are_sums" ["variables", "value"] spSums := by
  obtain ⟨f1, fd1, G1, k1, b1, g1⟩ := df_keyOf (P := P) (w := w) (base := base) d
  obtain ⟨f2, fd2, G2, k2, b2, g2⟩ := df_sum (P := P) (w := w) (base := base) d
  exact df_of d.X d.G d.c 12 "are_sums" 19 rfl (fun _ _ _ _ _ _ us hl => match us, hl with | [_, _], _ => rfl) fun _ _ F => ok_sums F G1 k1 b1 g1 G2 k2 b2 g2 d.isinst d.dict d.len d.all
theorem df_steps : Df P w K mg base CX0 6 "are_steps" ["variables", "value"] spSteps := by
  obtain ⟨f1, fd1, G1, k1, b1, g1⟩ := df_dctN (P := P) (w := w) (base := base) d
  obtain ⟨f2, fd2, G2, k2, b2, g2⟩ := df_sums (P := P) (w := w) (base := base) d
  exact df_of d.X d.G d.c 13 "are_steps" 20 rfl (fun _ _ _ _ _ _ us hl => match us, hl with | [_, _], _ => rfl) fun _ _ F => ok_steps F G1 k1 b1 g1 G2 k2 b2 g2 d.all
theorem df_last : Df P w K mg base CX0 5 "is_last" ["variables", "value"] spLast := by
  obtain ⟨f1, fd1, G1, k1, b1, g1⟩ := df_sum (P := P) (w := w) (base := base) d
  exact df_of d.X d.G d.c 14 "is_last" 21 rfl (fun _ _ _ _ _ _ us hl => match us, hl with | [_, _], _ => rfl) fun _ _ F => ok_last F G1 k1 b1 g1 d.all
theorem df_worth : Df P w K mg base CX0 1 "worth_of" ["terms", "values", "powers"] spWorth := by
  exact df_of d.X d.G d.c 15 "worth_of" 22 rfl (fun _ _ _ _ _ _ us hl => match us, hl with | [_, _, _], _ => rfl) fun _ _ F => ok_worth F d.sum
/-! ### the law's own -/
theorem df_begun : Df P w K mg base CX0 1 "_law_begun" ["_law_script"] (spBegun K) := by
  exact df_of d.X d.G d.c 16 "_law_begun" 25 rfl (fun _ _ _ _ _ _ us hl => match us, hl with | [_], _ => rfl) fun _ _ F => ok_begun F d.abs
theorem df_take : Df P w K mg base CX0 2 "_law_take" ["_law_draw", "_law_amount"] spTake := by
  obtain ⟨fdM, M⟩ := md_at d.c 17 (x := "_law_mixed") (n := 26) rfl
  exact df_of d.X d.G d.c 18 "_law_take" 27 rfl (fun _ _ _ _ _ _ us hl => match us, hl with | [_, _], _ => rfl) fun _ _ F =>
    ok_take F M.toFun (M.toFun.binds (ps := ["_law_draw"]) fun _ _ _ _ _ _ us hl => match us, hl with | [_], _ => rfl) (gl_at d.X d.G d.c 17 (x := "_law_mixed") (n := 26) rfl) d.int
theorem df_pick : Df P w K mg base CX0 3 "_law_pick" ["_law_draw", "_law_some"] spPick := by
  obtain ⟨fdM, M⟩ := md_at d.c 17 (x := "_law_mixed") (n := 26) rfl
  obtain ⟨fdT, T⟩ := md_at d.c 18 (x := "_law_take") (n := 27) rfl
  exact df_of d.X d.G d.c 19 "_law_pick" 28 rfl (fun _ _ _ _ _ _ us hl => match us, hl with | [_, _], _ => rfl) fun _ _ F =>
    ok_pick F T.toFun M.toFun (T.toFun.binds (ps := ["_law_draw", "_law_amount"]) fun _ _ _ _ _ _ us hl => match us, hl with | [_, _], _ => rfl) (M.toFun.binds (ps := ["_law_draw"]) fun _ _ _ _ _ _ us hl => match us, hl with | [_], _ => rfl)
      (gl_at d.X d.G d.c 18 (x := "_law_take") (n := 27) rfl) (gl_at d.X d.G d.c 17 (x := "_law_mixed") (n := 26) rfl) d.int d.len
theorem df_shuf : Df P w K mg base CX0 3 "_law_shuffled" ["_law_draw", "_law_some"] spShuf := by
  obtain ⟨f1, fd1, G1, k1, b1, g1⟩ := df_take (P := P) (w := w) (base := base) d
  exact df_of d.X d.G d.c 20 "_law_shuffled" 29 rfl (fun _ _ _ _ _ _ us hl => match us, hl with | [_, _], _ => rfl) fun _ _ F => ok_shuf F G1 k1 b1 g1 d.len d.list
theorem df_titles : Df P w K mg base CX0 4 "_law_titles" ["_law_draw", "_law_many"] spTitles := by
  obtain ⟨f1, fd1, G1, k1, b1, g1⟩ := df_shuf (P := P) (w := w) (base := base) d
  exact df_of d.X d.G d.c 22 "_law_titles" 31 rfl (fun _ _ _ _ _ _ us hl => match us, hl with | [_, _], _ => rfl) fun _ _ F => ok_titles F G1 k1 b1 g1 d.sorted
theorem df_lsum : Df P w K mg base CX0 4 "_law_sum" ["_law_draw", "_law_titles_here", "_law_most", "_law_highest"] spLSum := by
  obtain ⟨f1, fd1, G1, k1, b1, g1⟩ := df_take (P := P) (w := w) (base := base) d
  obtain ⟨f2, fd2, G2, k2, b2, g2⟩ := df_pick (P := P) (w := w) (base := base) d
  exact df_of d.X d.G d.c 23 "_law_sum" 32 rfl (fun _ _ _ _ _ _ us hl => match us, hl with | [_, _, _, _], _ => rfl) fun _ _ F => ok_lsum F G1 k1 b1 g1 G2 k2 b2 g2 d.range d.sorted d.tuple
theorem df_lloop : Df P w K mg base CX0 5 "_law_loop" ["_law_draw", "_law_sorts_here", "_law_many", "_law_highest"] spLLoop := by
  obtain ⟨f1, fd1, G1, k1, b1, g1⟩ := df_take (P := P) (w := w) (base := base) d
  obtain ⟨f2, fd2, G2, k2, b2, g2⟩ := df_pick (P := P) (w := w) (base := base) d
  obtain ⟨f3, fd3, G3, k3, b3, g3⟩ := df_titles (P := P) (w := w) (base := base) d
  obtain ⟨f4, fd4, G4, k4, b4, g4⟩ := df_lsum (P := P) (w := w) (base := base) d
  exact df_of d.X d.G d.c 24 "_law_loop" 33 rfl (fun _ _ _ _ _ _ us hl => match us, hl with | [_, _, _, _], _ => rfl) fun _ _ F => ok_lloop F G1 k1 b1 g1 G2 k2 b2 g2 G3 k3 b3 g3 G4 k4 b4 g4 d.sorted d.tuple d.min d.dict
theorem df_lrows : Df P w K mg base CX0 4 "_law_rows" ["_law_draw", "_law_model", "_law_most"] spLRows := by
  obtain ⟨f1, fd1, G1, k1, b1, g1⟩ := df_take (P := P) (w := w) (base := base) d
  obtain ⟨f2, fd2, G2, k2, b2, g2⟩ := df_pick (P := P) (w := w) (base := base) d
  exact df_of d.X d.G d.c 26 "_law_rows" 35 rfl (fun _ _ _ _ _ _ us hl => match us, hl with | [_, _, _], _ => rfl) fun _ _ F => ok_lrows F G1 k1 b1 g1 G2 k2 b2 g2 d.range
theorem df_lwo : Df P w K mg base CX0 1 "_law_worth" ["_law_some", "_law_held", "_law_number_here"] spLWo := by
  exact df_of d.X d.G d.c 27 "_law_worth" 36 rfl (fun _ _ _ _ _ _ us hl => match us, hl with | [_, _, _], _ => rfl) fun _ _ F => ok_lwo F d.sum
theorem df_lre : Df P w K mg base CX0 2 "_law_loop_reply" ["_law_told_here", "_law_rows_here"] spLRe := by
  obtain ⟨f1, fd1, G1, k1, b1, g1⟩ := df_lwo (P := P) (w := w) (base := base) d
  exact df_of d.X d.G d.c 28 "_law_loop_reply" 37 rfl (fun _ _ _ _ _ _ us hl => match us, hl with | [_, _], _ => rfl) fun _ _ F => ok_lre F G1 k1 b1 g1 d.dict d.list
theorem df_lother : Df P w K mg base CX0 4 "_law_otherwise" ["_law_draw", "_law_told_here"] spLOther := by
  obtain ⟨f1, fd1, G1, k1, b1, g1⟩ := df_pick (P := P) (w := w) (base := base) d
  exact df_of d.X d.G d.c 29 "_law_otherwise" 38 rfl (fun _ _ _ _ _ _ us hl => match us, hl with | [_, _], _ => rfl) fun _ _ F => ok_lother F G1 k1 b1 g1 d.sorted d.dict d.list
omit d
theorem caught_at (d : Hd file K h mg) : ∃ (f : Addr) (fd : FuncData), L2.Fun K "_law_caught" "_law_caught" sCaught f fd ∧ Binds K fd ["_law_work"] [] ∧ mg "_law_caught" = some (.ref f) := by
  obtain ⟨fd, F⟩ := md_at d.c 21 (x := "_law_caught") (n := 30) rfl
  exact ⟨_, fd, F.toFun, F.toFun.binds fun _ _ _ _ _ _ us hl => match us, hl with | [_], _ => rfl, gl_at d.X d.G d.c 21 (x := "_law_caught") (n := 30) rfl⟩
end
end Hk
-- part SHk3
set_option maxHeartbeats 4000000
/-! The class, the rows told right, the law. -/
namespace Hk
open PySem PySem.Spec PyProof.Rows L2 NdefX Err Kn LamX
section
variable {P : Program} {w : World} {K : PySem.W.Frag} {h : Heap} {mg : Str → Option Value} {base : Heap}
theorem eLoop (d : Hd P.main.file K h mg) (tp : (P.main.scope.names.lookup ("super" : Str)).isSome = false) : ErrA P K mg "BadLoop" "part" (He.ga K "BadLoop") := err_at d.X d.G d.c tp (d := d0) (by unfold ED; exact List.mem_cons_self ..) t0
theorem eRows (d : Hd P.main.file K h mg) (tp : (P.main.scope.names.lookup ("super" : Str)).isSome = false) : ErrA P K mg "BadRows" "at" (He.ga K "BadRows") := err_at d.X d.G d.c tp (d := d1) (by unfold ED; exact List.mem_cons_of_mem _ (List.mem_cons_self ..)) t1
theorem etx {x att : Str} {C : Addr} (e : ErrA P K mg x att C) : ETxt K mg (He.ga K bS) x C att := ⟨e.gl, e.kp, e.is, e.own, e.no, e.ex⟩
variable (d : Hd P.main.file K h mg) (tp : (P.main.scope.names.lookup ("super" : Str)).isSome = false)
include d
/-- a method by its text -/
theorem bg_at : ∃ fd : FuncData, FnOk P w K mg base CX0 1 (He.ma K (He.ga K pC) "_begun") fd ["self"] (spBg (He.ga K pC)) ∧ Binds K fd ["self"] [] := by
  obtain ⟨fd, F⟩ := cd_at d.c 10 (d := meD "_begun" "Loop._begun" 10) rfl
  exact ⟨fd, ok_bg F.toFun (pat_at d.c).tx, F.toFun.binds fun _ _ _ _ _ _ us hl => match us, hl with | [_], _ => rfl⟩
theorem td_at : ∃ fd : FuncData, FnOk P w K mg base CX0 2 (He.ma K (He.ga K pC) "_told") fd ["self", "values"] (spTd (He.ga K pC)) ∧ Binds K fd ["self", "values"] [] := by
  obtain ⟨f1, fd1, G1, k1, b1, g1⟩ := df_worth (P := P) (w := w) (base := base) d
  obtain ⟨fd, F⟩ := cd_at d.c 12 (d := meD "_told" "Loop._told" 12) rfl
  exact ⟨fd, ok_td F.toFun (pat_at d.c).tx G1 k1 b1 g1, F.toFun.binds fun _ _ _ _ _ _ us hl => match us, hl with | [_, _], _ => rfl⟩
theorem bh_at : ∃ fd : FuncData, FnOk P w K mg base CX0 2 (He.ma K (He.ga K pC) "_behind") fd ["self", "values", "row"] (spBh (He.ga K pC)) ∧ Binds K fd ["self", "values", "row"] [] := by
  obtain ⟨f1, fd1, G1, k1, b1, g1⟩ := df_worth (P := P) (w := w) (base := base) d
  obtain ⟨fd, F⟩ := cd_at d.c 11 (d := meD "_behind" "Loop._behind" 11) rfl
  exact ⟨fd, ok_bh F.toFun (pat_at d.c).tx G1 k1 b1 g1, F.toFun.binds fun _ _ _ _ _ _ us hl => match us, hl with | [_, _, _], _ => rfl⟩
theorem al_at : ∃ fd : FuncData, FnOk P w K mg base CX0 3 (He.ma K (He.ga K pC) "answers_along") fd ["self", "rows"] (spAl (He.ga K pC)) ∧ Binds K fd ["self", "rows"] [] := by
  have A := pat_at d.c
  obtain ⟨fB, GB, bB⟩ := bg_at (P := P) (w := w) (base := base) d
  obtain ⟨fH, GH, bH⟩ := bh_at (P := P) (w := w) (base := base) d
  obtain ⟨fT, GT, bT⟩ := td_at (P := P) (w := w) (base := base) d
  obtain ⟨fd, F⟩ := cd_at d.c 9 (d := meD "answers_along" "Loop.answers_along" 9) rfl
  exact ⟨fd, ok_al F.toFun A.tx GB bB A.mB GH bH A.mE GT bT A.mT, F.toFun.binds fun _ _ _ _ _ _ us hl => match us, hl with | [_, _], _ => rfl⟩
include tp
theorem df_rows : Df P w K mg base (L2.CX P w) 3 "checked_rows" ["kinds", "rows"] (spRows (He.ga K "BadRows")) := by
  obtain ⟨f1, fd1, G1, k1, b1, g1⟩ := df_isList (P := P) (w := w) (base := base) d
  obtain ⟨f2, fd2, G2, k2, b2, g2⟩ := df_row (P := P) (w := w) (base := base) d
  have E := eRows d tp
  exact df_of d.X d.G d.c 8 "checked_rows" 14 rfl (fun _ _ _ _ _ _ us hl => match us, hl with | [_, _], _ => rfl) fun _ _ F => ok_rows F G1 k1 b1 g1 G2 k2 b2 g2 E.one d.super E.gl E.kp d.enum d.list
theorem an_at : ∃ fd : FuncData, FnOk P w K mg base (L2.CX P w) 4 (He.ma K (He.ga K pC) "answer") fd ["self", "rows"] (spRw (He.ga K pC) (He.ga K "BadRows") goodA) ∧ Binds K fd ["self", "rows"] [] ∧ ∀ (s : Shared) (u v : Value), BindsTo s fd ⟨[u], [("rows", v)]⟩ [("self", u), ("rows", v)] := by
  obtain ⟨f1, fd1, G1, k1, b1, g1⟩ := df_rows (P := P) (w := w) (base := base) d tp
  have A := pat_at d.c
  obtain ⟨fL, GL, bL⟩ := al_at (P := P) (w := w) (base := base) d
  obtain ⟨fd, F⟩ := cd_at d.c 7 (d := meD "answer" "Loop.answer" 7) rfl
  refine ⟨fd, ok_an F.toFun A.tx G1 k1 b1 g1 GL bL A.mL, F.toFun.binds fun _ _ _ _ _ _ us hl => match us, hl with | [_, _], _ => rfl, fun s u v => ?_⟩
  obtain ⟨oc, od, kV, doc, pm, an, ct, osl, rfl, _, _⟩ := F.ex
  exact .of_eq rfl
theorem hl_at : ∃ fd : FuncData, FnOk P w K mg base (L2.CX P w) 4 (He.ma K (He.ga K pC) "held") fd ["self", "rows"] (spRw (He.ga K pC) (He.ga K "BadRows") goodH) ∧ Binds K fd ["self", "rows"] [] ∧ ∀ (s : Shared) (u v : Value), BindsTo s fd ⟨[u], [("rows", v)]⟩ [("self", u), ("rows", v)] := by
  obtain ⟨f1, fd1, G1, k1, b1, g1⟩ := df_rows (P := P) (w := w) (base := base) d tp
  have A := pat_at d.c
  obtain ⟨fB, GB, bB⟩ := bg_at (P := P) (w := w) (base := base) d
  obtain ⟨fH, GH, bH⟩ := bh_at (P := P) (w := w) (base := base) d
  obtain ⟨fd, F⟩ := cd_at d.c 8 (d := meD "held" "Loop.held" 8) rfl
  refine ⟨fd, ok_hl F.toFun A.tx G1 k1 b1 g1 GB bB A.mB GH bH A.mE, F.toFun.binds fun _ _ _ _ _ _ us hl => match us, hl with | [_, _], _ => rfl, fun s u v => ?_⟩
  obtain ⟨oc, od, kV, doc, pm, an, ct, osl, rfl, _, _⟩ := F.ex
  exact .of_eq rfl
theorem mk_at : ∃ fd : FuncData, MkL P w K mg base (He.ga K pC) (He.ga K "BadLoop") (He.ma K (He.ga K pC) "__init__") fd ∧ ∀ (s : Shared) (u a b c : Value), BindsTo s fd ⟨[u], [("last", c), ("start", a), ("steps", b)]⟩ [("self", u), ("start", a), ("steps", b), ("last", c)] := by
  obtain ⟨f1, fd1, G1, k1, b1, g1⟩ := df_start (P := P) (w := w) (base := base) d
  obtain ⟨f2, fd2, G2, k2, b2, g2⟩ := df_steps (P := P) (w := w) (base := base) d
  obtain ⟨f3, fd3, G3, k3, b3, g3⟩ := df_last (P := P) (w := w) (base := base) d
  have A := pat_at d.c
  have E := eLoop d tp
  obtain ⟨fd, F⟩ := cd_at d.c 0 (d := meD "__init__" "Loop.__init__" 0) rfl
  refine ⟨fd, ⟨ok_initE F.toFun A.tx G1 k1 b1 g1 G2 k2 b2 g2 G3 k3 b3 g3 E.one d.super E.gl E.kp d.sorted, A.mr, F.toFun.binds fun _ _ _ _ _ _ us hl => match us, hl with | [_, _, _, _], _ => rfl, d.pat⟩, fun s u a b c => ?_⟩
  obtain ⟨oc, od, kV, doc, pm, an, ct, osl, rfl, _, _⟩ := F.ex
  exact .of_eq rfl
theorem df_lml : Df P w K mg base CX0 9 "_law_made_loop" ["_law_told_here"] (spLMl (He.ga K pC)) := by
  obtain ⟨fdi, M, _⟩ := mk_at (P := P) (w := w) (base := base) d tp
  exact df_of d.X d.G d.c 25 "_law_made_loop" 34 rfl (fun _ _ _ _ _ _ us hl => match us, hl with | [_], _ => rfl) fun _ _ F => ok_lml F M.M M.G M.b M.g
omit tp
theorem p1_at : Pd P w K mg base (He.ga K pC) "start" (spP1 (He.ga K pC)) := by
  obtain ⟨fd, F⟩ := cd_at d.c 2 (d := prD "start" "Loop.start" 2) rfl
  exact ⟨_, _, fd, ok_p1 F.toFun (pat_at d.c).tx d.dict, prop_at d.c (by simp), F.toFun.binds fun _ _ _ _ _ _ us hl => match us, hl with | [_], _ => rfl⟩
theorem p2_at : Pd P w K mg base (He.ga K pC) "steps" (spP2 (He.ga K pC)) := by
  obtain ⟨fd, F⟩ := cd_at d.c 3 (d := prD "steps" "Loop.steps" 3) rfl
  exact ⟨_, _, fd, ok_p2 F.toFun (pat_at d.c).tx d.dict, prop_at d.c (by simp), F.toFun.binds fun _ _ _ _ _ _ us hl => match us, hl with | [_], _ => rfl⟩
theorem p3_at : Pd P w K mg base (He.ga K pC) "last" (spP3 (He.ga K pC)) := by
  obtain ⟨fd, F⟩ := cd_at d.c 4 (d := prD "last" "Loop.last" 4) rfl
  exact ⟨_, _, fd, ok_p3 F.toFun (pat_at d.c).tx, prop_at d.c (by simp), F.toFun.binds fun _ _ _ _ _ _ us hl => match us, hl with | [_], _ => rfl⟩
theorem p4_at : Pd P w K mg base (He.ga K pC) "kinds" (spP4 (He.ga K pC)) := by
  obtain ⟨fd, F⟩ := cd_at d.c 5 (d := prD "kinds" "Loop.kinds" 5) rfl
  exact ⟨_, _, fd, ok_p4 F.toFun (pat_at d.c).tx d.tuple, prop_at d.c (by simp), F.toFun.binds fun _ _ _ _ _ _ us hl => match us, hl with | [_], _ => rfl⟩
theorem p5_at : Pd P w K mg base (He.ga K pC) "variables" (spP5 (He.ga K pC)) := by
  obtain ⟨fd, F⟩ := cd_at d.c 6 (d := prD "variables" "Loop.variables" 6) rfl
  exact ⟨_, _, fd, ok_p5 F.toFun (pat_at d.c).tx d.tuple, prop_at d.c (by simp), F.toFun.binds fun _ _ _ _ _ _ us hl => match us, hl with | [_], _ => rfl⟩
include tp
theorem df_right {T : List (Addr × Str)} {Pt : Addr} (TB : TabB base mg (cdq K (He.ga K "_law_rows_right")) Pt) (h1 : (Pt, ("_law_rows_right.<locals>." : Str) ++ "<lambda>") ∈ T) (h2 : ∀ p ∈ T, p.1 = Pt → p.2 = ("_law_rows_right.<locals>." : Str) ++ "<lambda>") :
    DfG P w K mg base CX0 9 "_law_rows_right" ["_law_draw", "_law_told_here", "_law_made"] (spLRight7 T (He.ga K pC)) := by
  obtain ⟨fT, fdT, GT, kT, bT, gT⟩ := df_take (P := P) (w := w) (base := base) d
  obtain ⟨fP, fdP, GP, kP, bP, gP⟩ := df_pick (P := P) (w := w) (base := base) d
  obtain ⟨fR, fdR, GR, kR, bR, gR⟩ := df_lrows (P := P) (w := w) (base := base) d
  obtain ⟨fW, fdW, GW, kW, bW, gW⟩ := df_lwo (P := P) (w := w) (base := base) d
  obtain ⟨fL, fdL, GL, kL, bL, gL⟩ := df_lre (P := P) (w := w) (base := base) d
  obtain ⟨fC, fdC, FC, bC, gC⟩ := caught_at d
  obtain ⟨fdA, GA, bA, kA⟩ := an_at (P := P) (w := w) (base := base) d tp
  obtain ⟨fdH, GH, bH, kH⟩ := hl_at (P := P) (w := w) (base := base) d tp
  obtain ⟨fd, F⟩ := md_at d.c 30 (x := "_law_rows_right") (n := 39) rfl
  have A := pat_at d.c
  exact ⟨_, fd, ok_lright7 F TB h1 h2 A.tx (etx (eRows d tp)) d.still GT kT bT gT GP kP bP gP GR kR bR gR GW kW bW gW GL kL bL gL FC bC gC GA bA kA A.mA GH bH kH A.mH d.sorted d.dict d.list d.len d.isinst d.repr,
    F.kp, F.toFun.binds fun _ _ _ _ _ _ us hl => match us, hl with | [_, _, _], _ => rfl, gl_at d.X d.G d.c 30 (x := "_law_rows_right") (n := 39) rfl⟩
theorem df_first {T : List (Addr × Str)} {Pt : Addr} (TB : TabB base mg (cdq K (He.ga K "_law_first_right")) Pt) (h1 : (Pt, ("_law_first_right.<locals>." : Str) ++ "<lambda>") ∈ T) (h2 : ∀ p ∈ T, p.1 = Pt → p.2 = ("_law_first_right.<locals>." : Str) ++ "<lambda>") :
    Df P w K mg base CX0 11 "_law_first_right" ["_law_draw", "_law_made"] (spLFirst T (He.ga K pC)) := by
  obtain ⟨fP, fdP, GP, kP, bP, gP⟩ := df_pick (P := P) (w := w) (base := base) d
  obtain ⟨fC, fdC, FC, bC, gC⟩ := caught_at d
  obtain ⟨fdi, M, _⟩ := mk_at (P := P) (w := w) (base := base) d tp
  obtain ⟨_, _, _, P1, pp1, pb1⟩ := p1_at (P := P) (w := w) (base := base) d
  obtain ⟨_, _, _, P2, pp2, pb2⟩ := p2_at (P := P) (w := w) (base := base) d
  obtain ⟨fd, F⟩ := md_at d.c 31 (x := "_law_first_right") (n := 40) rfl
  have A := pat_at d.c
  exact ⟨_, fd, ok_lfirst F TB h1 h2 A.tx (etx (eLoop d tp)) d.still M GP kP bP gP FC bC gC P1 pp1 pb1 P2 pp2 pb2 d.isinst d.range,
    F.kp, F.toFun.binds fun _ _ _ _ _ _ us hl => match us, hl with | [_, _], _ => rfl, gl_at d.X d.G d.c 31 (x := "_law_first_right") (n := 40) rfl⟩
theorem env_at {T : List (Addr × Str)} {Pt Pt2 : Addr} (TB : TabB base mg (cdq K (He.ga K "_law_rows_right")) Pt) (h1 : (Pt, ("_law_rows_right.<locals>." : Str) ++ "<lambda>") ∈ T) (h2 : ∀ p ∈ T, p.1 = Pt → p.2 = ("_law_rows_right.<locals>." : Str) ++ "<lambda>")
    (TB2 : TabB base mg (cdq K (He.ga K "_law_first_right")) Pt2) (h3 : (Pt2, ("_law_first_right.<locals>." : Str) ++ "<lambda>") ∈ T) (h4 : ∀ p ∈ T, p.1 = Pt2 → p.2 = ("_law_first_right.<locals>." : Str) ++ "<lambda>") :
    LEnv7 P w K mg base T (He.ga K pC) (He.ga K "BadLoop") (He.ga K "BadRows") (He.ga K bS) := by
  have A := pat_at d.c
  obtain ⟨fdi, M, ki⟩ := mk_at (P := P) (w := w) (base := base) d tp
  obtain ⟨fdA, GA, bA, kA⟩ := an_at (P := P) (w := w) (base := base) d tp
  obtain ⟨fde, Fe⟩ := cd_at d.c 1 (d := meD "__eq__" "Loop.__eq__" 1) rfl
  exact {
    begun := df_begun d
    take := df_take d
    titles := df_titles d
    loop := df_lloop d
    made := df_lml d tp
    other := df_lother d
    rows := df_lrows d
    reply := df_lre d
    first := df_first d tp TB2 h3 h4
    right := df_right d tp TB h1 h2
    caught := caught_at d
    make := ⟨_, fdi, M, fun s u a b c _ => ki s u a b c⟩
    tx := A.tx
    EB := etx (eLoop d tp)
    gS := d.still
    eq := ⟨_, fde, ok_eq Fe.toFun A.tx A.is d.isinst d.pat, Fe.toFun.binds fun _ _ _ _ _ _ us hl => match us, hl with | [_, _], _ => rfl, A.eq, A.eqF⟩
    ne0 := A.ne
    nf1 := A.n1
    nf2 := A.n2
    dct := A.dc
    hm := A.is.hm
    p1 := p1_at d
    p2 := p2_at d
    p3 := p3_at d
    p4 := p4_at d
    p5 := p5_at d
    ans := ⟨_, fdA, GA, bA, A.mA⟩
    fr := fun x hx => by
      simp only [List.mem_cons, List.not_mem_nil, or_false] at hx
      rcases hx with rfl | rfl | rfl | rfl | rfl | rfl | rfl
      · exact d.range
      · exact d.max
      · exact d.min
      · exact d.len
      · exact d.isinst
      · exact d.list
      · exact d.tuple }
end
/-- the tables of the three defs that make lambdas -/
def csK (K : PySem.W.Frag) : List (Addr × Addr) := TN.map fun x => (cdq K (He.ga K x), tbq K x)
def ttK (K : PySem.W.Frag) : List (Addr × Str) := TN.map fun x => (tbq K x, x ++ (".<locals>." : Str) ++ "<lambda>")
theorem cs_all {K : PySem.W.Frag} {φ : Addr × Addr → Prop} (f : ∀ x ∈ TN, φ (cdq K (He.ga K x), tbq K x)) : ∀ p ∈ csK K, φ p := fun p hp => by
  obtain ⟨x, hx, rfl⟩ := List.mem_map.mp hp
  exact f x hx
theorem tt_has {K : PySem.W.Frag} {x : Str} (hx : x ∈ TN) : (tbq K x, x ++ (".<locals>." : Str) ++ "<lambda>") ∈ ttK K := List.mem_map_of_mem hx
theorem tt_only {file : Str} {h : Heap} {K : PySem.W.Frag} (c : SaysK file h K) {x : Str} (hx : x ∈ TN) : ∀ p ∈ ttK K, p.1 = tbq K x → p.2 = x ++ (".<locals>." : Str) ++ "<lambda>" := fun p hp e => by
  obtain ⟨y, hy, rfl⟩ := List.mem_map.mp hp
  obtain ⟨n1, n2, n3⟩ := tab_ne c
  have e : tbq K y = tbq K x := e
  unfold TN at hx hy
  simp only [List.mem_cons, List.not_mem_nil, or_false] at hx hy
  rcases hx with rfl | rfl | rfl <;> rcases hy with rfl | rfl | rfl
  · rfl
  · exact absurd e.symm n2
  · exact absurd e.symm n1
  · exact absurd e n2
  · rfl
  · exact absurd e.symm n3
  · exact absurd e n1
  · exact absurd e n3
  · rfl
theorem facts {P : Program} {w : World} {K : PySem.W.Frag} {h : Heap} {mg : Str → Option Value} {f : Addr} (d : Hd P.main.file K h mg) (tp : (P.main.scope.names.lookup ("super" : Str)).isSome = false) (hfa : mg ("law" : Str) = some (.ref f)) :
    ∃ fd : FuncData, (∀ (s : Shared) (v : Value), BindsTo s fd ⟨[v], []⟩ [("_law_script", v)]) ∧ ∀ base : Heap, K.In base → base.Ns mainGlobals mg → (∀ p ∈ csK K, TabB base mg p.1 p.2) → Gd.FnOkG P w K mg base CX0 12 f fd ["_law_script"] (spLaw7 K (ttK K)) := by
  obtain ⟨fd, F⟩ := md_at d.c 32 (x := "law") (n := 41) rfl
  have e := hfa.symm.trans (gl_at d.X d.G d.c 32 (x := "law") (n := 41) rfl)
  cases e
  refine ⟨fd, fun s v => ?_, fun base _ _ TB => ?_⟩
  · obtain ⟨oc, od, kV, doc, pm, an, ct, osl, rfl, _, _⟩ := F.ex
    exact .of_eq rfl
  · have tb : ∀ x ∈ TN, TabB base mg (cdq K (He.ga K x)) (tbq K x) := fun x hx => TB _ (List.mem_map_of_mem (f := fun x => (cdq K (He.ga K x), tbq K x)) hx)
    have i1 : ("_law_rows_right" : Str) ∈ TN := by unfold TN; exact List.mem_cons_self ..
    have i2 : ("_law_first_right" : Str) ∈ TN := by unfold TN; exact List.mem_cons_of_mem _ (List.mem_cons_self ..)
    have i3 : ("law" : Str) ∈ TN := by unfold TN; exact List.mem_cons_of_mem _ (List.mem_cons_of_mem _ (List.mem_cons_self ..))
    exact ok_law7 F (env_at (w := w) d tp (T := ttK K) (tb _ i1) (tt_has i1) (tt_only d.c i1) (tb _ i2) (tt_has i2) (tt_only d.c i2)) (tb _ i3) (tt_has i3) (tt_only d.c i3)
end Hk
-- part SHk4
set_option maxHeartbeats 0
open PySem PySem.W PySem.Calls PyProof.Rows
theorem PySem.Challenge.cw_stillknown_k07_loops_of_any_parts_holds : PySem.Challenge.rw_stillknown_k07_loops_of_any_parts.Holds := by
  w_on; o_law
  refine HandSHeadRun.head_any (r := OpenLaw.row PySem.Challenge.rw_stillknown_k07_loops_of_any_parts) (q := view (OpenLaw.row PySem.Challenge.rw_stillknown_k07_loops_of_any_parts).prog [41]) (H := Hk.hk) (ob := Hk.ob) (M := 6000) (loose := Hk.loose) (d := HandSHeadRun.topDef (OpenLaw.row PySem.Challenge.rw_stillknown_k07_loops_of_any_parts).prog 41) (kwd := []) Hk.ob_eq
    (by kernel_rfl) (fun s => by kernel_rfl) Hk.run (by kernel_rfl) (by kernel_rfl) (by kernel_rfl) (by rfl) (by first | assumption | decide +kernel) (by decide +kernel) ⟨rfl, rfl, rfl, rfl, rfl, by decide +kernel⟩ ?hw ?hc
  case hw => w_witness2
  case hc =>
    refine Gd.walkGET (l := PySem.Challenge.rw_stillknown_k07_loops_of_any_parts) (n := 63) (k := 12) (x := "_law_script") rfl (by decide) (by kernel_rfl) ⟨rfl, by decide, by decide⟩ ?F
    intro w mg fa h Y G hmg0
    obtain ⟨K, KX, c⟩ := Y
    have hmg : mg ("law" : PySem.Str) = some (.ref fa) := by
      have e : (HandSHeadRun.topDef (OpenLaw.row PySem.Challenge.rw_stillknown_k07_loops_of_any_parts).prog 41).name = ("law" : PySem.Str) := by kernel_rfl
      rw [← e]
      exact hmg0
    obtain ⟨fd, hb, hF⟩ := Hk.facts (P := (OpenLaw.row PySem.Challenge.rw_stillknown_k07_loops_of_any_parts).prog) (w := w) ⟨KX, G, c⟩ (by decide +kernel) hmg
    refine ⟨K, fd, Kn.spLaw7 K (Hk.ttK K), Hk.csK K, KX, Hk.cs_all fun x hx => (Hk.tab_at c hx).1, Hk.cs_all fun x hx => c.tb x hx, Hk.cs_all fun x hx => (Hk.tab_at c hx).2, hb, fun H a ns hl hT hS => ⟨a, ns, rfl, hS, hl, fun p hp => ?_, fun _ => rfl⟩, hF⟩
    have z : p.1 ∈ (Hk.csK K).map (·.2) := by
      obtain ⟨x, hx, rfl⟩ := List.mem_map.mp hp
      exact List.mem_map.mpr ⟨_, List.mem_map_of_mem hx, rfl⟩
    obtain ⟨r, hr, e⟩ := List.mem_map.mp z
    exact LamX.TabS.nil (e ▸ hT r hr)
