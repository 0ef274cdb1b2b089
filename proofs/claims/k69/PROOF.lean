import PyProof.Rows.All
import Wide.All
import OpenK.AllK
import Wide.FinOn
import KE.KNest
import KE.KNestM
import HandS.ForMost
import HandS.HeadHook2
import HandS.HeadHook4
import HandS.Head2
import HandS.Head3
import HandS.HeadEnd
import HandS.Walk
import HandS.ExcValue
import HandS.IsInst
import HandS.Iter
import KE.GoesMore
import PyProof.EnumMake
import HandS.Text
import HandS.List
import HandS.Conv
import HandS.SortInts
import HandS.TupMul
import HandS.Dict
import HandS.Sort
import PyProof.DictWalks
import PyProof.WalkInts
import KE.KDictSum
import KE.SortData
import HandS.Zip
import HandS.TupAny
import HandS.TupLe
import HandS.DictComp
import HandS.ExcInit
import HandS.Nested
import KE.KExcSuper
import HandS.ExcField
import KE.KExcIs
import HandS.Lambda
import HandS.RaiseMore
import HandS.Defaults
import HandS.MakeKwOnly
import HandS.Gcd
import HandS.Wide
import HandS.WordsDict
import PyProof.ZipIter
import PyProof.CallType
import PyProof.Walk
import PyProof.WalkLemmas
import PyProof.RulesTry
import PyProof.TupleOfSeq
import HandS.WordsExc
import HandS.Strs
import PyProof.NeKinds
import PyProof.EqKinds
import HandS.SetFor
import HandS.Style
import HandS.CallLocal
import HandS.Finally
import HandS.EndTab
import HandS.NestedK
import PySem.Challenge.RW_stillknown_k69_schemes_that_bear
set_option Elab.async false
set_option linter.all false
set_option maxRecDepth 100000
-- part VHr
set_option maxHeartbeats 0
/-! What the law's top leaves on the heap, looked at by names, and the run of that top. -/
namespace Hk
open PySem PySem.Spec PyProof.Rows L2
def tS (i : Nat) : Stmt := PySem.Challenge.pw_stillknown_k69_schemes_that_bear.main.body.getD i (.Pass ⟨0, 0, 0, 0⟩)
def vTail : List Value := [.type "ValueError", .type "Exception", .type "BaseException", .type "object"]
def eqM (a b : Option (List Value)) : Bool := decide (a = b)
/-- a class of errors, as isinstance and the making ask -/
def basB (K : PySem.W.Frag) (C : Addr) : Bool :=
  decide (PySem.W.typeIn K (.ref C) = some (.type "type")) && (PySem.W.keepIn K (.ref C) && ((PySem.W.clsIn K C).isSome && (He.eqO (PySem.W.findIn K (.ref C) "__getattribute__") (some (some (.builtin "BaseException.__getattribute__"))) &&
  (He.eqO (PySem.W.findIn K (.ref C) "__getattr__") (some none) && (He.eqO (PySem.W.findIn K (.ref C) "__class__") (some (some (.builtin "object.__class__"))) && PySem.W.hasDictIn K C)))))
def mroB (K : PySem.W.Frag) (C : Addr) (l : List Value) : Bool := eqM ((PySem.W.clsIn K C).map (·.mro)) (some l)
/-- facts that no class has of its own -/
def genB (K : PySem.W.Frag) : Bool :=
  He.eqO (PySem.W.specialIn K (.builtin "object.__class__") "__get__") (some (some (.builtin "getset_descriptor.__get__"))) && (decide (PySem.W.takesIn K (.builtin "object.__class__") = some true) &&
  (He.eqO (PySem.W.nsIn K cStatics "thirdparty.any") (some none) && (K.lookup sysModules).isSome))
def bS : Str := "StillError"
/-- the package's errors, as the law asks for them -/
def EN : List Str := ["BadCount", "BadSeats", "BadWidth", "BadScheme"]
def errB (K : PySem.W.Frag) (x : Str) : Bool :=
  (He.Fa.glo x).ok K && (basB K (He.ga K x) && (mroB K (He.ga K x) ([.ref (He.ga K x), .ref (He.ga K bS)] ++ vTail) && (PySem.W.excIn K (He.ga K x) vTail "ValueError.__new__" && (decide (PySem.W.subIn K (.ref (He.ga K x)) (.type "BaseException") = some true) && decide (PySem.W.exmOne K (.ref (He.ga K x)) (.ref (He.ga K bS)) = some true)))))
def apartB (K : PySem.W.Frag) : Bool := decide (((bS :: EN).map (He.ga K)).Nodup)
/-! ### defs by their addresses -/
structure DQ where
  adr : PySem.W.Frag → Addr
  name : Str
  qual : Str
  st : Stmt
def fObs (K : PySem.W.Frag) (a : Addr) : He.FnV := match K.lookup a with
  | some ⟨_, _, .func fd, _⟩ => some (fd.name, fd.qualname, fd.params, fd.body, fd.scope, fd.globals, fd.closure, fd.defaults, fd.builtins)
  | _ => none
def DQ.val (d : DQ) : He.FnV := some (d.name, d.qual, defArgs d.st, .stmts (defBody d.st), defScope d.st, mainGlobals, [], .none, builtinsNs)
def cdq (K : PySem.W.Frag) (a : Addr) : Addr := match K.lookup a with
  | some ⟨_, _, .func fd, _⟩ => (match fd.code with
    | .ref c => c
    | _ => 0)
  | _ => 0
def isF (K : PySem.W.Frag) (a : Addr) : Bool := match K.lookup a with
  | some ⟨_, _, .func fd, _⟩ => (match fd.code with
    | .ref _ => true
    | _ => false)
  | _ => false
def DQ.ok (K : PySem.W.Frag) (d : DQ) : Bool := PySem.W.codeIn K (.ref (cdq K (d.adr K))) d.qual && (PySem.W.keepIn K (.ref (d.adr K)) && isF K (d.adr K))
/-! ### tables -/
def tbq (K : PySem.W.Frag) (x : Str) : Addr := He.tabOf K (cdq K (He.ga K x))
def TN : List Str := ["_law_refused_right"]
def tabK (K : PySem.W.Frag) : Bool := TN.all fun x => PySem.W.codeHdIn K (cdq K (He.ga K x)) (tbq K x) && (K.lookup (tbq K x)).isNone
def tabG (g : Addr → Option Obj) (K : PySem.W.Frag) : Bool := TN.all fun x => match g (tbq K x) with
  | some o => He.emptyTab o
  | none => false
/-! ### all of it -/
def MD : List (Str × Nat) :=
  ([("is_number", 9), ("is_within", 10), ("is_list", 11), ("is_tuple_of", 12), ("dot", 14), ("first_place", 15), ("made_small", 16), ("are_numbers", 19), ("is_seat", 24), ("raised", 25), ("check_count", 29), ("check_seats_and_width", 30), ("is_ascending", 31), ("check_scheme", 32)] : List (Str × Nat)) ++
  ([("shares_of", 33), ("unseen_numbers", 34), ("unborne", 35), ("is_unborne", 36), ("power_scheme", 37), ("_law_begun", 39), ("_law_mixed", 40), ("_law_take", 41), ("_law_pick", 42), ("_law_shuffled", 43), ("_law_caught", 44), ("_law_gcd", 45), ("_law_less", 46), ("_law_added", 47)] : List (Str × Nat)) ++
  ([("_law_rank", 48), ("_law_power", 49), ("_law_odd", 50), ("_law_powers", 51), ("_law_scheme", 52), ("_law_columns", 53), ("_law_bears", 54), ("_law_is_pair", 55), ("_law_spoilt", 56), ("_law_refused_right", 57), ("law", 58)] : List (Str × Nat))
def mdD (p : Str × Nat) : DQ := ⟨fun K => He.ga K p.1, p.1, p.1, tS p.2⟩
abbrev pC : Str := "Span"
def meD (x q : Str) (j : Nat) : DQ := ⟨fun K => He.ma K (He.ga K pC) x, x, q, inClass (tS 17) j⟩
def CD : List DQ := [meD "rest" "Span.rest" 1, meD "take" "Span.take" 2]
/-- Span.__init__, with its default -/
def iD : He.DefD := { at_ := (pC, some "__init__"), name := "__init__", qual := "Span.__init__", params := defArgs (inClass (tS 17) 0), body := defBody (inClass (tS 17) 0), scope := defScope (inClass (tS 17) 0), dfl := [.non], kwd := [] }
def fq : List DQ := MD.map mdD ++ CD
def fa : List He.Fa := ([.free "isinstance", .free "int", .free "bool", .free "list", .free "tuple", .free "len", .free "all", .free "min", .free "max", .free "sorted", .free "range", .free "enumerate", .free "repr", .free "abs", .free "sum", .free "zip", .free "set"] : List He.Fa) ++
  ([.glo bS, .int "MOST_SEATS" 8, .int "HIGHEST_SEAT" 9, .int "MOST_CHECKS" 4, .int "WIDEST_WORKER" 6, .int "LONGEST_SCHEME" 24, .glo pC, .cls pC, .noat pC "width", .noat pC "lines", .mkr pC, .meth pC "rest", .meth pC "take"] : List He.Fa)
def impB (K : PySem.W.Frag) : Bool := He.eqO (PySem.W.nsIn K mainGlobals "gcd") (some (some (.builtin "math.gcd"))) && (He.eqO (PySem.W.nsIn K mainGlobals "lcm") (some (some (.builtin "math.lcm"))) && He.eqO (PySem.W.nsIn K mainGlobals "combinations") (some (some (.type "itertools.combinations"))))
def chk (K : PySem.W.Frag) : Bool :=
  genB K && ((basB K (He.ga K bS) && mroB K (He.ga K bS) ([.ref (He.ga K bS)] ++ vTail)) && (EN.all (errB K) && (apartB K && (tabK K &&
  (impB K && (iD.ok K && (fa.all (fun f => f.ok K) && (MD.all (fun p => (He.Fa.glo p.1).ok K) && fq.all (fun d => d.ok K)))))))))
abbrev AlK : Type := Bool × (List He.FnV × He.FnW)
def obsK (g : Addr → Option Obj) (K : PySem.W.Frag) : AlK := (chk K && tabG g K, fq.map (fun d => fObs K (d.adr K)), He.fnW K iD.at_)
def valK : AlK := (true, fq.map DQ.val, iD.val)
/-- what an object of the top holds on to, as far as the looks go -/
def own (o : Obj) : List Addr := match o.data with
  | .cls cd => [cd.ns]
  | .func fd => He.refV fd.code ++ He.refV fd.defaults ++ fd.closure.map (·.2)
  | .dict es _ => es.toList.flatMap fun e => He.refV e.val
  | .fields vs => (match o.cls with
    | .type n => if n == "property" then vs.toList.flatMap He.refV else []
    | _ => [])
  | _ => []
def lay (g : Addr → Option Obj) (as : List Addr) : List Addr := as.flatMap fun a => match g a with
  | some o => own o
  | none => []
def tops (g : Addr → Option Obj) : Nat → List Addr → List Addr
  | 0, as => as
  | n + 1, as => as ++ tops g n (lay g as)
def frK (g : Addr → Option Obj) : PySem.W.Frag := He.frG g ([mainGlobals, cStatics, sysModules] ++ tops g 4 (lay g [mainGlobals]))
/-- what the end leans on -/
structure SaysK (h : Heap) (K : PySem.W.Frag) : Prop where
  ck : chk K = true
  fs : fq.map (fun d => fObs K (d.adr K)) = fq.map DQ.val
  is : He.fnW K iD.at_ = iD.val
  tb : ∀ x ∈ TN, h.get? (tbq K x) = some { cls := .none, data := .fields #[] }
theorem says_of {h : Heap} {K : PySem.W.Frag} (e : obsK h.get? K = valK) : SaysK h K := by
  have e1 : (chk K && tabG h.get? K) = true := congrArg (fun z : AlK => z.1) e
  obtain ⟨c1, c2⟩ := He.ba e1
  refine ⟨c1, congrArg (fun z : AlK => z.2.1) e, congrArg (fun z : AlK => z.2.2) e, fun x hx => ?_⟩
  have z := List.all_eq_true.mp c2 x hx
  cases q : h.get? (tbq K x) with
  | none =>
    rw [q] at z
    cases z
  | some o =>
    rw [q] at z
    rw [He.emptyTab_eq z]
def hookK : PySem.W.Hook where
  α := AlK
  obs := fun s => obsK s.heap.get? (frK s.heap.get?)
  val := fun _ => valK
  says := fun _ h => ∃ K : PySem.W.Frag, K.In h ∧ SaysK h K
  of := fun _ _ e => ⟨_, He.frG_in, says_of e⟩
  keeps := fun _ _ _ ⟨K, hK, c⟩ k => ⟨K, PySem.W.Frag.In.keeps hK k, ⟨c.ck, c.fs, c.is, fun x hx => k _ _ (c.tb x hx)⟩⟩
theorem obsK_eq {g : Addr → Option Obj} {s : Shared} (h : ∀ a, g a = s.heap.get? a) : obsK g (frK g) = hookK.obs s := by
  have e : g = s.heap.get? := funext h
  rw [e] <;> rfl
def loose : List Str :=
  (["StillError", "BadCount", "BadSeats", "BadWidth", "BadScheme", "is_number", "is_within", "is_list", "is_tuple_of", "dot"] : List Str) ++
  (["first_place", "made_small", "Span", "are_numbers", "MOST_SEATS", "HIGHEST_SEAT", "MOST_CHECKS", "is_seat", "raised", "WIDEST_WORKER"] : List Str) ++
  (["LONGEST_SCHEME", "check_count", "check_seats_and_width", "is_ascending", "check_scheme", "shares_of", "unseen_numbers", "unborne", "is_unborne", "power_scheme"] : List Str) ++
  (["_law_begun", "_law_mixed", "_law_take", "_law_pick", "_law_shuffled", "_law_caught", "_law_gcd", "_law_less", "_law_added", "_law_rank"] : List Str) ++
  (["_law_power", "_law_odd", "_law_powers", "_law_scheme", "_law_columns", "_law_bears", "_law_is_pair", "_law_spoilt", "_law_refused_right"] : List Str)
abbrev RW : PySem.W.OpenLaw := PySem.Challenge.rw_stillknown_k69_schemes_that_bear
abbrev R : PySem.W.OpenRow := PySem.W.OpenLaw.row RW
abbrev hk : PySem.W.Hook := hookK
def ob (s : PySem.W.SharedT) : AlK := obsK (HandSHeadRun.getT s) (frK (HandSHeadRun.getT s))
theorem ob_eq (s : PySem.W.SharedT) : ob s = hk.obs s.abs := obsK_eq (HandSHeadRun.getT_eq s)
theorem run (w : World) : HandSHeadRun.RunEqI R (PySem.W.view R.prog [0, 1, 58]) hk ob 6000 loose w := by
  unfold HandSHeadRun.RunEqI
  kernel_rfl
end Hk
-- part Dr

set_option maxHeartbeats 4000000
namespace Kn
open PySem PySem.Spec PyProof.Rows L2
def topS (i : Nat) : Stmt := PySem.Challenge.pw_stillknown_k69_schemes_that_bear.main.body.getD i (.Pass ⟨0, 0, 0, 0⟩)
abbrev sBegun : Stmt := topS 39
abbrev sMixed : Stmt := topS 40
abbrev sTake : Stmt := topS 41
abbrev sPick : Stmt := topS 42
/-- the draws as a dict -/
abbrev kLarge : Key := Sum.inr "large"
abbrev kRest : Key := Sum.inr "rest"
abbrev kCells : Key := Sum.inr "cells"
abbrev kTurn : Key := Sum.inr "turn"
def dkv (l c : Addr) (r t : Int) : List (Key × V) := [(kLarge, .ref l), (kRest, .int r), (kCells, .ref c), (kTurn, .int t)]
theorem v_large (l c : Addr) (r t : Int) : valV (dkv l c r t) kLarge = some (.ref l) := by kernel_rfl
theorem v_rest (l c : Addr) (r t : Int) : valV (dkv l c r t) kRest = some (.int r) := by kernel_rfl
theorem v_cells (l c : Addr) (r t : Int) : valV (dkv l c r t) kCells = some (.ref c) := by kernel_rfl
theorem v_turn (l c : Addr) (r t : Int) : valV (dkv l c r t) kTurn = some (.int t) := by kernel_rfl
theorem p_rest (l c : Addr) (r t r' : Int) : putK (dkv l c r t) kRest (.int r') = dkv l c r' t := by kernel_rfl
theorem p_turn (l c : Addr) (r t t' : Int) : putK (dkv l c r t) kTurn (.int t') = dkv l c r t' := by kernel_rfl
def Ints (H : Hp) (a : Addr) : Prop := ∃ ns : List Int, H a = some (.lst (ns.map V.int))
structure Drw (H : Hp) (d l c : Addr) : Prop where
  dd : ∃ r t : Int, H d = some (.dK (dkv l c r t))
  ll : Ints H l
  cc : Ints H c
  lc : l ≠ c
/-- all that was tracked stands as it stood, but at the draws -/
def But (d l : Addr) (H H' : Hp) : Prop := ∀ b o, H b = some o → b ≠ d → b ≠ l → H' b = some o
section
variable {H H' : Hp} {d l c : Addr} {r t : Int}
theorem g_large (h : H d = some (.dK (dkv l c r t))) : DGet H d (.str "large") (some (.ref l)) := v_large l c r t ▸ DGet.k (k := kLarge) h
theorem g_rest (h : H d = some (.dK (dkv l c r t))) : DGet H d (.str "rest") (some (.int r)) := v_rest l c r t ▸ DGet.k (k := kRest) h
theorem g_cells (h : H d = some (.dK (dkv l c r t))) : DGet H d (.str "cells") (some (.ref c)) := v_cells l c r t ▸ DGet.k (k := kCells) h
theorem g_turn (h : H d = some (.dK (dkv l c r t))) : DGet H d (.str "turn") (some (.int t)) := v_turn l c r t ▸ DGet.k (k := kTurn) h
theorem q_rest {r' : Int} (h : H d = some (.dK (dkv l c r t))) : DPut H d (.str "rest") (.int r') (upd H d (.dK (dkv l c r' t))) := by
  have e := DPut.k (k := kRest) (v := .int r') h (by show 4 < sizeLine; decide)
  rw [p_rest] at e
  exact e
theorem q_turn {t' : Int} (h : H d = some (.dK (dkv l c r t))) : DPut H d (.str "turn") (.int t') (upd H d (.dK (dkv l c r t'))) := by
  have e := DPut.k (k := kTurn) (v := .int t') h (by show 4 < sizeLine; decide)
  rw [p_turn] at e
  exact e
theorem Drw.nl (D : Drw H d l c) : l ≠ d := by
  obtain ⟨⟨r, t, h⟩, ⟨ns, hl⟩, _, _⟩ := D
  exact ne_of hl h (by intro z; cases z)
theorem Drw.nc (D : Drw H d l c) : c ≠ d := by
  obtain ⟨⟨r, t, h⟩, _, ⟨ns, hc⟩, _⟩ := D
  exact ne_of hc h (by intro z; cases z)
/-- the dict is stored anew -/
theorem Drw.put (D : Drw H d l c) (r t : Int) : Drw (upd H d (.dK (dkv l c r t))) d l c :=
  ⟨⟨r, t, upd_same⟩, by obtain ⟨ns, e⟩ := D.ll; exact ⟨ns, by rw [upd_ne D.nl]; exact e⟩, by obtain ⟨ns, e⟩ := D.cc; exact ⟨ns, by rw [upd_ne D.nc]; exact e⟩, D.lc⟩
theorem But.refl : But d l H H := fun _ _ h _ _ => h
theorem But.trans {H1 H2 : Hp} (a : But d l H H1) (b : But d l H1 H2) : But d l H H2 := fun x o h h1 h2 => b x o (a x o h h1 h2) h1 h2
theorem But.atd {o : HO} : But d l H (upd H d o) := fun b u e h _ => by rw [upd_ne h]; exact e
theorem But.atl {o : HO} : But d l H (upd H l o) := fun b u e _ h => by rw [upd_ne h]; exact e
theorem But.new {p : Addr} {o : HO} (np : H p = none) : But d l H (upd H p o) := fun b u e _ _ => by rw [upd_ne (ne_of_none e np)]; exact e
theorem Drw.new {p : Addr} {o : HO} (D : Drw H d l c) (np : H p = none) : Drw (upd H p o) d l c := by
  obtain ⟨⟨r, t, h⟩, ⟨ns, hl⟩, ⟨ms, hc⟩, n⟩ := D
  exact ⟨⟨r, t, by rw [upd_ne (ne_of_none h np)]; exact h⟩, ⟨ns, by rw [upd_ne (ne_of_none hl np)]; exact hl⟩, ⟨ms, by rw [upd_ne (ne_of_none hc np)]; exact hc⟩, n⟩
end
def spMixed : Sp := fun vs H Q _ => ∃ d l c, vs = [.ref d] ∧ Drw H d l c ∧ ∀ (k : Int) H', Drw H' d l c → But d l H H' → Q (.int k) H'
def spTake : Sp := fun vs H Q _ => ∃ d l c n, vs = [.ref d, .int n] ∧ Drw H d l c ∧ 0 < n ∧ n < 1073741824 ∧ ∀ (k : Int) H', 0 ≤ k → k < n → Drw H' d l c → But d l H H' → Q (.int k) H'
def spPick : Sp := fun vs H Q _ => ∃ d l c s xs, vs = [.ref d, .ref s] ∧ Drw H d l c ∧ H s = some (.lst xs) ∧ s ≠ l ∧ 0 < xs.length ∧ xs.length ≤ 1000 ∧ ∀ (k : Nat) x H', xs[k]? = some x → Drw H' d l c → But d l H H' → Q x H'
theorem scM : FnScope ["_law_draw", "_law_turn", "_law_found", "_law_great", "_law_blend", "_law_grain"] ["_law_draw"] (defScope sMixed) := ⟨rfl, rfl, rfl, by decide +kernel, rfl, by decide +kernel, by decide +kernel⟩
theorem scT : FnScope ["_law_draw", "_law_amount", "_law_found"] ["_law_draw", "_law_amount"] (defScope sTake) := ⟨rfl, rfl, rfl, by decide +kernel, rfl, by decide +kernel, by decide +kernel⟩
theorem scP : FnScope ["_law_draw", "_law_some"] ["_law_draw", "_law_some"] (defScope sPick) := ⟨rfl, rfl, rfl, by decide +kernel, rfl, by decide +kernel, by decide +kernel⟩
/-- a remainder lies below 2^31 -/
theorem rem_in {a b : Int} (h0 : 0 < b) (h1 : b < 4294967296) : -(2 ^ 64) < a % b ∧ a % b < 2 ^ 64 := by
  have e1 := Int.emod_nonneg a (show b ≠ 0 by omega)
  have e2 := Int.emod_lt_of_pos a h0
  omega
theorem dp_ints {K : PySem.W.Frag} {H : Hp} : ∀ ns : List Int, DpAll K H (ns.map V.int) (ns.map PyData.int)
  | [] => .nil
  | n :: ns => .cons (.int n) (dp_ints ns)
theorem ints_shaped (ns : List Int) : SeqAt.shaped (.list (ns.map PyData.int)) = true := PySem.W.ke_shaped_ints ns
section
variable {P : Program} {w : World} {K : PySem.W.Frag} {mg : Str → Option Value} {base : Heap}
theorem ok_mixed {f : Addr} {fd : FuncData} (F : Fun K "_law_mixed" "_law_mixed" sMixed f fd) (mi : mg "int" = none) : FnOk P w K mg base CX0 1 f fd ["_law_draw"] spMixed := by
  refine F.ok scM (fun vs H Q E h => ?_) (fun cdv A outer s H vs Q E hr h => ?_)
  · obtain ⟨d, l, c, rfl, _⟩ := h
    rfl
  · obtain ⟨d, l, c, rfl, D, q⟩ := h
    have hu := hu_of hr
    refine ⟨_, pss_cons (ps_dput hu (pv 0) pe_str (pe_op op_add (pe_dget hu (pv 0) pe_str (fun _ _ => rfl)) pe_int) rfl)
      (pss_cons (ps_par (i := 1) (j := 2) rfl scM.nd rfl rfl (by decide) rfl rfl (pa_cons (pe_callTy call_int1 (by rfl) mi (by decide +kernel) (pa_cons (pe_dget hu (pv 0) pe_str (fun _ _ => rfl)) pa_nil)) (pa_cons pe_int pa_nil)) (by rfl) (by rfl))
      (pss_cons (ps_for PassesOwn.never rfl (pi_list (pe_lst (pa_cons pe_int (pa_cons pe_int (pa_cons pe_int pa_nil))))) (pg_name (i := 3) scM.nd rfl (.inl rfl))
        (pss_cons (ps_set (i := 4) scM.nd rfl (.inl rfl) (pe_op op_mod (pe_op op_add (pe_op op_mul (pv 1) pe_int) (pe_op op_fdiv (pv 3) pe_int)) (pv 3)))
        (pss_cons (ps_for PassesOwn.never rfl (pi_list (pe_dget hu (pv 0) pe_str (fun _ _ => rfl))) (pg_name (i := 5) scM.nd rfl (.inl rfl))
          (pss_one (ps_set (i := 4) scM.nd rfl (.inl rfl) (pe_op op_mod (pe_op op_add (pe_op op_mul (pv 4) pe_int) (pe_callTy call_int1 (by rfl) mi (by decide +kernel) (pa_cons (pv 5) pa_nil))) (pv 3)))))
        (pss_one (ps_set (i := 2) scM.nd rfl (.inl rfl) (pe_op op_add (pe_op op_mul (pv 2) pe_int) (pe_op op_mod (pe_op op_pow (pv 4) pe_int) (pv 3))))))))
      (pss_one (ps_ret (pv 2))))), ?_⟩
    obtain ⟨⟨r, t, hd⟩, ll, cc, lc⟩ := id D
    -- the turn
    refine ⟨_, rfl, d, _, rfl, g_turn hd, _, _, rfl, rfl, _, rfl, d, _, rfl, q_turn hd, ?_⟩
    have D1 := D.put r (t + 1)
    obtain ⟨⟨r1, t1, hd1⟩, _, _, _⟩ := id D1
    refine ⟨_, rfl, d, _, rfl, g_turn hd1, .inl ⟨_, rfl, _, _, rfl, ?_⟩⟩
    have B1 : But d l H (upd H d (.dK (dkv l c r (t + 1)))) := But.atd
    generalize upd H d (.dK (dkv l c r (t + 1))) = H1 at D1 hd1 B1 ⊢
    -- the three moduli
    refine ⟨by show 3 ≤ sizeLine; decide, fun p np => ?_⟩
    have gp : (upd H1 p (.lst [.int 2147483629, .int 2147483587, .int 2147483579])) p = some (.lst [.int 2147483629, .int 2147483587, .int 2147483579]) := upd_same
    refine ⟨p, rfl, ⟨_, SqL.of gp⟩, for_list (xs := [.int 2147483629, .int 2147483587, .int 2147483579]) (fun _ σ H2 => ∃ (fo : Int) (y3 y4 y5 : Option V), σ = [some (.ref d), some (.int t1), some (.int fo), y3, y4, y5] ∧ Drw H2 d l c ∧ But d l H H2 ∧ H2 p = some (.lst [.int 2147483629, .int 2147483587, .int 2147483579]))
      ⟨0, none, none, none, rfl, D1.new np, B1.trans (But.new np), gp⟩ (fun _ _ _ _ ⟨_, _, _, _, _, _, _, e⟩ => SqL.of e) ?_ ?_⟩
    · rintro i x σ H2 hx ⟨fo, y3, y4, y5, rfl, D2, B2, e2⟩
      obtain ⟨g, rfl, h0, h1⟩ : ∃ g : Int, x = .int g ∧ 0 < g ∧ g < 4294967296 := by
        rcases i with _ | _ | _ | i
        · exact ⟨_, (Option.some.inj hx).symm, by decide, by decide⟩
        · exact ⟨_, (Option.some.inj hx).symm, by decide, by decide⟩
        · exact ⟨_, (Option.some.inj hx).symm, by decide, by decide⟩
        · simp at hx
      refine ⟨_, rfl, _, _, rfl, rfl, .inr ⟨by decide, by decide⟩, _, rfl, _, _, rfl, rfl, ⟨by decide, by decide⟩, _, _, rfl, rfl, _, rfl, _, _, rfl, rfl, h0, ?_⟩
      obtain ⟨⟨r2, t2, hd2⟩, _, ⟨cs, hc2⟩, _⟩ := id D2
      refine ⟨_, rfl, d, _, rfl, g_cells hd2, c, rfl, ⟨_, SqL.of hc2⟩, for_list (xs := cs.map V.int) (fun _ σ H3 => ∃ (bl : Int) (y5 : Option V), σ = [some (.ref d), some (.int t1), some (.int fo), some (.int g), some (.int bl), y5] ∧ (-(2 ^ 64) < bl ∧ bl < 2 ^ 64) ∧ H3 = H2)
        ⟨_, y5, rfl, rem_in h0 h1, rfl⟩ (fun _ _ _ _ ⟨_, _, _, _, e⟩ => by rw [e]; exact SqL.of hc2) ?_ ?_⟩
      · rintro j x σ H3 hx ⟨b, y, rfl, hb, rfl⟩
        obtain ⟨z, rfl⟩ : ∃ z, x = V.int z := by
          rw [List.getElem?_map] at hx
          cases e : cs[j]? with
          | none => rw [e] at hx; cases hx
          | some z => rw [e] at hx; exact ⟨z, (Option.some.inj hx).symm⟩
        refine ⟨_, rfl, _, _, rfl, rfl, .inl hb, _, rfl, .inl ⟨_, rfl, _, _, rfl, rfl, _, rfl, _, _, rfl, rfl, h0, ?_⟩⟩
        exact ⟨_, _, rfl, rem_in h0 h1, rfl⟩
      · rintro σ H3 ⟨b, y, rfl, hb, rfl⟩
        refine ⟨_, rfl, _, _, rfl, rfl, .inr ⟨by decide, by decide⟩, _, rfl, _, _, rfl, rfl, ⟨by decide, by decide, ?_⟩, _, rfl, _, _, rfl, rfl, h0, _, _, rfl, rfl, ?_⟩
        · omega
        · exact ⟨_, _, _, _, rfl, D2, B2, e2⟩
    · rintro σ H2 ⟨fo, y3, y4, y5, rfl, D2, B2, e2⟩
      exact ⟨_, rfl, q fo H2 D2 B2⟩
theorem ok_take {f fM : Addr} {fd fdM : FuncData} (F : Fun K "_law_take" "_law_take" sTake f fd) (FM : Fun K "_law_mixed" "_law_mixed" sMixed fM fdM) (bM : Binds K fdM ["_law_draw"] []) (gM : mg "_law_mixed" = some (.ref fM)) (mi : mg "int" = none) :
    FnOk P w K mg base CX0 2 f fd ["_law_draw", "_law_amount"] spTake := by
  have GM : FnOk P w K mg base CX0 1 fM fdM ["_law_draw"] spMixed := ok_mixed FM mi
  refine F.ok scT (fun vs H Q E h => ?_) (fun cdv A outer s H vs Q E hr h => ?_)
  · obtain ⟨d, l, c, n, rfl, _⟩ := h
    rfl
  · obtain ⟨d, l, c, n, rfl, D, n0, n1, q⟩ := h
    have hu := hu_of hr
    refine ⟨_, pss_cons (ps_if (pt_cmpR op_eq (pe_dget hu (pv 0) pe_str (fun _ _ => rfl)) pe_int (nomark _))
        (pss_one (ps_dput hu (pv 0) pe_str (pe_ifExp (pt_cmpR (op_neD hr.units) (pe_dget hu (pv 0) pe_str (fun _ _ => rfl)) (pe_lst pa_nil) (nomark _))
          (pe_bm PySem.F.plainAttrs_list PySem.F.slot_list_pop PySem.F.type_list_pop mt_popAt (pe_dget hu (pv 0) pe_str (fun _ _ => rfl)) (pa_cons pe_int pa_nil))
          (pe_call GM hr (by rfl) gM FM.kp bM .nil pass0 (pa_cons (pv 0) pa_nil))) rfl)) pss_nil)
      (pss_cons (ps_set (i := 2) scT.nd rfl (.inl rfl) (pe_op op_mod (pe_callTy call_int1 (by rfl) mi (by decide +kernel) (pa_cons (pe_dget hu (pv 0) pe_str (fun _ _ => rfl)) pa_nil)) (pv 1)))
      (pss_cons (ps_dput hu (pv 0) pe_str (pe_op op_fdiv (pe_callTy call_int1 (by rfl) mi (by decide +kernel) (pa_cons (pe_dget hu (pv 0) pe_str (fun _ _ => rfl)) pa_nil)) (pv 1)) rfl)
      (pss_one (ps_ret (pv 2))))), ?_⟩
    obtain ⟨⟨r, t, hd⟩, ll, cc, lc⟩ := id D
    refine' (fun tail : ∀ H1 : Hp, Drw H1 d l c → But d l H H1 → (?G : Hp → Prop) H1 => ?a) ?b
    case a =>
      refine ⟨_, rfl, d, _, rfl, g_rest hd, rfl, _, rfl, ite2 (fun e => ?_) (fun e => ?_)⟩
      -- the rest is 0: the first of the large ones, or a mixed one
      · obtain ⟨ns, hl⟩ := ll
        refine ⟨_, rfl, d, _, rfl, g_large hd, Nat.zero_le _, fun p np => ?_⟩
        have Dp1 := D.new (o := .lst []) np
        have Bp1 : But d l H (upd H p (.lst [])) := But.new np
        have hl1 : (upd H p (.lst [])) l = some (.lst (ns.map V.int)) := by rw [upd_ne (ne_of_none hl np)]; exact hl
        have hd1 : (upd H p (.lst [])) d = some (.dK (dkv l c r t)) := by rw [upd_ne (ne_of_none hd np)]; exact hd
        have hp1 : (upd H p (.lst [])) p = some (.lst []) := upd_same
        generalize upd H p (.lst []) = H1 at Dp1 Bp1 hl1 hd1 hp1 ⊢
        refine ⟨.list (ns.map PyData.int), .list [], .lst (SqL.of hl1) (dp_ints ns), .lst (SqL.of hp1) .nil, ints_shaped ns, rfl, _, rfl, ?_⟩
        cases ns with
        | nil =>
          refine iteF ⟨.ref d, rfl, d, l, c, rfl, Dp1, fun k H2 D2 B2 => ?_⟩
          obtain ⟨⟨r2, t2, hd2⟩, _, _, _⟩ := id D2
          refine ⟨_, rfl, d, _, rfl, q_rest hd2, ?_⟩
          have D3 := D2.put k t2
          have B3 : But d l H (upd H2 d (.dK (dkv l c k t2))) := (Bp1.trans B2).trans But.atd
          generalize upd H2 d (.dK (dkv l c k t2)) = H3 at D3 B3 ⊢
          exact tail H3 D3 B3
        | cons x xs =>
          refine iteT ⟨_, rfl, d, _, rfl, g_large hd1, .inl ⟨rfl, _, SqL.of hl1⟩, l, _, 0, 0, .int x, rfl, rfl, hl1, by decide, by decide, seqIndex_of (by decide) (by simp), rfl, ?_⟩
          have D2 : Drw (upd H1 l (.lst (xs.map V.int))) d l c := ⟨⟨r, t, by rw [upd_ne D.nl.symm]; exact hd1⟩, ⟨xs, upd_same⟩, by obtain ⟨ms, hc⟩ := Dp1.cc; exact ⟨ms, by rw [upd_ne lc.symm]; exact hc⟩, lc⟩
          have B2 : But d l H (upd H1 l (.lst (xs.map V.int))) := Bp1.trans But.atl
          have eL : (List.map V.int (x :: xs)).eraseIdx 0 = xs.map V.int := rfl
          rw [eL]
          obtain ⟨⟨r2, t2, hd2⟩, _, _, _⟩ := id D2
          refine ⟨_, rfl, d, _, rfl, q_rest hd2, ?_⟩
          have D3 := D2.put x t2
          have B3 := B2.trans (But.atd (o := .dK (dkv l c x t2)))
          generalize upd (upd H1 l (.lst (xs.map V.int))) d (.dK (dkv l c x t2)) = H3 at D3 B3 ⊢
          exact tail H3 D3 B3
      · exact tail H D But.refl
    case b =>
      intro H1 D1 B1
      obtain ⟨⟨r1, t1, hd1⟩, _, _, _⟩ := id D1
      refine ⟨_, rfl, d, _, rfl, g_rest hd1, .inl ⟨_, rfl, _, rfl, _, _, rfl, rfl, n0, ?_⟩⟩
      refine ⟨_, rfl, d, _, rfl, g_rest hd1, .inl ⟨_, rfl, _, rfl, _, _, rfl, rfl, ⟨n0, n1⟩, _, rfl, d, _, rfl, q_rest hd1, ?_⟩⟩
      exact ⟨_, rfl, q _ _ (Int.emod_nonneg _ (by omega)) (Int.emod_lt_of_pos _ n0) (D1.put _ _) (B1.trans But.atd)⟩
theorem ok_pick {f fT fM : Addr} {fd fdT fdM : FuncData} (F : Fun K "_law_pick" "_law_pick" sPick f fd) (FT : Fun K "_law_take" "_law_take" sTake fT fdT) (FM : Fun K "_law_mixed" "_law_mixed" sMixed fM fdM)
    (bT : Binds K fdT ["_law_draw", "_law_amount"] []) (bM : Binds K fdM ["_law_draw"] []) (gT : mg "_law_take" = some (.ref fT)) (gM : mg "_law_mixed" = some (.ref fM)) (mi : mg "int" = none) (ml : mg "len" = none) :
    FnOk P w K mg base CX0 3 f fd ["_law_draw", "_law_some"] spPick := by
  have GT : FnOk P w K mg base CX0 2 fT fdT ["_law_draw", "_law_amount"] spTake := ok_take FT FM bM gM mi
  refine F.ok scP (fun vs H Q E h => ?_) (fun cdv A outer s H vs Q E hr h => ?_)
  · obtain ⟨d, l, c, z, xs, rfl, _⟩ := h
    rfl
  · obtain ⟨d, l, c, z, xs, rfl, D, hz, zl, x0, x1, q⟩ := h
    have hu := hu_of hr
    refine ⟨_, pss_one (ps_ret (pe_ix ix_list (pv 1) (pe_call GT hr (by rfl) gT FT.kp bT .nil pass0 (pa_cons (pv 0) (pa_cons (pe_callB call_len_seq (by rfl) ml PySem.boot_len (pa_cons (pv 1) pa_nil)) pa_nil))) (fun _ _ => rfl))), ?_⟩
    obtain ⟨⟨r, t, hd⟩, _, _, _⟩ := id D
    have zd : z ≠ d := ne_of hz hd (by intro z; cases z)
    refine ⟨_, rfl, _, rfl, _, rfl, z, xs, rfl, .inl (SqL.of hz), d, l, c, _, rfl, D, by omega, by omega, fun k H1 k0 k1 D1 B1 => ?_⟩
    obtain ⟨j, rfl⟩ : ∃ j : Nat, k = (j : Int) := ⟨k.toNat, by omega⟩
    have hj : j < xs.length := by omega
    exact ⟨z, xs, (j : Int), xs[j], rfl, rfl, SqL.of (B1 _ _ hz zd zl), atI_nat (List.getElem?_eq_getElem hj), q j _ H1 (List.getElem?_eq_getElem hj) D1 B1⟩
end
end Kn
-- part Bg
set_option maxHeartbeats 4000000
namespace Kn
open PySem PySem.Spec PyProof.Rows L2
theorem scB : FnScope ["_law_script", "_law_large", "_law_grain"] ["_law_script"] (defScope sBegun) := ⟨rfl, rfl, rfl, by decide +kernel, rfl, by decide +kernel, by decide +kernel⟩
def spBegun (K : PySem.W.Frag) : Sp := fun vs H Q _ => ∃ (a : Addr) (ns : List Int), vs = [.ref a] ∧ SqL K H a (ns.map V.int) ∧ ns.length ≤ 63 ∧ ∀ d l c H', Same H H' → H d = none → H l = none → H c = none → Drw H' d l c → Q (.ref d) H'
theorem same_new {H : Hp} {p : Addr} {o : HO} (h : H p = none) : Same H (upd H p o) := fun b u e => by
  rw [upd_ne (ne_of_none e h)]
  exact e
theorem same_own {H H1 : Hp} {p : Addr} {o : HO} (h : H p = none) (s : Same H H1) : Same H (upd H1 p o) := fun b u e => by
  rw [upd_ne (ne_of_none e h)]
  exact s b u e
theorem int_at {ns : List Int} {i : Nat} {x : V} (h : (ns.map V.int)[i]? = some x) : ∃ z, x = V.int z ∧ i < ns.length := by
  have hi := (List.getElem?_eq_some_iff.mp h).1
  rw [List.length_map] at hi
  rw [List.getElem?_map, List.getElem?_eq_getElem hi] at h
  exact ⟨ns[i], (Option.some.inj h).symm, hi⟩
section
variable {P : Program} {w : World} {K : PySem.W.Frag} {mg : Str → Option Value} {base : Heap}
theorem ok_begun {f : Addr} {fd : FuncData} (F : Fun K "_law_begun" "_law_begun" sBegun f fd) (ma : mg "abs" = none) : FnOk P w K mg base CX0 1 f fd ["_law_script"] (spBegun K) := by
  refine F.ok scB (fun vs H Q E h => ?_) (fun cdv A outer s H vs Q E hr h => ?_)
  · obtain ⟨a, ns, rfl, _⟩ := h
    rfl
  · obtain ⟨a, ns, rfl, hS, hn, q⟩ := h
    have hu := hu_of hr
    refine ⟨_, pss_cons (ps_setLc (i := 1) (own := [("_law_grain", 2)]) (g := gName 2) rfl scB.nd rfl rfl (sw_true rfl rfl rfl (by decide +kernel)) (pi_list (pv 0)) (blkOk_by (N := ["_law_script", "_law_large", "_law_grain"]) (sc := defScope sBegun) (by decide +kernel)) (fun _ _ _ _ _ => pg_name (i := 2) scB.nd rfl (.inl rfl))
          (fun _ _ _ _ _ => pts_one (pt_cmpR op_ge (pe_callB call_abs (by rfl) ma (by decide +kernel) (pa_cons (pv 2) pa_nil)) (pe_op op_pow pe_int pe_int) (nomark _)))
          (fun _ _ _ _ _ => pe_op op_sub (pe_callB call_abs (by rfl) ma (by decide +kernel) (pa_cons (pv 2) pa_nil)) (pe_op op_pow pe_int pe_int)))
      (pss_one (ps_ret (pe_disp (pps_cons pe_str (pv 1) (pps_cons pe_str pe_int (pps_cons pe_str
          (pe_lc (own := [("_law_grain", 2)]) (g := gName 2) rfl scB.nd (pi_list (pv 0)) (blkOk_by (N := ["_law_script", "_law_large", "_law_grain"]) (sc := defScope sBegun) (by decide +kernel)) (fun _ _ _ _ _ => pg_name (i := 2) scB.nd rfl (.inl rfl)) (fun _ _ _ _ _ => pts_nil)
            (fun _ _ _ _ _ => pe_callB call_abs (by rfl) ma (by decide +kernel) (pa_cons (pv 2) pa_nil)))
          (pps_cons pe_str pe_int pps_nil)))) rfl rfl (by decide) (by decide)))), ?_⟩
    -- the large ones
    refine ⟨_, rfl, a, rfl, ⟨_, hS⟩, fun L nL => lc_list (xs := ns.map V.int) (fun i H2 => Same H H2 ∧ ∃ acc : List Int, H2 L = some (.lst (acc.map V.int)) ∧ acc.length ≤ i) ⟨same_new nL, [], upd_same, Nat.le_refl _⟩ (fun _ _ _ h => h.1.seq hS) ?_ ?_⟩
    · rintro i x H2 hx ⟨sm, acc, ea, la⟩
      obtain ⟨z, rfl, hi⟩ := int_at hx
      refine ⟨rfl, _, rfl, z, rfl, _, _, rfl, rfl, ⟨by decide, by decide, by decide⟩, _, _, rfl, rfl, _, rfl, ite2 (fun e => ?_) (fun e => ?_)⟩
      · refine ⟨_, rfl, z, rfl, _, _, rfl, rfl, ⟨by decide, by decide, by decide⟩, _, _, rfl, rfl, _, ea, ?_, same_own nL sm, acc ++ [(if z < 0 then -z else z) - 10 ^ Int.toNat 18], ?_, ?_⟩
        · rw [List.length_map]
          exact small1000 (by omega)
        · exact Eq.trans upd_same (by rw [List.map_append]; rfl)
        · rw [List.length_append, List.length_singleton]
          omega
      · exact ⟨sm, acc, ea, Nat.le_succ_of_le la⟩
    · rintro H2 ⟨sm, ls, eL, _⟩
      -- the dict
      refine fun p np => ?_
      have npL : L ≠ p := ne_of_none eL np
      refine ⟨_, rfl, _, rfl, a, rfl, ⟨_, (same_new np).seq (sm.seq hS)⟩, fun C nC => lc_list (xs := ns.map V.int) (fun i H3 => Same H H3 ∧ H3 p = some (.dK []) ∧ H3 L = some (.lst (ls.map V.int)) ∧ ∃ acc : List Int, H3 C = some (.lst (acc.map V.int)) ∧ acc.length ≤ i) ?_ (fun _ _ _ h => h.1.seq hS) ?_ ?_⟩
      · have npC : p ≠ C := ne_of_none upd_same nC
        have nC2 : H2 C = none := (same_new np).free nC
        refine ⟨sm.trans ((same_new np).trans (same_new nC)), ?_, ?_, [], upd_same, Nat.le_refl _⟩
        · rw [upd_ne npC, upd_same]
        · rw [upd_ne (ne_of_none eL nC2), upd_ne npL]
          exact eL
      · rintro i x H3 hx ⟨s3, ep, e3, acc, ea, la⟩
        obtain ⟨z, rfl, hi⟩ := int_at hx
        have pC : p ≠ C := ne_of ep ea (by intro z; cases z)
        have LC : L ≠ C := fun e => by
          have nC2 := (same_new (o := .dK []) np).free nC
          rw [← e, eL] at nC2
          cases nC2
        refine ⟨rfl, ?_⟩
        dsimp only [tYes]
        rw [if_pos rfl]
        refine ⟨_, rfl, z, rfl, _, ea, ?_, same_own (sm.free ((same_new np).free nC)) s3, ?_, ?_, acc ++ [if z < 0 then -z else z], ?_, ?_⟩
        · rw [List.length_map]
          exact small1000 (by omega)
        · rw [upd_ne pC]
          exact ep
        · rw [upd_ne LC]
          exact e3
        · exact Eq.trans upd_same (by rw [List.map_append]; rfl)
        · rw [List.length_append, List.length_singleton]
          omega
      · rintro H3 ⟨s3, ep, e3, acc, ea, la⟩
        have nC2 : H2 C = none := (same_new np).free nC
        have LC : L ≠ C := fun e => by
          rw [← e, eL] at nC2
          cases nC2
        have pC : C ≠ p := ne_of ea ep (by intro z; cases z)
        refine ⟨ep, dkv L C 0 0, rfl, by show 4 ≤ 15; decide, ?_⟩
        refine q p L C _ (same_own (sm.free np) s3) (sm.free np) nL (sm.free nC2) ⟨⟨0, 0, upd_same⟩, ⟨ls, ?_⟩, ⟨acc, ?_⟩, LC⟩
        · rw [upd_ne npL]
          exact e3
        · rw [upd_ne pC]
          exact ea
end
end Kn
-- part Sh
set_option maxHeartbeats 4000000
namespace Kn
open PySem PySem.Spec PyProof.Rows L2
abbrev sShuf : Stmt := topS 43
theorem scS : FnScope ["_law_draw", "_law_some", "_law_pool", "_law_found"] ["_law_draw", "_law_some"] (defScope sShuf) := ⟨rfl, rfl, rfl, by decide +kernel, rfl, by decide +kernel, by decide +kernel⟩
/-- a number or a text -/
inductive Sm : V → PyData → Prop where
  | int (i : Int) : Sm (.int i) (.int i)
  | str (x : Str) (h : PyData.strOk x = true) : Sm (.str x) (.str x)
inductive Sms : List V → List PyData → Prop where
  | nil : Sms [] []
  | cons {x : V} {y : PyData} {xs : List V} {ys : List PyData} (h : Sm x y) (t : Sms xs ys) : Sms (x :: xs) (y :: ys)
theorem Sms.of : ∀ {xs : List V}, (∀ x ∈ xs, ∃ y, Sm x y) → ∃ ys, Sms xs ys
  | [], _ => ⟨_, .nil⟩
  | x :: xs, h => by
    obtain ⟨y, hy⟩ := h x (List.mem_cons_self ..)
    obtain ⟨ys, t⟩ := Sms.of (xs := xs) fun z hz => h z (List.mem_cons_of_mem _ hz)
    exact ⟨_, .cons hy t⟩
theorem Sms.dp {K : PySem.W.Frag} {H : Hp} : ∀ {xs : List V} {ys : List PyData}, Sms xs ys → DpAll K H xs ys
  | _, _, .nil => .nil
  | _, _, .cons h t => .cons (by cases h with | int i => exact .int _ | str x _ => exact .str _) t.dp
theorem Sms.lay : ∀ {xs : List V} {ys : List PyData}, Sms xs ys → PyData.canLayAll0 ys = true ∧ PyData.depthAll ys = 0
  | _, _, .nil => ⟨rfl, rfl⟩
  | _, _, .cons h t => by
    obtain ⟨z1, z2⟩ := t.lay
    cases h with
    | int i => simp [PyData.canLayAll0, PyData.canLay0, PyData.depthAll, PyData.depth, z1, z2]
    | str x h => simp [PyData.canLayAll0, PyData.canLay0, PyData.depthAll, PyData.depth, z1, z2, h]
theorem Sms.flat {xs : List V} {ys : List PyData} (h : Sms xs ys) : SeqAt.shaped (.list ys) = true := by
  obtain ⟨z1, z2⟩ := h.lay
  simp [SeqAt.shaped, PyData.canLay0, PyData.depth, z1, z2]
theorem But.own {d l p : Addr} {H H2 : Hp} {o : HO} (b : But d l H H2) (np : H p = none) : But d l H (upd H2 p o) := fun x u e h1 h2 => by
  rw [upd_ne (ne_of_none e np)]
  exact b x u e h1 h2
theorem Drw.own {d l c p : Addr} {H H2 : Hp} {o : HO} (D : Drw H2 d l c) (D0 : Drw H d l c) (np : H p = none) : Drw (upd H2 p o) d l c := by
  obtain ⟨⟨r, t, h⟩, ⟨ns, hl⟩, ⟨ms, hc⟩, n⟩ := D
  obtain ⟨⟨r0, t0, h0⟩, ⟨ns0, hl0⟩, ⟨ms0, hc0⟩, _⟩ := D0
  exact ⟨⟨r, t, by rw [upd_ne (ne_of_none h0 np)]; exact h⟩, ⟨ns, by rw [upd_ne (ne_of_none hl0 np)]; exact hl⟩, ⟨ms, by rw [upd_ne (ne_of_none hc0 np)]; exact hc⟩, n⟩
theorem perm_pop : ∀ {xs : List V} {k : Nat} {y : V}, xs[k]? = some y → (y :: xs.eraseIdx k).Perm xs
  | x :: xs, 0, y, h => by
    cases h
    exact .refl _
  | x :: xs, k + 1, y, h => by
    have z := perm_pop (xs := xs) (k := k) (y := y) (by simpa using h)
    exact (List.Perm.swap x y _).trans (z.cons x)
def spShuf : Sp := fun vs H Q _ => ∃ d l c s xs, vs = [.ref d, .ref s] ∧ Drw H d l c ∧ H s = some (.lst xs) ∧ s ≠ l ∧ (∀ x ∈ xs, ∃ y, Sm x y) ∧ xs.length ≤ 1000 ∧ ∀ p ys H', ys.Perm xs → Drw H' d l c → But d l H H' → H p = none → H' p = some (.lst ys) → Q (.ref p) H'
section
variable {P : Program} {w : World} {K : PySem.W.Frag} {mg : Str → Option Value} {base : Heap}
theorem ok_shuf {f fT : Addr} {fd fdT : FuncData} (F : Fun K "_law_shuffled" "_law_shuffled" sShuf f fd) (GT : FnOk P w K mg base CX0 2 fT fdT ["_law_draw", "_law_amount"] spTake) (kT : PySem.W.keepIn K (.ref fT) = true)
    (bT : Binds K fdT ["_law_draw", "_law_amount"] []) (gT : mg "_law_take" = some (.ref fT)) (ml : mg "len" = none) (mk : mg "list" = none) : FnOk P w K mg base CX0 3 f fd ["_law_draw", "_law_some"] spShuf := by
  have S := scS
  refine F.ok S (fun vs H Q E h => ?_) (fun cdv A outer s H vs Q E hr h => ?_)
  · obtain ⟨d, l, c, z, xs, rfl, _⟩ := h
    rfl
  · obtain ⟨d, l, c, z, xs, rfl, D, hz, zl, hx, x1, q⟩ := h
    have hu := hu_of hr
    refine ⟨_, pss_cons (ps_par (i := 2) (j := 3) rfl S.nd rfl rfl (by decide) rfl rfl (pa_cons (pe_callTy call_list_of (by rfl) mk (by decide +kernel) (pa_cons (pv 1) pa_nil)) (pa_cons (pe_lst pa_nil) pa_nil)) (by rfl) (by rfl))
      (pss_cons (ps_while PassesOwn.never (pt_cmpR (op_neD hr.units) (pv 2) (pe_lst pa_nil) (nomark _))
        (pss_one (ps_expr (pe_bm PySem.F.plainAttrs_list PySem.F.slot_list_append PySem.F.type_list_append mt_append (pv 3)
          (pa_cons (pe_bm PySem.F.plainAttrs_list PySem.F.slot_list_pop PySem.F.type_list_pop mt_popAt (pv 2)
            (pa_cons (pe_call GT hr (by rfl) gT kT bT .nil pass0 (pa_cons (pv 0) (pa_cons (pe_callB call_len_seq (by rfl) ml PySem.boot_len (pa_cons (pv 2) pa_nil)) pa_nil))) pa_nil)) pa_nil)))))
      (pss_one (ps_ret (pv 3)))), ?_⟩
    refine ⟨_, rfl, z, xs, rfl, .inl (SqL.of hz), fun po npo => ?_⟩
    refine ⟨Nat.zero_le _, fun fo nfo => ⟨_, _, rfl, ?_⟩⟩
    have nfo' : H fo = none := by
      by_cases e : fo = po
      · subst e
        rw [upd_same] at nfo
        cases nfo
      · rw [upd_ne e] at nfo
        exact nfo
    have pf : po ≠ fo := fun e => by
      subst e
      rw [upd_same] at nfo
      cases nfo
    have hp0 : (upd (upd H po (.lst xs)) fo (.lst [])) po = some (.lst xs) := by rw [upd_ne pf, upd_same]
    have hf0 : (upd (upd H po (.lst xs)) fo (.lst [])) fo = some (.lst []) := upd_same
    have D1 := ((Drw.own (o := .lst xs) D D npo).own (o := .lst []) D nfo')
    have B1 : But d l H (upd (upd H po (.lst xs)) fo (.lst [])) := (But.own (o := .lst xs) But.refl npo).own nfo'
    generalize upd (upd H po (.lst xs)) fo (.lst []) = H1 at hp0 hf0 D1 B1 ⊢
    refine ⟨fun m σ H2 => ∃ ps fs, σ = [some (.ref d), some (.ref z), some (.ref po), some (.ref fo)] ∧ H2 po = some (.lst ps) ∧ H2 fo = some (.lst fs) ∧ m = ps.length ∧ (fs ++ ps).Perm xs ∧ Drw H2 d l c ∧ But d l H H2, ⟨_, xs, [], rfl, hp0, hf0, rfl, .refl _, D1, B1⟩, ?_⟩
    rintro m σ H2 ⟨ps, fs, rfl, hp, hf, rfl, pm, D2, B2⟩
    have hl0 : ∃ o, H l = some o := by obtain ⟨_, ⟨ns, e⟩, _, _⟩ := D; exact ⟨_, e⟩
    have hd0 : ∃ o, H d = some o := by obtain ⟨⟨r, t, e⟩, _, _, _⟩ := D; exact ⟨_, e⟩
    have pl : po ≠ l := fun e => by obtain ⟨o, z⟩ := hl0; rw [← e, npo] at z; cases z
    have pd : po ≠ d := fun e => by obtain ⟨o, z⟩ := hd0; rw [← e, npo] at z; cases z
    have fl : fo ≠ l := fun e => by obtain ⟨o, z⟩ := hl0; rw [← e, nfo'] at z; cases z
    have fd' : fo ≠ d := fun e => by obtain ⟨o, z⟩ := hd0; rw [← e, nfo'] at z; cases z
    refine ⟨_, rfl, Nat.zero_le _, fun e ne => ?_⟩
    obtain ⟨ds, hds⟩ := Sms.of (xs := ps) fun x hh => hx x (pm.subset (List.mem_append_right _ hh))
    have hp3 : (upd H2 e (.lst [])) po = some (.lst ps) := by rw [upd_ne (ne_of_none hp ne)]; exact hp
    have hf3 : (upd H2 e (.lst [])) fo = some (.lst fs) := by rw [upd_ne (ne_of_none hf ne)]; exact hf
    have he3 : (upd H2 e (.lst [])) e = some (.lst []) := upd_same
    have D3 := D2.new (o := .lst []) ne
    have B3 : But d l H (upd H2 e (.lst [])) := B2.trans (But.new ne)
    generalize upd H2 e (.lst []) = H3 at hp3 hf3 he3 D3 B3 ⊢
    have lsum : fs.length + ps.length = xs.length := by rw [← List.length_append]; exact pm.length_eq
    refine ⟨.list ds, .list [], .lst (SqL.of hp3) hds.dp, .lst (SqL.of he3) .nil, hds.flat, rfl, _, rfl, ?_⟩
    cases hds with
    | nil =>
      refine iteF ⟨_, rfl, q fo fs H3 (by simpa using pm) D3 B3 nfo' hf3⟩
    | @cons x y0 r ys hxy ht =>
      refine iteT ⟨fun σ' H' => ∃ m', m' < (x :: r).length ∧ ∃ ps fs, σ' = [some (.ref d), some (.ref z), some (.ref po), some (.ref fo)] ∧ H' po = some (.lst ps) ∧ H' fo = some (.lst fs) ∧ m' = ps.length ∧ (fs ++ ps).Perm xs ∧ Drw H' d l c ∧ But d l H H', fun _ _ h => h, ?_⟩
      refine ⟨_, rfl, .inl ⟨rfl, _, SqL.of hf3⟩, _, rfl, .inl ⟨rfl, _, SqL.of hp3⟩, _, rfl, _, rfl, po, x :: r, rfl, .inl (SqL.of hp3), d, l, c, ((x :: r).length : Nat), rfl, D3, by rw [List.length_cons]; omega, by rw [List.length_cons] at lsum ⊢; omega, fun k H4 k0 k1 D4 B4 => ?_⟩
      obtain ⟨j, rfl⟩ : ∃ j : Nat, k = (j : Int) := ⟨k.toNat, by omega⟩
      have hj : j < (x :: r).length := by omega
      have hj2 : j < 1001 := by omega
      have hp4 := B4 _ _ hp3 pd pl
      have hf4 := B4 _ _ hf3 fd' fl
      have gj := List.getElem?_eq_getElem hj
      refine ⟨po, x :: r, (j : Int), j, (x :: r)[j], rfl, rfl, hp4, by omega, by omega, seqIndex_of (by omega) (by exact Int.ofNat_lt.mpr hj), gj, ?_⟩
      have hf5 : (upd H4 po (.lst ((x :: r).eraseIdx j))) fo = some (.lst fs) := by rw [upd_ne pf.symm]; exact hf4
      have hp5 : (upd H4 po (.lst ((x :: r).eraseIdx j))) po = some (.lst ((x :: r).eraseIdx j)) := upd_same
      have D5 := D4.own (o := .lst ((x :: r).eraseIdx j)) D npo
      have B5 := (B3.trans B4).own (o := .lst ((x :: r).eraseIdx j)) npo
      generalize upd H4 po (.lst ((x :: r).eraseIdx j)) = H5 at hf5 hp5 D5 B5 ⊢
      refine ⟨fo, fs, (x :: r)[j], rfl, rfl, hf5, small1000 (by omega), ?_⟩
      have el : ((x :: r).eraseIdx j).length = (x :: r).length - 1 := List.length_eraseIdx_of_lt hj
      refine ⟨_, ?_, (x :: r).eraseIdx j, fs ++ [(x :: r)[j]], rfl, ?_, upd_same, rfl, ?_, D5.own D nfo', B5.own nfo'⟩
      · rw [el, List.length_cons]
        omega
      · rw [upd_ne pf]
        exact hp5
      · rw [List.append_assoc]
        exact ((perm_pop gj).append_left fs).trans pm
end
end Kn
-- part Vl
set_option maxHeartbeats 4000000
/-! Any value, as far as the package judges it: a word W of it, and the package's judges as functions of that word. -/
namespace Kn
open PySem PySem.Spec PyProof.Rows L2
inductive W where
  | non
  | bl (b : Bool)
  | int (i : Int)
  | str (x : Str)
  | lst (ws : List W)
  | tup (ws : List W)
  | dct (kws : List (Option Key × W))
/-- a dict at a, its items in their order -/
def DctAt (H : Hp) (a : Addr) (kvs : List (Option Key × V)) : Prop := ∃ ks : List (Key × V), Rd H a (.dK ks) ∧ kvs = ks.map fun p => (some p.1, p.2)
/-- a key that is short -/
def kSm : Option Key → Prop
  | some (.inr x) => x.cps.size ≤ 900 ∧ PyData.strOk x = true
  | _ => True
mutual
inductive Is (H : Hp) : V → W → Prop
  | non : Is H .non .non
  | bl (b : Bool) : Is H (.bl b) (.bl b)
  | int (i : Int) : Is H (.int i) (.int i)
  | str (x : Str) (h : x.cps.size ≤ 900) (ok : PyData.strOk x = true) : Is H (.str x) (.str x)
  | lst {a : Addr} {xs : List V} {ws : List W} (h : xs.length ≤ 900) : H a = some (.lst xs) → IsAll H xs ws → Is H (.ref a) (.lst ws)
  | tup {a : Addr} {xs : List V} {ws : List W} (h : xs.length ≤ 900) : Rd H a (.tup xs) → IsAll H xs ws → Is H (.ref a) (.tup ws)
  | dct {a : Addr} {kvs : List (Option Key × V)} {kws : List (Option Key × W)} (h : kvs.length ≤ 900) : DctAt H a kvs → IsKV H kvs kws → Is H (.ref a) (.dct kws)
inductive IsAll (H : Hp) : List V → List W → Prop
  | nil : IsAll H [] []
  | cons {v : V} {w : W} {vs : List V} {ws : List W} : Is H v w → IsAll H vs ws → IsAll H (v :: vs) (w :: ws)
inductive IsKV (H : Hp) : List (Option Key × V) → List (Option Key × W) → Prop
  | nil : IsKV H [] []
  | cons {k : Option Key} {v : V} {w : W} {vs : List (Option Key × V)} {ws : List (Option Key × W)} (hk : kSm k) : Is H v w → IsKV H vs ws → IsKV H ((k, v) :: vs) ((k, w) :: ws)
end
theorem DctAt.same {H H' : Hp} {a : Addr} {kvs : List (Option Key × V)} (h : DctAt H a kvs) (s : Same H H') : DctAt H' a kvs := by
  obtain ⟨ks, e, q⟩ := h
  refine ⟨ks, ?_, q⟩
  rcases e with e | ⟨o, e⟩
  · exact .inl (s _ _ e)
  · exact .inr ⟨o, s _ _ e⟩
/-- a dict is locked: what reads it stays -/
theorem DctAt.lock {H : Hp} {a d : Addr} {od : Obj} {ks0 : List (Key × V)} {kvs : List (Option Key × V)} (hd : H d = some (.dK ks0)) (h : DctAt H a kvs) : DctAt (upd H d (.frz od (.dK ks0))) a kvs := by
  obtain ⟨ks, e, q⟩ := h
  refine ⟨ks, ?_, q⟩
  by_cases hb : a = d
  · subst hb
    rcases e with e | ⟨o, e⟩
    · rw [hd] at e
      cases e
      exact .inr ⟨od, upd_same⟩
    · rw [hd] at e
      cases e
  · rcases e with e | ⟨o, e⟩
    · exact .inl (by rw [upd_ne hb]; exact e)
    · exact .inr ⟨o, by rw [upd_ne hb]; exact e⟩
theorem Rd.same {H H' : Hp} {a : Addr} {u : HO} (h : Rd H a u) (s : Same H H') : Rd H' a u := by
  rcases h with e | ⟨o, e⟩
  · exact .inl (s _ _ e)
  · exact .inr ⟨o, s _ _ e⟩
theorem Rd.lock {H : Hp} {a d : Addr} {od : Obj} {ks : List (Key × V)} {xs : List V} (hd : H d = some (.dK ks)) (h : Rd H a (.tup xs)) : Rd (upd H d (.frz od (.dK ks))) a (.tup xs) := by
  have ne : a ≠ d := fun z => by
    rcases h with e | ⟨o, e⟩
    · rw [z, hd] at e
      cases e
    · rw [z, hd] at e
      cases e
  rcases h with e | ⟨o, e⟩
  · exact .inl (by rw [upd_ne ne]; exact e)
  · exact .inr ⟨o, by rw [upd_ne ne]; exact e⟩
mutual
theorem Is.same {H H' : Hp} {v : V} {w : W} (s : Same H H') : Is H v w → Is H' v w
  | .non => .non
  | .bl b => .bl b
  | .int i => .int i
  | .str x h ok => .str x h ok
  | .lst h e t => .lst h (s _ _ e) (t.same s)
  | .tup h e t => .tup h (Rd.same e s) (t.same s)
  | .dct h e t => .dct h (e.same s) (t.same s)
theorem IsAll.same {H H' : Hp} {v : List V} {w : List W} (s : Same H H') : IsAll H v w → IsAll H' v w
  | .nil => .nil
  | .cons h t => .cons (h.same s) (t.same s)
theorem IsKV.same {H H' : Hp} {v : List (Option Key × V)} {w : List (Option Key × W)} (s : Same H H') : IsKV H v w → IsKV H' v w
  | .nil => .nil
  | .cons hk h t => .cons hk (h.same s) (t.same s)
end
mutual
theorem Is.lock {H : Hp} {d : Addr} {od : Obj} {ks0 : List (Key × V)} (hd : H d = some (.dK ks0)) {v : V} {w : W} : Is H v w → Is (upd H d (.frz od (.dK ks0))) v w
  | .non => .non
  | .bl b => .bl b
  | .int i => .int i
  | .str x h ok => .str x h ok
  | .lst h e t => .lst h (by rw [upd_ne (ne_of e hd (by intro z; cases z))]; exact e) (t.lock hd)
  | .tup h e t => .tup h (Rd.lock hd e) (t.lock hd)
  | .dct h e t => .dct h (e.lock hd) (t.lock hd)
theorem IsAll.lock {H : Hp} {d : Addr} {od : Obj} {ks0 : List (Key × V)} (hd : H d = some (.dK ks0)) {v : List V} {w : List W} : IsAll H v w → IsAll (upd H d (.frz od (.dK ks0))) v w
  | .nil => .nil
  | .cons h t => .cons (h.lock hd) (t.lock hd)
theorem IsKV.lock {H : Hp} {d : Addr} {od : Obj} {ks0 : List (Key × V)} (hd : H d = some (.dK ks0)) {v : List (Option Key × V)} {w : List (Option Key × W)} : IsKV H v w → IsKV (upd H d (.frz od (.dK ks0))) v w
  | .nil => .nil
  | .cons hk h t => .cons hk (h.lock hd) (t.lock hd)
end
/-- not locked -/
def NF (H : Hp) (v : V) : Prop := ∀ a o u, v = .ref a → H a ≠ some (.frz o u)
def tyN : W → String
  | .non => "NoneType"
  | .bl _ => "bool"
  | .int _ => "int"
  | .str _ => "str"
  | .lst _ => "list"
  | .tup _ => "tuple"
  | .dct _ => "dict"
theorem Is.ty {K : PySem.W.Frag} {H : Hp} {v : V} {w : W} (h : Is H v w) : TyX K H v (.type (tyN w)) := by
  cases h with
  | non => exact .base .non
  | bl b => exact .base (.bl b)
  | int i => exact .base (.int i)
  | str x _ _ => exact .base (.str x)
  | lst _ e _ => exact .base (.lst e)
  | tup _ e _ =>
    rcases e with e | ⟨o, e⟩
    · exact .base (.tup e)
    · exact .fTuple e
  | dct _ e _ =>
    obtain ⟨ks, e, _⟩ := e
    rcases e with e | ⟨o, e⟩
    · exact .base (.dK e)
    · exact .fDict e
abbrev isTy (T : String) (w : W) : Bool := (kitB (tyN w) T).getD false
/-- isinstance(v, T), for the kinds that the package asks for -/
theorem Is.kit {K : PySem.W.Frag} {w : W} {T : String} (hT : T ∈ ["bool", "int", "str", "list", "tuple", "dict"]) : PySem.W.kitOne K (.type (tyN w)) (.type T) = some (isTy T w) := by
  refine kit_ty ?_
  have z : ∀ a ∈ ["NoneType", "bool", "int", "str", "list", "tuple", "dict"], ∀ T ∈ ["bool", "int", "str", "list", "tuple", "dict"], kitB a T = some ((kitB a T).getD false) := by decide +kernel
  exact z (tyN w) (by cases w <;> simp [tyN]) T hT
def isNum (w : W) : Bool := isTy "int" w && !isTy "bool" w
theorem isNum_eq (w : W) : isNum w = match w with | .int _ => true | _ => false := by
  cases w <;> kernel_rfl
/-- a judge of one value -/
def spJ (f : W → Bool) : Sp := fun vs H Q _ => ∃ v w, vs = [v] ∧ Is H v w ∧ Q (.bl (f w)) H
/-- answers put into a new list, one at a turn -/
def PB (H1 : Hp) (D : Addr) (bs : List Bool) (i : Nat) (H : Hp) : Prop := Same H1 H ∧ H D = some (.lst ((bs.take i).map V.bl))
theorem PB.zero {H1 : Hp} {D : Addr} {bs : List Bool} (n : H1 D = none) : PB H1 D bs 0 (upd H1 D (.lst [])) := ⟨same_new n, upd_same⟩
theorem PB.step {H1 H H4 : Hp} {D : Addr} {bs : List Bool} {i : Nat} {b : Bool} (p : PB H1 D bs i H) (s : Same H H4) (n : H1 D = none) (hi : i ≤ 900) (hb : bs[i]? = some b) :
    ∃ acc, H4 D = some (.lst acc) ∧ acc.length < sizeLine ∧ PB H1 D bs (i + 1) (upd H4 D (.lst (acc ++ [.bl b]))) := by
  refine ⟨_, s _ _ p.2, ?_, same_own n (p.1.trans s), ?_⟩
  · rw [List.length_map, List.length_take]
    exact small1000 (by omega)
  · rw [upd_same, List.take_add_one, hb, List.map_append]
    rfl
theorem PB.all {H1 H : Hp} {D : Addr} {bs : List Bool} (p : PB H1 D bs bs.length H) : H D = some (.lst (bs.map V.bl)) := by
  have z := p.2
  rw [List.take_length] at z
  exact z
def LET : Str := "abcdefghijklmnopqrstuvwxyz"
def isName (x : Str) : Bool := decide (1 ≤ x.cps.size) && (decide (x.cps.size ≤ 6) && (!decide (x = "t") && x.cps.toList.all fun c => decide (c ∈ LET.cps.toList)))
def isNameW : W → Bool
  | .str x => isName x
  | _ => false
def isSeq (w : W) : Bool := isTy "list" w || isTy "tuple" w
def withinW (lo hi : Int) : W → Bool
  | .int i => decide (lo ≤ i) && decide (i ≤ hi)
  | _ => false
abbrev sNumber : Stmt := topS 9
abbrev sWithin : Stmt := topS 10
theorem scNu : FnScope ["value"] ["value"] (defScope sNumber) := ⟨rfl, rfl, rfl, by decide +kernel, rfl, by decide +kernel, by decide +kernel⟩
theorem scWi : FnScope ["value", "least", "greatest"] ["value", "least", "greatest"] (defScope sWithin) := ⟨rfl, rfl, rfl, by decide +kernel, rfl, by decide +kernel, by decide +kernel⟩
section
variable {P : Program} {w : World} {K : PySem.W.Frag} {mg : Str → Option Value} {base : Heap}
theorem ok_number {f : Addr} {fd : FuncData} (F : Fun K "is_number" "is_number" sNumber f fd) (mi : mg "isinstance" = none) (m1 : mg "int" = none) (m2 : mg "bool" = none) : FnOk P w K mg base CX0 1 f fd ["value"] (spJ isNum) := by
  have S := scNu
  refine F.ok S (fun vs H Q E h => ?_) (fun cdv A outer s H vs Q E hr h => ?_)
  · obtain ⟨v, w, rfl, _⟩ := h
    rfl
  · obtain ⟨v, w, rfl, hv, q⟩ := h
    refine ⟨_, pss_one (ps_ret (pe_and (pe_callB call_isi (by rfl) mi PyProof.Rows.boot_isinstance (pa_cons (pv 0) (pa_cons (pe_bltn (v := .ty "int") (by rfl) m1 (by decide +kernel) rfl) pa_nil)))
      (pe_one (pe_not (pe_callB call_isi (by rfl) mi PyProof.Rows.boot_isinstance (pa_cons (pv 0) (pa_cons (pe_bltn (v := .ty "bool") (by rfl) m2 (by decide +kernel) rfl) pa_nil))))))), ?_⟩
    refine ⟨_, rfl, v, .ty "int", .type (tyN w), .type "int", isTy "int" w, rfl, .ty _, hv.ty, Is.kit (by decide), _, rfl, ?_⟩
    unfold isNum at q
    cases e : isTy "int" w with
    | false =>
      rw [e] at q
      exact iteF q
    | true =>
      rw [e] at q
      refine iteT ⟨_, rfl, v, .ty "bool", .type (tyN w), .type "bool", isTy "bool" w, rfl, .ty _, hv.ty, Is.kit (by decide), _, rfl, q⟩
def spWithin : Sp := fun vs H Q _ => ∃ v w lo hi, vs = [v, .int lo, .int hi] ∧ Is H v w ∧ Q (.bl (withinW lo hi w)) H
theorem ok_within {f fN : Addr} {fd fdN : FuncData} (F : Fun K "is_within" "is_within" sWithin f fd) (GN : FnOk P w K mg base CX0 1 fN fdN ["value"] (spJ isNum)) (kN : PySem.W.keepIn K (.ref fN) = true)
    (bN : Binds K fdN ["value"] []) (gN : mg "is_number" = some (.ref fN)) : FnOk P w K mg base CX0 2 f fd ["value", "least", "greatest"] spWithin := by
  have S := scWi
  refine F.ok S (fun vs H Q E h => ?_) (fun cdv A outer s H vs Q E hr h => ?_)
  · obtain ⟨v, w, lo, hi, rfl, _⟩ := h
    rfl
  · obtain ⟨v, w, lo, hi, rfl, hv, q⟩ := h
    refine ⟨_, pss_one (ps_ret (pe_and (pe_call GN hr (by rfl) gN kN bN .nil pass0 (pa_cons (pv 0) pa_nil)) (pe_one (pe_chain op_le op_le (pv 1) (pv 0) (pv 2))))), ?_⟩
    refine ⟨_, rfl, v, w, rfl, hv, _, rfl, ?_⟩
    cases hv with
    | int i =>
      refine iteT ⟨_, rfl, _, rfl, _, _, rfl, rfl, _, rfl, ?_⟩
      have e : withinW lo hi (.int i) = (decide (lo ≤ i) && decide (i ≤ hi)) := rfl
      rw [e] at q
      cases e1 : decide (lo ≤ i) with
      | false =>
        rw [e1] at q
        exact iteF q
      | true =>
        rw [e1] at q
        exact iteT ⟨_, rfl, _, _, rfl, rfl, q⟩
    | non => exact iteF q
    | bl b => exact iteF q
    | str x _ _ => exact iteF q
    | lst _ _ _ => exact iteF q
    | tup _ _ _ => exact iteF q
    | dct _ _ _ => exact iteF q
end
end Kn
-- part EnT
set_option maxHeartbeats 4000000
/-! enumerate of a tuple. -/
namespace EnT
open PySem PySem.Spec PyProof.Rows
open AutoSeq1 (wpAny_loadPart')
/-- the two cells that come -/
abbrev itO (l : Addr) : Obj := { cls := .type "tuple_iterator", data := .fields #[.ref l, .int 0 0] }
abbrev enO (a : Addr) : Obj := { cls := .type "enumerate", data := .fields #[.none, .bool false, .ref a, rawInt 0, .none, .none] }
theorem meets_new (l : Addr) (items : Array Value) (n : Nat) (dct : Option Addr) (sl : Array (Option Value)) :
    Meets (Builtin.«enumerate.__new__» ⟨[.type "enumerate", .ref l], []⟩) (fun _ R s => s.heap.get? l = some { cls := .type "tuple", dict := dct, data := .seq items n, slots := sl } ∧
      R (.ok (.ret (.ref (s.heap.push (itO l)).objs.size))) { s with heap := (s.heap.push (itO l)).push (enO s.heap.objs.size) }) := by
  refine .of_wp fun prog w A R s h => ?_
  obtain ⟨hp, g, d, tk, os⟩ := s
  obtain ⟨hl, h⟩ := h
  have hsub := sub_enumerate
  have hL : Heap.IsTuple (Shared.heap ⟨hp, g, d, tk, os⟩) l items := ⟨_, hl, rfl, n, rfl⟩
  wp_walk using wpAny_loadPart' hl
  refine wpAny_stack_any fun st => wpAny_pure ?_
  split
  · rename_i c _ _ _ _ _
    cases (c == Value.type "enumerate") <;>
    · wp_walk using wpAny_loadPart' hl, wpAny_pyIter_tuple hL
      exact ⟨_, rfl, h⟩
  · wp_walk using wpAny_loadPart' hl, wpAny_pyIter_tuple hL
    exact ⟨_, rfl, h⟩
section
variable {prog : Program} {w : World} {A : Around} {E : Value → Shared → Prop} {s : Shared}
theorem call_enum {l : Addr} {items : Array Value} {Q : Value → Shared → Prop} (hL : s.heap.IsTuple l items)
    (h : ∀ h', IsEnum h' (s.heap.objs.size + 1) s.heap.objs.size 0 .none → h'.IsTupleIter s.heap.objs.size l 0 → (∀ b o, s.heap.get? b = some o → h'.get? b = some o) → Q (.ref (s.heap.objs.size + 1)) { s with heap := h' }) :
    wpAny (model prog w) A (call (.type "enumerate") [.ref l]) Q E s := by
  obtain ⟨⟨c, dct, dt, sl⟩, hl, hc, n, hd⟩ := hL
  obtain rfl : c = .type "tuple" := hc
  obtain rfl : dt = .seq items n := hd
  have size1 : (s.heap.push (itO l)).objs.size = s.heap.objs.size + 1 := Heap.size_push ..
  have at1 : IsEnum ((s.heap.push (itO l)).push (enO s.heap.objs.size)) (s.heap.objs.size + 1) s.heap.objs.size 0 .none := by
    have z := Heap.get?_push_size (s.heap.push (itO l)) (o := enO s.heap.objs.size) rfl
    rw [size1] at z
    exact z
  refine callType_new F.called_enumerate (by decide) (F.typeCall_enumerate_1 _) (F.newCall_enumerate_1 _) (fun obj => F.args_object_init_2 obj _) F.entry_enumerate_new (meets_new l items n dct sl) ⟨hl, ?_⟩
  show _ ∧ _
  rw [size1]
  exact ⟨⟨_, at1, rfl⟩, h _ at1 ⟨_, Heap.get?_push_of_some _ (Heap.get?_push_size _ rfl), rfl, rfl⟩ fun b o x => Heap.get?_push_of_some _ (Heap.get?_push_of_some _ x)⟩
end
end EnT
namespace L2
open PySem PySem.Spec PyProof.Rows
/-- the tuple at a, each item in a new pair -/
def IteT (K : PySem.W.Frag) (a : Addr) : It where
  go := fun i H => ∃ (xs : List V) (x : V), SqT K H a xs ∧ xs[i]? = some x
  yld := fun i H v H' => ∃ T x, v = .ref T ∧ H T = none ∧ H' = upd H T (.tup [.int (i : Nat), x]) ∧ ∀ xs, SqT K H a xs → xs[i]? = some x
  stop := fun i H => ∃ xs : List V, SqT K H a xs ∧ xs.length = i
theorem turn_enumT {P : Program} {w : World} {K : PySem.W.Frag} {elts : List Expr} {kk : Nat} {tpos : Pos} (a e it : Addr) (hai : a ≠ it) (hae : a ≠ e) :
    Turn P w K (.Tuple elts kk tpos) (IteT K a) [e, it] e (fun i h => (∃ old, IsEnum h e it ((i : Nat) : Int) old) ∧ h.IsTupleIter it a i ∧ e ≠ it) := by
  constructor
  case mem => simp
  case obj =>
    rintro i h ⟨⟨old, he⟩, ⟨o, ho, hc, hd⟩, _⟩ b hb
    rcases List.mem_cons.mp hb with z | z
    · exact ⟨_, z ▸ he, fun v q => by cases q⟩
    · obtain rfl := List.mem_singleton.mp z
      exact ⟨o, ho, fun v q => by rw [hd] at q; cases q⟩
  case keep =>
    rintro i h h' ⟨⟨old, he⟩, hi, hne⟩ k
    exact ⟨⟨old, k e (by simp) _ he⟩, hi.at fun o q => k it (by simp) o q, hne⟩
  case self =>
    rintro A i s Q E ⟨⟨_, he⟩, _⟩ h
    exact wpAny_pyIter_enum he h
  case done =>
    rintro X rfl rfl rfl hc i pins s σ H E I hf ⟨⟨old, he⟩, hit, hne⟩ ⟨xs, hq, hx⟩
    obtain ⟨its, rv, p, hz⟩ := I.tuple hq
    obtain ⟨f0, f1, f2, f3, f4, f5⟩ := hf it (by simp)
    have hl := rv.length
    have D := Draws.tuple (prog := X.prog) (w := X.w) (A := X.A.in1) (I.ok.hd hc) it a hai its.toArray
    have e1 : i = its.toArray.size := by rw [List.size_toArray, ← hl]; exact hx.symm
    refine wpAny_pyNext_enum_endD D he (e1 ▸ ⟨hit, p⟩) fun h' eb => ⟨rfl, I.turned (t' := s.toks) (fun b o hb e => eb b o hb e) f0 f1 f3 f4 f5⟩
  case item =>
    rintro X rfl rfl rfl hc i pins s σ H E I hf ⟨⟨old, he⟩, hit, hne⟩ ⟨xs, x, hq, hx⟩
    obtain ⟨its, rv, p, hz⟩ := I.tuple hq
    obtain ⟨u, hu, ru⟩ := rv.get hx
    have hel : e < s.heap.objs.size := Heap.lt_size he
    have hil : it < s.heap.objs.size := by obtain ⟨_, q, _⟩ := hit; exact Heap.lt_size q
    have D := Draws.tuple (prog := X.prog) (w := X.w) (A := X.A.in1) (I.ok.hd hc) it a hai its.toArray
    have hi : i < its.toArray.size := by
      rw [List.size_toArray]
      exact (List.getElem?_eq_some_iff.mp hu).1
    refine wpAny_pyNext_enum_itemD D he ⟨hit, p⟩ hi hne (by simp [hne, Ne.symm hae]) fun y h' tk hy ho st' hT hsz hk => ?_
    have ey : y = u := by
      have z : its.toArray[i]? = some u := by simpa using hu
      rw [z] at hy
      exact (Option.some.inj hy).symm
    subst ey
    refine ⟨_, rfl, wpAny_letOwnedTupleGo_enum (s := { s with heap := h', toks := tk + 1 }) ho fun h2 he2 sb => ?_⟩
    have hT2 : h2.get? s.heap.objs.size = some { cls := .type "tuple", data := .seq #[.int i tk, y] } := (sb.2 _ (Nat.ne_of_gt hel)).trans hT
    have nT : H s.heap.objs.size = none := I.hok.fresh (Nat.le_refl _)
    have out : ∀ b ∈ [e, it], b < s.heap.objs.size := fun b hb => by
      rcases List.mem_cons.mp hb with z | z
      · rw [z]; exact hel
      · rw [List.mem_singleton.mp z]; exact hil
    have I1 : Inv X pins σ (upd H s.heap.objs.size (.tup [.int (i : Nat), x])) { s with heap := h2, toks := tk + 1 } := by
      refine I.turnedNew (ch := [e, it]) (fun b ob hb q => ?_) hf (Nat.le_refl _) ⟨by show 2 ≤ sizeLine; decide, [.int i tk, y], .cons ⟨_, rfl⟩ (.cons ru .nil), ⟨_, hT2, rfl, _, rfl⟩⟩
      have b1 : b ≠ e := fun z => hb (by simp [z])
      have b2 : b ≠ it := fun z => hb (by simp [z])
      exact (sb.2 b b1).trans (hk b ob b1 b2 q)
    refine ⟨.ref s.heap.objs.size, _, I1, rfl, ⟨_, x, rfl, nT, rfl, fun ys hy => by rw [I.tuple_inj hy hq]; exact hx⟩, ⟨⟨y, ?_⟩, st'.1.at fun o q => (sb.2 it (Ne.symm hne)).trans q, hne⟩, fun b hb => ?_⟩
    · rw [show ((i + 1 : Nat) : Int) = (i : Int) + 1 by omega]
      exact he2
    · rw [upd_ne (Nat.ne_of_lt (out b hb))]
      exact (hf b hb).1
/-- enumerate(tuple) -/
def iEnumT (K : PySem.W.Frag) (ta : TA) : TI := fun σ H R => ta σ H fun vs H1 => ∃ a xs, vs = [.ref a] ∧ SqT K H1 a xs ∧ R (IteT K a) H1
theorem pi_enumT {X : Cx} {e : Expr} {ta : TA} {p pos tpos : Pos} {elts : List Expr} {kk : Nat} (hg : Gl X "enumerate") (hm : X.mg "enumerate" = none) (ha : PA X [e] ta) (hs : starEach [e] X.env = [(false, eval e X.env)] := by rfl) :
    PI X (.Tuple elts kk tpos) (.Call (.Name "enumerate" p) [e] [] pos) (iEnumT X.K ta) := by
  constructor
  intro pins s σ H R I h
  refine Call_ (ld_blt I hg hm boot_enumerate (PyProof.Rows.callWith_type1 (thn (ha.run pos pins s σ H _ I h) ?_) hs rfl))
  rintro us s1 ⟨vs, H1, I1, r1, q1⟩
  obtain ⟨a, xs, rfl, hq, q⟩ := q1
  cases r1 with
  | cons r rr =>
    cases rr
    cases r
    obtain ⟨its, rv, p', hz⟩ := I1.tuple hq
    have hal : a < s1.heap.objs.size := p'.lt
    refine EnT.call_enum p' fun h' he hit hk => wpAny_pyIter_enum he ⟨s1.heap.objs.size + 1, [s1.heap.objs.size + 1, s1.heap.objs.size], _, _, H1, rfl, I1.kept (t' := s1.toks) hk,
      turn_enumT a (s1.heap.objs.size + 1) s1.heap.objs.size (Nat.ne_of_lt hal) (Nat.ne_of_lt (Nat.lt_succ_of_lt hal)), ⟨⟨.none, he⟩, hit, Nat.succ_ne_self _⟩, fun b hb => ?_, q⟩
    have hle : s1.heap.objs.size ≤ b := by
      rcases List.mem_cons.mp hb with z | z
      · rw [z]; exact Nat.le_succ _
      · rw [List.mem_singleton.mp z]; exact Nat.le_refl _
    exact I1.fpOk hle (I1.hok.fresh hle)
theorem walk_enumT {K : PySem.W.Frag} {a : Addr} {xs : List V} : Walk (IteT K a) xs.length (fun H => SqT K H a xs) (YPair (fun i => some (.int (i : Nat))) (fun i => xs[i]?)) := by
  constructor
  · intro i H hi q
    exact ⟨xs, xs[i], q, by simp [hi]⟩
  · intro H q
    exact ⟨xs, q, rfl⟩
  · rintro i H v H' _ q ⟨T, x, h1, h2, h3, h4⟩
    exact ⟨T, .int (i : Nat), x, h1, h2, h3, rfl, h4 xs q⟩
end L2
-- part TRead
set_option maxHeartbeats 4000000
/-! Reading of any value: tuples, dicts' values and keys; is_list, is_tuple_of. -/
namespace Kn
open PySem PySem.Spec PyProof.Rows L2
theorem IsAll.get {H : Hp} : ∀ {vs : List V} {ws : List W} {i : Nat} {x : V}, IsAll H vs ws → vs[i]? = some x → ∃ w, ws[i]? = some w ∧ Is H x w
  | _, _, 0, x, .cons h _, e => by
    cases e
    exact ⟨_, rfl, h⟩
  | _, _, i + 1, x, .cons _ t, e => by
    obtain ⟨w, e1, e2⟩ := t.get (i := i) (by simpa using e)
    exact ⟨w, by simpa using e1, e2⟩
/-- at a a list or a tuple -/
def keyW : Key → W
  | .inl i => .int i
  | .inr x => .str x
theorem IsKV.len {H : Hp} : ∀ {vs : List (Option Key × V)} {ws : List (Option Key × W)}, IsKV H vs ws → vs.length = ws.length
  | _, _, .nil => rfl
  | _, _, .cons _ _ t => congrArg (· + 1) t.len
theorem IsKV.keys {H : Hp} : ∀ {vs : List (Option Key × V)} {ws : List (Option Key × W)}, IsKV H vs ws → vs.map (·.1) = ws.map (·.1)
  | _, _, .nil => rfl
  | _, _, .cons _ _ t => congrArg (_ :: ·) t.keys
theorem IsKV.sm {H : Hp} : ∀ {vs : List (Option Key × V)} {ws : List (Option Key × W)}, IsKV H vs ws → ∀ p ∈ vs, kSm p.1
  | _, _, .nil, p, hp => by cases hp
  | _, _, .cons hk _ t, p, hp => by
    rcases List.mem_cons.mp hp with e | e
    · rw [e]; exact hk
    · exact t.sm p e
theorem same_unlock {H H3 : Hp} {d : Addr} {u : HO} {od : Obj} (hd : H d = some u) (s : Same (upd H d (.frz od u)) H3) : Same H (upd H3 d u) := fun b o e => by
  by_cases h : b = d
  · rw [h, hd] at e
    rw [h, upd_same]
    exact e
  · rw [upd_ne h]
    exact s b o (by rw [upd_ne h]; exact e)
/-- values put into a new list, one at a turn -/
def PV (H1 : Hp) (D : Addr) (vs : List V) (i : Nat) (H : Hp) : Prop := Same H1 H ∧ H D = some (.lst (vs.take i))
theorem PV.zero {H1 : Hp} {D : Addr} {vs : List V} (n : H1 D = none) : PV H1 D vs 0 (upd H1 D (.lst [])) := ⟨same_new n, upd_same⟩
theorem PV.step {H1 H H4 : Hp} {D : Addr} {vs : List V} {i : Nat} {v : V} (p : PV H1 D vs i H) (s : Same H H4) (n : H1 D = none) (hi : i ≤ 900) (hv : vs[i]? = some v) :
    ∃ acc, H4 D = some (.lst acc) ∧ acc.length < sizeLine ∧ PV H1 D vs (i + 1) (upd H4 D (.lst (acc ++ [v]))) := by
  refine ⟨_, s _ _ p.2, ?_, same_own n (p.1.trans s), ?_⟩
  · rw [List.length_take]
    exact small1000 (by omega)
  · rw [upd_same, List.take_add_one, hv]
    rfl
theorem PV.all {H1 H : Hp} {D : Addr} {vs : List V} (p : PV H1 D vs vs.length H) : H D = some (.lst vs) := by
  have z := p.2
  rw [List.take_length] at z
  exact z
theorem IsKV.val {H : Hp} : ∀ {ks : List (Key × V)} {kws : List (Option Key × W)} {i : Nat} {k : Key} {x : V}, IsKV H (ks.map fun p => (some p.1, p.2)) kws → ks[i]? = some (k, x) → ∃ w, kws[i]? = some (some k, w) ∧ Is H x w
  | (k0, v0) :: ks, _, 0, k, x, .cons _ h _, e => by
    cases e
    exact ⟨_, rfl, h⟩
  | (k0, v0) :: ks, _, i + 1, k, x, .cons _ _ t, e => by
    obtain ⟨w, e1, e2⟩ := IsKV.val (ks := ks) (i := i) t (by simpa using e)
    exact ⟨w, by simpa using e1, e2⟩
theorem IsKV.sm1 {H : Hp} {ks : List (Key × V)} {kws : List (Option Key × W)} {i : Nat} {k : Key} {x : V} (h : IsKV H (ks.map fun p => (some p.1, p.2)) kws) (e : ks[i]? = some (k, x)) : kSm (some k) :=
  h.sm (some k, x) (List.mem_map.mpr ⟨(k, x), List.mem_of_getElem? e, rfl⟩)
theorem is_key {H : Hp} {k : Key} (h : kSm (some k)) : Is H (kV k) (keyW k) := by
  cases k with
  | inl i => exact .int i
  | inr x => exact .str x h.1 h.2
/-- r([te for x in d.values()]), d locked meanwhile: te gives vs, one after the other -/
theorem vals_read {r : List V → Hp → VK → Prop} {te : TE} {σ : L2.St} {H : Hp} {Q : VK} {a : Addr} {ks : List (Key × V)} {kws : List (Option Key × W)} {vs : List V} {j n : Nat} (h0 : σ[j]? = some (some (.ref a))) (hd : H a = some (.dK ks))
    (hkv : IsKV H (ks.map fun p => (some p.1, p.2)) kws) (hz : ks.length ≤ 900) (hl : vs.length = ks.length)
    (step : ∀ (od : Obj) (i : Nat) (x v : V) (k : Key) (wi : W) (H4 : Hp), ks[i]? = some (k, x) → kws[i]? = some (some k, wi) → vs[i]? = some v → Same (upd H a (.frz od (.dK ks))) H4 → Is H4 x wi → ∀ R : VK, (∀ H5, Same H4 H5 → R v H5) → te ((wipe σ [n]).set n (some x)) H4 R)
    (fin : ∀ (od : Obj) (D : Addr) (H3 : Hp), Same (upd H a (.frz od (.dK ks))) H3 → H3 D = some (.lst vs) → r [.ref D] H3 (fun v H' => H' a = some (.frz od (.dK ks)) ∧ Q v (upd H' a (.dK ks))))
    (hw : ∀ x, wipe ((wipe σ [n]).set n (some x)) [n] = wipe σ [n]) : tLockE (tCB r (tCons (tLc (iVals (tVar j)) (gName n) tYes te [n]) tNil)) σ H Q := by
  refine ⟨a, _, hd, trivial, fun od => ?_⟩
  refine ⟨_, h0, a, od, ks, rfl, upd_same, fun D nD => lc_it (D := D) walk_values (PV (upd H a (.frz od (.dK ks))) D vs) (PV.zero nD) (fun i H' _ p => p.1 _ _ upd_same) ?_ ?_⟩
  · rintro i x H3 H4 hi p ⟨rfl, k, hk⟩
    obtain ⟨wi, hwi, his⟩ := hkv.val hk
    refine ⟨hw x, ?_⟩
    dsimp only [tYes]
    rw [if_pos rfl]
    have hv : vs[i]? = some (vs[i]'(by omega)) := List.getElem?_eq_getElem (by omega)
    exact step od i x _ k wi H4 hk hwi hv p.1 ((his.lock hd).same p.1) _ fun H5 s5 => p.step s5 nD (by omega) hv
  · intro H3 p
    rw [← hl] at p
    exact fin od D H3 p.1 p.all
/-- the same over the keys -/
theorem keys_read {r : List V → Hp → VK → Prop} {te : TE} {σ : L2.St} {H : Hp} {Q : VK} {a : Addr} {ks : List (Key × V)} {vs : List V} {j n : Nat} (h0 : σ[j]? = some (some (.ref a))) (hd : H a = some (.dK ks))
    (hz : ks.length ≤ 900) (hl : vs.length = ks.length)
    (step : ∀ (od : Obj) (i : Nat) (v x : V) (k : Key) (H4 : Hp), ks[i]? = some (k, x) → vs[i]? = some v → Same (upd H a (.frz od (.dK ks))) H4 → ∀ R : VK, (∀ H5, Same H4 H5 → R v H5) → te ((wipe σ [n]).set n (some (kV k))) H4 R)
    (fin : ∀ (od : Obj) (D : Addr) (H3 : Hp), Same (upd H a (.frz od (.dK ks))) H3 → H3 D = some (.lst vs) → r [.ref D] H3 (fun v H' => H' a = some (.frz od (.dK ks)) ∧ Q v (upd H' a (.dK ks))))
    (hw : ∀ x, wipe ((wipe σ [n]).set n (some x)) [n] = wipe σ [n]) : tLockE (tCB r (tCons (tLc (iKeys (tVar j)) (gName n) tYes te [n]) tNil)) σ H Q := by
  refine ⟨a, _, hd, trivial, fun od => ?_⟩
  refine ⟨_, h0, a, od, rfl, .inl ⟨ks, upd_same, fun D nD => lc_it (D := D) walk_keys (PV (upd H a (.frz od (.dK ks))) D vs) (PV.zero nD) (fun i H' _ p => p.1 _ _ upd_same) ?_ ?_⟩⟩
  · rintro i x H3 H4 hi p ⟨rfl, k, v0, hk, rfl⟩
    refine ⟨hw _, ?_⟩
    dsimp only [tYes]
    rw [if_pos rfl]
    have hv : vs[i]? = some (vs[i]'(by omega)) := List.getElem?_eq_getElem (by omega)
    exact step od i _ v0 k H4 hk hv p.1 _ fun H5 s5 => p.step s5 nD (by omega) hv
  · intro H3 p
    rw [← hl] at p
    exact fin od D H3 p.1 p.all
theorem NF.dict {H : Hp} {v : V} {kws : List (Option Key × W)} (h : Is H v (.dct kws)) (nf : NF H v) : ∃ a ks, v = .ref a ∧ H a = some (.dK ks) ∧ IsKV H (ks.map fun p => (some p.1, p.2)) kws ∧ ks.length ≤ 900 ∧ ks.length = kws.length := by
  cases h with
  | @dct a kvs _ hz hd hkv =>
    obtain ⟨ks, hd, rfl⟩ := hd
    rw [List.length_map] at hz
    have lk := hkv.len
    rw [List.length_map] at lk
    rcases hd with hd | ⟨o, hd⟩
    · exact ⟨a, ks, rfl, hd, hkv, hz, lk⟩
    · exact absurd hd (nf a o _ rfl)
abbrev sIsList : Stmt := topS 11
abbrev sTupOf : Stmt := topS 12
theorem scIl : FnScope ["value"] ["value"] (defScope sIsList) := ⟨rfl, rfl, rfl, by decide +kernel, rfl, by decide +kernel, by decide +kernel⟩
theorem scTo : FnScope ["value", "many"] ["value", "many"] (defScope sTupOf) := ⟨rfl, rfl, rfl, by decide +kernel, rfl, by decide +kernel, by decide +kernel⟩
def isTupOf (n : Int) : W → Bool
  | .tup ws => decide ((ws.length : Int) = n)
  | _ => false
theorem IsAll.len {H : Hp} : ∀ {vs : List V} {ws : List W}, IsAll H vs ws → vs.length = ws.length
  | _, _, .nil => rfl
  | _, _, .cons _ t => congrArg (· + 1) t.len
def spTupOf : Sp := fun vs H Q _ => ∃ v w n, vs = [v, .int n] ∧ Is H v w ∧ Q (.bl (isTupOf n w)) H
section
variable {P : Program} {w : World} {K : PySem.W.Frag} {mg : Str → Option Value} {base : Heap}
theorem ok_isList {f : Addr} {fd : FuncData} (F : Fun K "is_list" "is_list" sIsList f fd) (mi : mg "isinstance" = none) (m1 : mg "list" = none) (m2 : mg "tuple" = none) : FnOk P w K mg base CX0 1 f fd ["value"] (fun vs H Q _ => ∃ v w, vs = [v] ∧ Is H v w ∧ ∀ H', Same H H' → Q (.bl (isSeq w)) H') := by
  have S := scIl
  refine F.ok S (fun vs H Q E h => ?_) (fun cdv A outer s H vs Q E hr h => ?_)
  · obtain ⟨v, w, rfl, _⟩ := h
    rfl
  · obtain ⟨v, w, rfl, hv, q⟩ := h
    refine ⟨_, pss_one (ps_ret (pe_callB call_isiT (by rfl) mi PyProof.Rows.boot_isinstance (pa_cons (pv 0) (pa_cons (pe_tup (pa_cons (pe_bltn (v := .ty "list") (by rfl) m1 (by decide +kernel) rfl) (pa_cons (pe_bltn (v := .ty "tuple") (by rfl) m2 (by decide +kernel) rfl) pa_nil))) pa_nil)))), ?_⟩
    refine ⟨_, rfl, by show 2 ≤ sizeLine; decide, fun t nt => ?_⟩
    refine ⟨v, t, _, .type (tyN w), [.type "list", .type "tuple"], isSeq w, rfl, upd_same, .cons (.ty _) (.cons (.ty _) .nil), (hv.same (same_new nt)).ty, ?_, q _ (same_new nt)⟩
    refine kitAny_cons (b := isTy "list" w) (Is.kit (by decide)) (fun e => kitAny_cons (b := isTy "tuple" w) (Is.kit (by decide)) (fun e2 => ?_) (fun e2 => ?_)) (fun e => ?_)
    · unfold isSeq; rw [e, e2]; exact kitAny_nil
    · unfold isSeq; rw [e, e2]; rfl
    · unfold isSeq; rw [e]; rfl
theorem ok_tupOf {f : Addr} {fd : FuncData} (F : Fun K "is_tuple_of" "is_tuple_of" sTupOf f fd) (mi : mg "isinstance" = none) (m1 : mg "tuple" = none) (ml : mg "len" = none) : FnOk P w K mg base CX0 1 f fd ["value", "many"] spTupOf := by
  have S := scTo
  refine F.ok S (fun vs H Q E h => ?_) (fun cdv A outer s H vs Q E hr h => ?_)
  · obtain ⟨v, w, n, rfl, _⟩ := h
    rfl
  · obtain ⟨v, w, n, rfl, hv, q⟩ := h
    refine ⟨_, pss_one (ps_ret (pe_and (pe_callB call_isi (by rfl) mi PyProof.Rows.boot_isinstance (pa_cons (pv 0) (pa_cons (pe_bltn (v := .ty "tuple") (by rfl) m1 (by decide +kernel) rfl) pa_nil)))
      (pe_one (pe_cmpR op_eq (pe_callB call_len_seq (by rfl) ml PySem.boot_len (pa_cons (pv 0) pa_nil)) (pv 1) (nomark _))))), ?_⟩
    refine ⟨_, rfl, v, .ty "tuple", .type (tyN w), .type "tuple", isTy "tuple" w, rfl, .ty _, hv.ty, Is.kit (by decide), _, rfl, ?_⟩
    cases hv with
    | @tup a xs ws hz e t =>
      have e1 : isTy "tuple" (.tup ws) = true := by kernel_rfl
      rw [e1]
      refine iteT ⟨_, rfl, a, xs, rfl, .inr (.inl e), _, rfl, rfl, ?_⟩
      have e2 : decide (V.int (xs.length : Nat) = V.int n) = isTupOf n (.tup ws) := by
        rw [t.len]
        show _ = decide ((ws.length : Int) = n)
        by_cases h : (ws.length : Int) = n
        · rw [decide_eq_true h, decide_eq_true (by rw [h])]
        · rw [decide_eq_false h, decide_eq_false fun z => h (V.int.inj z)]
      rw [e2]
      exact q
    | non => exact iteF q
    | bl b => exact iteF q
    | int i => exact iteF q
    | str x _ _ => exact iteF q
    | lst _ _ _ => exact iteF q
    | dct _ _ _ => exact iteF q
end
end Kn
-- part TJud
set_option maxHeartbeats 4000000
/-! are_numbers, is_seat, is_tuple_of_numbers, are_alike_wide. -/
namespace Kn
open PySem PySem.Spec PyProof.Rows L2
abbrev sNums : Stmt := topS 19
abbrev sSeat : Stmt := topS 24
abbrev NNu : List Str := ["value", "many", "number"]
theorem scNus : FnScope NNu ["value", "many"] (defScope sNums) := ⟨rfl, rfl, rfl, by decide +kernel, rfl, by decide +kernel, by decide +kernel⟩
theorem scSeat : FnScope ["value"] ["value"] (defScope sSeat) := ⟨rfl, rfl, rfl, by decide +kernel, rfl, by decide +kernel, by decide +kernel⟩
/-- a tuple of n numbers -/
def numsW (n : Int) : W → Bool
  | .tup ws => decide ((ws.length : Int) = n) && ws.all isNum
  | _ => false
def spNums : Sp := fun vs H Q _ => ∃ v w n, vs = [v, .int n] ∧ Is H v w ∧ ∀ H', Same H H' → Q (.bl (numsW n w)) H'
def spSeat : Sp := fun vs H Q _ => ∃ v w, vs = [v] ∧ Is H v w ∧ Q (.bl (withinW 1 9 w)) H
def rLenS (K : PySem.W.Frag) : List V → Hp → VK → Prop := fun xs H Q => ∃ p ys, xs = [.ref p] ∧ (SqL K H p ys ∨ SqT K H p ys) ∧ Q (.int (ys.length : Nat)) H
/-- a module's number -/
theorem pe_known {X : Cx} {x : Str} {i : Int} {pos : Pos} (hg : Gl X x) (h : ∃ u, X.mg x = some u ∧ RelV (.int i) u) (hd : (x == ("__debug__" : Str)) = false := by decide) : PE X (.Name x pos) (tC (.int i)) := by
  obtain ⟨u, e, r⟩ := h
  exact pe_glob hg e r hd
section
variable {P : Program} {w : World} {K : PySem.W.Frag} {mg : Str → Option Value} {base : Heap}
theorem ok_nums {f f1 f2 : Addr} {fd fd1 fd2 : FuncData} (F : Fun K "are_numbers" "are_numbers" sNums f fd) (G1 : FnOk P w K mg base CX0 1 f1 fd1 ["value", "many"] spTupOf) (k1 : PySem.W.keepIn K (.ref f1) = true) (b1 : Binds K fd1 ["value", "many"] []) (g1 : mg "is_tuple_of" = some (.ref f1))
    (G2 : FnOk P w K mg base CX0 1 f2 fd2 ["value"] (spJ isNum)) (k2 : PySem.W.keepIn K (.ref f2) = true) (b2 : Binds K fd2 ["value"] []) (g2 : mg "is_number" = some (.ref f2)) (ma : mg "all" = none) : FnOk P w K mg base CX0 2 f fd ["value", "many"] spNums := by
  have S := scNus
  refine F.ok S (fun vs H Q E h => ?_) (fun cdv A outer s H vs Q E hr h => ?_)
  · obtain ⟨v, u, n, rfl, _⟩ := h
    rfl
  · obtain ⟨v, u, n, rfl, hv, q⟩ := h
    refine ⟨_, pss_one (ps_ret (pe_and (pe_call G1 hr (by rfl) g1 k1 b1 .nil pass0 (pa_cons (pv 0) (pa_cons (pv 1) pa_nil))) (pe_one (pe_callB (cr_all (by rfl)) (by rfl) ma (by decide +kernel) (pa_cons (pe_lc (own := [("number", 2)]) (g := gName 2) rfl S.nd (pi_tup (pv 0)) (blkOk_by (N := NNu) (sc := defScope sNums) (by decide +kernel)) (fun _ _ _ _ _ => pg_name (i := 2) S.nd rfl (.inl rfl)) (fun _ _ _ _ _ => pts_nil)
          (fun _ _ _ _ _ => pe_call G2 hr (by rfl) g2 k2 b2 .nil pass0 (pa_cons (pv 2) pa_nil))) pa_nil))))), ?_⟩
    refine ⟨_, rfl, _, rfl, v, u, n, rfl, hv, _, rfl, ?_⟩
    cases hv with
    | @tup p xs ws hz e t =>
      have el : ws.length = xs.length := t.len.symm
      have ev : numsW n (.tup ws) = (isTupOf n (.tup ws) && ws.all isNum) := rfl
      cases e1 : isTupOf n (.tup ws) with
      | false =>
        rw [e1] at ev
        have z := q H (Same.refl _)
        rw [ev] at z
        exact iteF z
      | true =>
        rw [e1, Bool.true_and] at ev
        have wk : Walk (Itt K p) xs.length (fun H' => Same H H') (YAt xs) := walk_tup.mono (fun H' s => .inl (Rd.same e s)) (fun _ _ _ _ _ _ y => y)
        refine iteT ⟨_, rfl, p, rfl, ⟨xs, .inl e⟩, fun D nD => lc_it (D := D) wk (PB H D (ws.map isNum)) (PB.zero nD) (fun _ _ _ p => p.1) ?_ ?_⟩
        · rintro i x H3 H4 hi pb ⟨rfl, hx⟩
          obtain ⟨wi, hwi, his⟩ := t.get hx
          refine ⟨rfl, ?_⟩
          dsimp only [tYes]
          rw [if_pos rfl]
          exact ⟨_, rfl, x, wi, rfl, his.same pb.1, pb.step (Same.refl _) nD (by omega) (by rw [List.getElem?_map, hwi]; rfl)⟩
        · intro H1 pb
          have hl : (ws.map isNum).length = xs.length := by rw [List.length_map, el]
          rw [← hl] at pb
          refine ⟨D, _, rfl, SqL.of pb.all, ?_⟩
          rw [show (ws.map isNum).all id = ws.all isNum by rw [List.all_map]; rfl, ← ev]
          exact q H1 pb.1
    | _ => exact iteF (q H (Same.refl _))
theorem ok_seat {f f1 : Addr} {fd fd1 : FuncData} (F : Fun K "is_seat" "is_seat" sSeat f fd) (G1 : FnOk P w K mg base CX0 2 f1 fd1 ["value", "least", "greatest"] spWithin) (k1 : PySem.W.keepIn K (.ref f1) = true) (b1 : Binds K fd1 ["value", "least", "greatest"] []) (g1 : mg "is_within" = some (.ref f1))
    (mh : ∃ u, mg "HIGHEST_SEAT" = some u ∧ RelV (.int 9) u) : FnOk P w K mg base CX0 3 f fd ["value"] spSeat := by
  have S := scSeat
  refine F.ok S (fun vs H Q E h => ?_) (fun cdv A outer s H vs Q E hr h => ?_)
  · obtain ⟨v, u, rfl, _⟩ := h
    rfl
  · obtain ⟨v, u, rfl, hv, q⟩ := h
    refine ⟨_, pss_one (ps_ret (pe_call G1 hr (by rfl) g1 k1 b1 .nil pass0 (pa_cons (pv 0) (pa_cons pe_int (pa_cons (pe_known (by rfl) mh) pa_nil))))), ?_⟩
    exact ⟨_, rfl, v, u, 1, 9, rfl, hv, q⟩
end
end Kn
-- part TMulA
set_option maxHeartbeats 4000000
/-! A tuple of one, any number of times: nought and one too. -/
namespace L2
open PySem PySem.Spec PyProof.Rows
theorem tmul_self (l : Addr) (items : Array Value) (n : Nat) (dd : Option Addr) (sl : Array (Option Value)) (x : Int) (u : Tok) (c0 : (decide (x < -(2 ^ 63)) || decide (x ≥ 2 ^ 63)) = false) (c1 : (items.isEmpty || x == 1) = true) :
    Meets (Builtin.«tuple.__mul__» ⟨[.ref l, .int x u], []⟩) (fun _ R s => s.heap.get? l = some { cls := .type "tuple", dict := dd, data := .seq items n, slots := sl } ∧ R (.ok (.ret (.ref l))) s) :=
  .of_wp fun prog w A R s h => by
    obtain ⟨hp, g, d, tk, os⟩ := s
    obtain ⟨hl, h⟩ := h
    have f1 := AutoSeq1.idx_int
    wp_walk using wpAny_loadPart' hl
    repeat (first
      | (refine wpAny_ite_false (decide_eq_false (by rw [c0]; exact Bool.false_ne_true)) ?_; wp_walk using wpAny_loadPart' hl)
      | (refine wpAny_ite_true (decide_eq_true c1) ?_; wp_walk using wpAny_loadPart' hl))
    exact ⟨_, rfl, h⟩
theorem tmul_none (l : Addr) (items : Array Value) (n : Nat) (dd : Option Addr) (sl : Array (Option Value)) (x : Int) (u : Tok) (c0 : (decide (x < -(2 ^ 63)) || decide (x ≥ 2 ^ 63)) = false) (c1 : (items.isEmpty || x == 1) = false) (c2 : (decide (x ≤ 0) || items.isEmpty) = true) :
    Meets (Builtin.«tuple.__mul__» ⟨[.ref l, .int x u], []⟩) (fun _ R s => s.heap.get? l = some { cls := .type "tuple", dict := dd, data := .seq items n, slots := sl } ∧
      R (.ok (.ret (Value.ref s.heap.objs.size))) { s with heap := s.heap.push { cls := Value.type "tuple", data := Data.seq #[] }, toks := s.toks }) :=
  .of_wp fun prog w A R s h => by
    obtain ⟨hp, g, d, tk, os⟩ := s
    obtain ⟨hl, h⟩ := h
    have f1 := AutoSeq1.idx_int
    wp_walk using wpAny_loadPart' hl
    repeat (first
      | (refine wpAny_ite_false (decide_eq_false (by rw [c0]; exact Bool.false_ne_true)) ?_; wp_walk using wpAny_loadPart' hl)
      | (refine wpAny_ite_false (decide_eq_false (by rw [c1]; exact Bool.false_ne_true)) ?_; wp_walk using wpAny_loadPart' hl)
      | (refine wpAny_ite_true (decide_eq_true c2) ?_; wp_walk using wpAny_loadPart' hl))
    exact ⟨_, rfl, h⟩
def rRepA (K : PySem.W.Frag) : R2 := fun x y H Q => ∃ l k xs, x = .ref l ∧ y = .int k ∧ SqT K H l xs ∧ xs ≠ [] ∧ 0 ≤ k ∧ k ≤ 1000 ∧ xs.length ≤ 1000 ∧ (k = 1 → Q (.ref l) H) ∧ (k ≠ 1 → ∀ p, H p = none → Q (.ref p) (upd H p (.tup (List.replicate k.toNat xs).flatten)))
section
variable {X : Cx}
theorem op_repA : OpR X (binaryOp .Mult) (rRepA X.K) := by
  intro pins s σ H x y v u Q I rx ry h
  obtain ⟨l, k, xs, rfl, rfl, hT, hne, h1, h2, hz, q1, q2⟩ := h
  by_cases k2 : 2 ≤ k
  · exact op_repT pins s σ H _ _ v u Q I rx ry ⟨l, k, xs, rfl, rfl, hT, hne, k2, h2, hz, q2 (by omega)⟩
  cases rx
  obtain ⟨t, rfl⟩ := ry
  obtain ⟨its, r, ⟨⟨cls, dd, data, sl⟩, ho, hc, n, hd⟩, hs⟩ := I.tuple hT
  simp only at hc hd
  subst hc hd
  have hle : its.length = xs.length := r.length.symm
  have hi : its.toArray.isEmpty = false := by
    cases its with
    | nil => exact absurd (List.eq_nil_of_length_eq_zero hle.symm) hne
    | cons a b => rfl
  have c0 : (decide (k < -(2 ^ 63)) || decide (k ≥ 2 ^ 63)) = false := by
    rw [decide_eq_false (by omega), decide_eq_false (by omega)] <;> rfl
  rcases (show k = 1 ∨ k = 0 by omega) with rfl | rfl
  · have c1 : (its.toArray.isEmpty || (1 : Int) == 1) = true := by
      rw [hi]
      rfl
    exact wpAny_binaryOp_repeat_ref (T := "tuple") (U := "int") (by decide) ⟨_, ho, rfl⟩ (fun s' => typeIs_int s' 1 t) noFill_tuple_mul F.fills_int_mul F.slot_int_rmul repeat_tuple F.slot_int_index.lookup
      (call_meets F.slot_int_rmul (typeIs_int s 1 t) F.entry_int_rmul (F.args_int_rmul_2 _ _) (int_rmul_tuple 1 t l its.toArray n dd sl)
        ⟨ho, rfl, ⟨_, ho, rfl⟩, call_meets F.slot_tuple_mul ⟨_, ho, rfl⟩ F.entry_tuple_mul (F.args_tuple_mul_2 _ _) (tmul_self l its.toArray n dd sl 1 t c0 c1) ⟨ho, .ref l, H, I, rfl, q1 rfl⟩⟩)
  · have c1 : (its.toArray.isEmpty || (0 : Int) == 1) = false := by
      rw [hi]
      rfl
    have c2 : (decide ((0 : Int) ≤ 0) || its.toArray.isEmpty) = true := rfl
    refine wpAny_binaryOp_repeat_ref (T := "tuple") (U := "int") (by decide) ⟨_, ho, rfl⟩ (fun s' => typeIs_int s' 0 t) noFill_tuple_mul F.fills_int_mul F.slot_int_rmul repeat_tuple F.slot_int_index.lookup
      (call_meets F.slot_int_rmul (typeIs_int s 0 t) F.entry_int_rmul (F.args_int_rmul_2 _ _) (int_rmul_tuple 0 t l its.toArray n dd sl)
        ⟨ho, rfl, ⟨_, ho, rfl⟩, call_meets F.slot_tuple_mul ⟨_, ho, rfl⟩ F.entry_tuple_mul (F.args_tuple_mul_2 _ _) (tmul_none l its.toArray n dd sl 0 t c0 c1 c2) ⟨ho, ?_⟩⟩)
    refine ⟨.ref s.heap.objs.size, _, I.laid (t' := s.toks) (o := .tup (List.replicate (0 : Int).toNat xs).flatten) (fun b ob q => Heap.get?_push_of_some _ q) (Nat.le_refl _) ?_, rfl, q2 (by decide) _ (I.hok.fresh (Nat.le_refl _))⟩
    exact ⟨Nat.zero_le _, [], .nil, IsTup.new _ _⟩
end
end L2
-- part TMinI
set_option maxHeartbeats 4000000
/-! min of a dict with number keys. -/
namespace L2
open PySem PySem.Spec PyProof.Rows
/-- min(d): one of its keys (which one: not told) -/
def rMinDI : List V → Hp → VK → Prop := fun xs H Q => ∃ (a : Addr) (kvs : List (Key × V)) (ss : List Int), xs = [.ref a] ∧ H a = some (.dK kvs) ∧ kvs.map (·.1) = ss.map Sum.inl ∧ ss ≠ [] ∧ ∀ m, m ∈ ss → Q (.int m) H
theorem call_minDI {X : Cx} (hc : X.calm = true) : CallR X (.builtin "min") rMinDI := by
  rintro pins s σ H xs us Q I r ⟨a, kvs, ss, rfl, ha, hk, hne, q⟩
  obtain ⟨u, rfl, rx⟩ := vals1 r
  cases rx
  obtain ⟨_, hsys, vs, rel, dof⟩ := dk_of I.hok ha
  obtain ⟨ep, dat⟩ := dof.dictAt
  have hl : vs.length = ss.length := by
    have e := congrArg List.length hk
    rw [List.length_map, List.length_map] at e
    rw [← e]
    exact (KV.length rel).symm
  have pos : 0 < vs.length := by
    rw [hl]
    exact List.length_pos_iff.mpr hne
  have key : ∀ (i : Nat) (v : Value), (∃ k x, vs[i]? = some (k, x) ∧ (mixKind X.prog X.w).is k v = true) → ∃ m t, ss[i]? = some m ∧ v = .int m t := by
    rintro i v ⟨k, x, hi, hv⟩
    obtain ⟨y, h1, h2⟩ := KV.at' rel hi
    have e1 : (kvs.map (·.1))[i]? = some k := by rw [List.getElem?_map, h1] <;> rfl
    rw [hk, List.getElem?_map] at e1
    obtain ⟨m, hm, e2⟩ := Option.map_eq_some_iff.mp e1
    subst e2
    have hv : keyIs (Sum.inl m) v = true := hv
    rcases keyIs_shape hv with ⟨m2, t, z, hvt⟩ | ⟨_, _, z, _⟩
    · cases z
      exact ⟨m, t, hm, hvt⟩
    · cases z
  have low : ∃ o, s.heap.get? a = some o := by
    obtain ⟨o, _, ho, _⟩ := dat
    exact ⟨o, ho⟩
  obtain ⟨o, ho⟩ := low
  have hlt : a < s.heap.objs.size := Heap.lt_size ho
  refine call_min_walk (wpAny_pyIter_dict (knd := mixKind X.prog X.w) hsys dat ?_)
  refine ⟨_, _, _, _, _, _, fun i j => decide ((ss[i]?).getD 0 < (ss[j]?).getD 0), rfl, Walks.dictKeys (knd := mixKind X.prog X.w) (A := X.A.in1) (I.ok.hd hc) s.heap.objs.size a (Nat.ne_of_lt hlt) vs ep,
    ⟨⟨_, Heap.get?_push_size _ rfl, rfl, rfl⟩, dat.keep fun b u e => Heap.get?_push_of_some _ e⟩, fun b hb => ?_, pos, ?_, fun v h' tk hP hkp => ?_⟩
  · show b < (s.heap.push _).objs.size
    rw [Heap.size_push]
    rcases List.mem_cons.mp hb with z | z
    · rw [z]; exact Nat.lt_succ_self _
    · rw [List.mem_singleton.mp z]; exact Nat.lt_succ_of_lt hlt
  · intro i j vi vj s2 Q2 E2 hi hj h
    obtain ⟨x, t, hx, rfl⟩ := key i vi hi
    obtain ⟨y, u, hy, rfl⟩ := key j vj hj
    have z : Q2 (.bool (decide ((ss[i]?).getD 0 < (ss[j]?).getD 0))) s2 := h
    rw [hx, hy] at z
    exact lt_int z
  · obtain ⟨m, t, hm, rfl⟩ := key _ _ hP
    refine ⟨.int m, H, I.kept (t' := tk) fun b u e => hkp b u ?_ (Heap.get?_push_of_some _ e), ⟨t, rfl⟩, q m (List.mem_of_getElem? hm)⟩
    intro hb
    have z := List.mem_singleton.mp hb
    rw [z] at e
    exact Nat.lt_irrefl _ (Heap.lt_size e)
end L2
-- part Ru
set_option maxHeartbeats 4000000
/-! Rules: zip of two tuples as a walk; tuples as data compared by < ; sorted of a list of tuples as data, and of a dict whose keys are tuples. -/
namespace L2
open PySem PySem.Spec PyProof.Rows PySem.W
section
variable {P : Program} {w : World} {K : PySem.W.Frag} {mg : Str → Option Value} {base : Heap} {CX : CXT} {k : Nat} {f : Addr} {fd : FuncData} {ps : List Str} {sp1 sp2 : Sp}
def spOr (a b : Sp) : Sp := fun vs H Q E => a vs H Q E ∨ b vs H Q E
theorem fn_or (F1 : FnOk P w K mg base CX k f fd ps sp1) (F2 : FnOk P w K mg base CX k f fd ps sp2) : FnOk P w K mg base CX k f fd ps (spOr sp1 sp2) := by
  refine ⟨fun vs H Q E h => ?_, fun A outer s H args us vs Q E hr e0 hb hv h => ?_⟩
  · rcases h with h | h
    · exact F1.len vs H Q E h
    · exact F2.len vs H Q E h
  · rcases h with h | h
    · exact F1.run A outer s H args us vs Q E hr e0 hb hv h
    · exact F2.run A outer s H args us vs Q E hr e0 hb hv h
end
section
variable {K : PySem.W.Frag} {a b : Addr} {xs ys : List V}
theorem walk_zipT {n : Nat} (hn : n = min xs.length ys.length) : Walk (RZ.ItzT K a b) n (fun H => SqT K H a xs ∧ SqT K H b ys) (YPair (fun i => xs[i]?) (fun i => ys[i]?)) := by
  subst hn
  constructor
  · intro i H hi q
    have l1 : i < xs.length := by omega
    have l2 : i < ys.length := by omega
    exact ⟨xs, ys, xs[i], ys[i], q.1, q.2, List.getElem?_eq_getElem l1, List.getElem?_eq_getElem l2⟩
  · intro H q
    exact ⟨xs, ys, q.1, q.2, by omega⟩
  · intro i H v H' _ q y
    obtain ⟨T, x, z, e1, e2, e3, e4, e5⟩ := y
    exact ⟨T, x, z, e1, e2, e3, e4 xs q.1, e5 ys q.2⟩
end
/-- x < y, both data of one make -/
def rLtDp (K : PySem.W.Frag) : R2 := fun x y H Q => ∃ d e, Dp K H x d ∧ Dp K H y e ∧ alike d e = true ∧ d ≠ .none ∧ d.depth ≤ 8 ∧ Q (.bl (dataLt d e)) H
theorem op_ltDp {X : Cx} (hu : X.A.units + 64 < cLine) : OpR X (compareOp .Lt) (rLtDp X.K) := by
  intro pins s σ H x y v u Q I rx ry h
  obtain ⟨d, e, hd, he, al, nn, dp, q⟩ := h
  obtain ⟨as, r1⟩ := Dp.reads I d x v hd rx
  obtain ⟨bs, r2⟩ := Dp.reads I e y u he ry
  have z : wpAny (model X.prog X.w) X.A (compareOp .Lt v u) (EP X pins σ Q) X.xe s :=
    rcLt_alike d e X.A s v u as bs r1 r2 al nn (Nat.lt_of_le_of_lt (Nat.add_le_add_left (Nat.le_trans (Nat.min_le_left _ _) (Nat.le_trans dp (by decide))) _) hu) X.prog X.w X.xe _ ⟨.bl _, H, I, rfl, q⟩
  exact z
/-- values and what they stand for, in one order -/
theorem each_vals {D : Type} : ∀ {bs : List (V × D)} {us : List Value}, Vals (bs.map (·.1)) us → EachIs (fun u b => RelV b.1 u) us bs
  | [], us, r => by
    cases r
    exact .nil
  | b :: bs, us, r => by
    cases r with
    | cons h t => exact .cons h (each_vals t)
theorem vals_each {D : Type} : ∀ {bs : List (V × D)} {us : List Value}, EachIs (fun u b => RelV b.1 u) us bs → Vals (bs.map (·.1)) us
  | _, _, .nil => .nil
  | _, _, .cons h t => .cons h (vals_each t)
theorem each_reads {X : Cx} {pins : List (Addr × Obj)} {σ : St} {H : Hp} {s : Shared} (I : Inv X pins σ H s) : ∀ {bs : List (V × PyData)} {us : List Value}, Vals (bs.map (·.1)) us → DpAll X.K H (bs.map (·.1)) (bs.map (·.2)) → EachIs (fun u b => ∃ as, Reads s.heap u (Prod.snd b) as) us bs
  | [], us, r, _ => by
    cases r
    exact .nil
  | b :: bs, us, r, h => by
    cases r with
    | cons r1 r2 =>
      cases h with
      | cons h1 h2 => exact .cons (Dp.reads I _ _ _ h1 r1) (each_reads I r2 h2)
/-- sorted of a list whose items are data of one make -/
def rSortDp (K : PySem.W.Frag) : List V → Hp → VK → Prop := fun vs H Q => ∃ (a : Addr) (bs : List (V × PyData)), vs = [.ref a] ∧ SqL K H a (bs.map (·.1)) ∧ DpAll K H (bs.map (·.1)) (bs.map (·.2)) ∧ AllAlike (bs.map (·.2)) ∧ Sortable (bs.map (·.2)) ∧
  (∀ b ∈ bs, b.2.depth ≤ 8) ∧ ∀ p, H p = none → Q (.ref p) (upd H p (.lst ((bs.mergeSort (dataLe false (·.2))).map (·.1))))
theorem cr_sortDp {X : Cx} (hu : X.A.units + 64 < cLine) : CallR X (.builtin "sorted") (rSortDp X.K) := by
  intro pins s σ H vs us Q I r h
  obtain ⟨a, bs, rfl, hs, hd, al, so, dp, q⟩ := h
  rw [Vals.ref1 r]
  obtain ⟨its, rv, hl, hz⟩ := I.list hs
  have len : its.length = bs.length := by rw [← rv.length, List.length_map]
  have hz2 : bs.length ≤ sizeLine := by rw [List.length_map] at hz; exact hz
  refine PySem.W.sorted_data (R := fun u b => RelV b.1 u) (enc := (·.2)) hl.isList (each_vals rv) (each_reads I rv hd) al so hz2 (fun b hb => ?_) fun out e1 e2 => ?_
  · have := dp b hb
    omega
  · have r2 := vals_each e2
    refine ⟨.ref _, _, I.laid (t' := s.toks) (o := .lst ((bs.mergeSort (dataLe false (·.2))).map (·.1))) (fun b o e => sortedAll_old e) (Nat.le_succ _) ?_, rfl, q _ (I.hok.fresh (Nat.le_succ _))⟩
    obtain ⟨n, hn⟩ := sortedAll_at s.heap its out.toArray
    exact ⟨by rw [List.length_map, List.length_mergeSort]; exact hz2, out, n, r2, hn⟩
theorem each_back {α β γ : Type} {R : α → γ → Prop} {f : β → γ} : ∀ {us : List α} {bs : List β}, EachIs R us (bs.map f) → EachIs (fun u b => R u (f b)) us bs
  | _, [], h => by
    cases h
    exact .nil
  | _, b :: bs, h => by
    cases h with
    | cons h t => exact .cons h (each_back t)
theorem each_forth {α β γ : Type} {R : α → γ → Prop} {f : β → γ} : ∀ {us : List α} {bs : List β}, EachIs (fun u b => R u (f b)) us bs → EachIs R us (bs.map f)
  | _, _, .nil => .nil
  | _, _, .cons h t => .cons h (each_forth t)
/-! ### a dict whose keys are tuples -/
def keyD : Key → PyData
  | .inl i => .int i
  | .inr x => .str x
abbrev keyT (k : List Key) : PyData := .tuple (k.map keyD)
theorem dp_key {K : PySem.W.Frag} {H : Hp} : ∀ k : Key, Dp K H (kV k) (keyD k)
  | .inl i => .int i
  | .inr x => .str x
theorem dp_keys {K : PySem.W.Frag} {H : Hp} : ∀ ks : List Key, DpAll K H (ks.map kV) (ks.map keyD)
  | [] => .nil
  | k :: ks => .cons (dp_key k) (dp_keys ks)
theorem depth_keys : ∀ ks : List Key, PyData.depthAll (ks.map keyD) = 0
  | [] => rfl
  | k :: ks => by
    have e : PyData.depthAll ((k :: ks).map keyD) = max (keyD k).depth (PyData.depthAll (ks.map keyD)) := rfl
    rw [e, depth_keys ks]
    cases k <;> rfl
theorem paired_zip {H : Hp} : ∀ {kvs : List (List Key × V)} {as : List Addr}, IsKeys H kvs as → ((kvs.map (·.1)).zip as).map (·.1) = kvs.map (·.1) ∧ ((kvs.map (·.1)).zip as).map (·.2) = as ∧ ∀ b ∈ (kvs.map (·.1)).zip as, H b.2 = some (.tup (b.1.map kV))
  | _, _, .nil => ⟨rfl, rfl, fun b hb => by cases hb⟩
  | _, _, .cons h t => by
    obtain ⟨e1, e2, e3⟩ := paired_zip t
    refine ⟨congrArg (_ :: ·) e1, congrArg (_ :: ·) e2, fun b hb => ?_⟩
    rcases List.mem_cons.mp hb with e | e
    · rw [e]; exact h
    · exact e3 b e
/-- sorted of such a dict: its keys' own tuples, in a new list -/
def rSortDT : List V → Hp → VK → Prop := fun vs H Q => ∃ (d : Addr) (kvs : List (List Key × V)), vs = [.ref d] ∧ Rd H d (.dT kvs) ∧ AllAlike (kvs.map fun p => keyT p.1) ∧ (∀ p ∈ kvs, p.1 ≠ []) ∧
  ∀ (bs : List (List Key × Addr)) (p : Addr), bs.map (·.1) = kvs.map (·.1) → (∀ b ∈ bs, H b.2 = some (.tup (b.1.map kV))) → H p = none → Q (.ref p) (upd H p (.lst ((bs.mergeSort (dataLe false fun b => keyT b.1)).map fun b => .ref b.2)))
theorem cr_sortDT {X : Cx} (hc : X.calm = true) (hu : X.A.units + 64 < cLine) : CallR X (.builtin "sorted") rSortDT := by
  intro pins s σ H vs us Q I r h
  obtain ⟨d, kvs, rfl, hd, al, ne, q⟩ := h
  rw [Vals.ref1 r]
  obtain ⟨z, hs, ks, pr, o, es, ep, ho, hx, hdt, he, hn⟩ := (show ObjOk X.prog X.w H s.heap d (.dT kvs) from hd.ok I.hok)
  have l1 : es.size = ks.length := size_of_entries he
  have l2 : kvs.length = ks.length := Paired.length pr
  have hk0 : IsKeys H kvs (ks.map fun x => x.2.1) := isKeys_of pr
  obtain ⟨z1, z2, z3⟩ := paired_zip hk0
  generalize hbs : (kvs.map (·.1)).zip (ks.map fun x => x.2.1) = bs at z1 z2 z3
  have lb : bs.length = ks.length := by
    have := congrArg List.length z2
    rw [List.length_map, List.length_map] at this
    exact this
  refine Calls.call_function_entry kind_sorted plain_sorted entry_sorted (args_sorted1 _) ?_
  unfold Builtin.«sorted»
  refine wpAny_bind (m := checkCount "sorted" 1 1 _) (wpAny_pure ?_)
  refine wpAny_bind (kdu_collect (A := X.A.in1) (kdl_raw hs hx hdt) (I.ok.hd hc) ho (by omega) fun h' tk acc kp it => ?_)
  have ea : acc.toList = (bs.map (·.2)).map Value.ref := by
    rw [z2]
    have hl : acc.toList.length = ks.length := by rw [Array.length_toList, it.1]; exact l1
    apply List.ext_getElem?
    intro j
    rw [List.map_map, List.getElem?_map]
    cases hj : acc.toList[j]? with
    | none =>
      have y := List.getElem?_eq_none_iff.mp hj
      rw [List.getElem?_eq_none (by omega)]
      rfl
    | some v =>
      obtain ⟨en, hen, hv⟩ := it.2 j v (by rw [← Array.getElem?_toList]; exact hj)
      have qe := entry_at he j
      rw [hen] at qe
      cases hb : ks[j]? with
      | none =>
        rw [hb] at qe
        cases qe
      | some k =>
        rw [hb] at qe
        have e2 := Option.some.inj qe
        rw [hv, e2]
        rfl
  have I1 : Inv X pins σ H { s with heap := h', toks := tk } := I.kept kp
  have rv : Vals ((bs.map fun b => (V.ref b.2, b.1)).map (·.1)) acc.toList := by
    rw [ea, List.map_map]
    have e : bs.map (Prod.fst ∘ fun b : List Key × Addr => (V.ref b.2, b.1)) = (bs.map (·.2)).map V.ref := by rw [List.map_map]; rfl
    rw [e]
    exact vals_refs _
  have hal : acc.toList.length ≤ sizeLine := by rw [ea, List.length_map, List.length_map]; omega
  refine wpAny_bind (wpAny_newList ?_ hal)
  have hoL : (h'.push (seqObj "list" acc.toList.toArray 0)).get? h'.objs.size = some (seqObj "list" acc.toList.toArray 0) := Heap.get?_push_size _ rfl
  show wpAny _ _ _ _ _ { s with heap := h'.push (seqObj "list" acc.toList.toArray 0), toks := tk }
  apply wpAny_bind
  apply wpAny_holding
  have old : ∀ b o, h'.get? b = some o → b ≠ h'.objs.size := fun b o e => Nat.ne_of_lt (Heap.lt_size e)
  have kp2 : ∀ b o, h'.get? b = some o → (sortingHeap (h'.push (seqObj "list" acc.toList.toArray 0)) h'.objs.size acc.toList).get? b = some o := fun b o e => sortingHeap_old (old b o e) (Heap.get?_push_of_some _ e)
  have dpA : ∀ l : List (List Key × Addr), (∀ b ∈ l, H b.2 = some (.tup (b.1.map kV))) → DpAll X.K H ((l.map fun b => (V.ref b.2, keyT b.1)).map (·.1)) ((l.map fun b => (V.ref b.2, keyT b.1)).map (·.2)) := fun l => by
    induction l with
    | nil => exact fun _ => .nil
    | cons b l ih => exact fun hl => .cons (.tup (.inl (.inl (hl b (List.mem_cons_self ..)))) (dp_keys _)) (ih fun c hc => hl c (List.mem_cons_of_mem _ hc))
  have rv2 : Vals ((bs.map fun b => (V.ref b.2, keyT b.1)).map (·.1)) acc.toList := by
    rw [List.map_map] at rv ⊢
    exact rv
  have rd0 := each_reads I1 rv2 (dpA bs z3)
  have rd1 : EachIs (fun u (b : List Key × Addr) => ∃ as, Reads (sortingHeap (h'.push (seqObj "list" acc.toList.toArray 0)) h'.objs.size acc.toList) u (keyT b.1) as) acc.toList bs :=
    (each_back (R := fun u (b : V × PyData) => ∃ as, Reads h' u b.2 as) (f := fun b : List Key × Addr => (V.ref b.2, keyT b.1)) rd0).mono fun u b ⟨as, r⟩ => ⟨as, PyProof.Rows.Reads.keeps kp2 r⟩
  have ev : EachIs (fun u (b : List Key × Addr) => RelV (V.ref b.2) u) acc.toList bs := each_back (f := fun b : List Key × Addr => (V.ref b.2, keyT b.1)) (each_vals rv2)
  have em : bs.map (fun b => keyT b.1) = kvs.map fun p => keyT p.1 := by
    have e1 : bs.map (fun b => keyT b.1) = (bs.map (·.1)).map fun k => keyT k := by rw [List.map_map]; rfl
    rw [e1, z1, List.map_map]
    rfl
  have al2 : AllAlike (bs.map fun b => keyT b.1) := by rw [em]; exact al
  have so2 : Sortable (bs.map fun b => keyT b.1) := .inl fun d hd => by
    rw [em] at hd
    obtain ⟨p, hp, e⟩ := List.mem_map.mp hd
    cases hq : p.1 with
    | nil => exact absurd hq (ne p hp)
    | cons k ks =>
      rw [← e, hq]
      exact ⟨_, _, rfl⟩
  refine wpAny_call_entry slot_list_sort ⟨_, hoL, rfl⟩ entry_list_sort (list_sort_vals (κ := dataKind (sortingHeap (h'.push (seqObj "list" acc.toList.toArray 0)) h'.objs.size acc.toList) (bs.map fun b => keyT b.1)) hoL
    (SortsAt.data (s := { s with heap := sortingHeap (h'.push (seqObj "list" acc.toList.toArray 0)) h'.objs.size acc.toList, toks := tk }) (each_map (R := fun v d => ∃ as, Reads (sortingHeap (h'.push (seqObj "list" acc.toList.toArray 0)) h'.objs.size acc.toList) v d as) (fun b : List Key × Addr => keyT b.1) rd1) al2 so2 (bound_map fun b _ => ?_)) hal ⟨.none, rfl, ?_⟩) (args_list_sort _)
  · have e : (keyT b.1).depth = 1 := by
      show PyData.depthAll (b.1.map keyD) + 1 = 1
      rw [depth_keys]
    rw [e]
    show X.A.in1.in1.units + 1 < cLine
    have y : X.A.in1.in1.units = X.A.units + 2 := rfl
    omega
  · have out := sortVals_data (R := fun u (b : List Key × Addr) => RelV (V.ref b.2) u) (enc := fun b => keyT b.1) false ev rd1 al2
    have r2 : Vals ((bs.mergeSort (dataLe false fun b => keyT b.1)).map fun b => V.ref b.2) (sortVals (dataKind (sortingHeap (h'.push (seqObj "list" acc.toList.toArray 0)) h'.objs.size acc.toList) (bs.map fun b => keyT b.1)) false acc.toList acc.toList) := by
      have y := vals_each (bs := (bs.mergeSort (dataLe false fun b => keyT b.1)).map fun b => (V.ref b.2, b.1)) (each_forth (f := fun b : List Key × Addr => (V.ref b.2, b.1)) out)
      rw [List.map_map] at y
      exact y
    obtain ⟨n, hn2⟩ := sortedHeap_at (vs := acc.toList) (out := (sortVals (dataKind (sortingHeap (h'.push (seqObj "list" acc.toList.toArray 0)) h'.objs.size acc.toList) (bs.map fun b => keyT b.1)) false acc.toList acc.toList).toArray) hoL
    refine wpAny_pure ⟨_, rfl, .ref h'.objs.size, upd H h'.objs.size (.lst ((bs.mergeSort (dataLe false fun b => keyT b.1)).map fun b => .ref b.2)), I1.laid (t' := tk) (fun b o e => ?_) (Nat.le_refl _) ⟨?_, _, n, r2, hn2⟩, rfl, q bs _ z1 z3 (I1.hok.fresh (Nat.le_refl _))⟩
    · rw [sortedHeap_old (old b o e) (by rw [size_push']; exact Nat.lt_succ_of_lt (Heap.lt_size e))]
      exact Heap.get?_push_of_some _ e
    · rw [List.length_map, List.length_mergeSort]
      omega
/-! ### a dict comprehension that is given to a name -/
section
variable {X : Cx}
theorem ps_setDc {i : Nat} {y : Str} {py : Pos} {kx vx tg iter : Expr} {ifs : List Expr} {scope : Scope} {own : List (Str × Nat)} {pos spos : Pos} {wi : TI} {g : TG} {tt : TT} {tk tv : TE} (hc : X.calm = true) (hN : X.N.Nodup) (hy : X.N[i]? = some y) (hyl : X.env.scope.names.lookup y = some .local)
    (hsw : swapsWith (.DictComp kx vx [⟨tg, iter, ifs, 0⟩] scope pos) (some (.Name y py)) spos.line X.env = pure true) (hi : PI X tg iter wi) (ok : BlkOk X.N X.env.scope scope own)
    (hg : ∀ (s : Shared) (H : Hp) (C : Addr) (cl : List (Str × Addr)) (fp : List Addr), PG (X.blk s H scope (compEnvC scope cl C X.env) fp) tg g) (ht : ∀ (s : Shared) (H : Hp) (C : Addr) (cl : List (Str × Addr)) (fp : List Addr), PTs (X.blk s H scope (compEnvC scope cl C X.env) fp) ifs tt)
    (hk : ∀ (s : Shared) (H : Hp) (C : Addr) (cl : List (Str × Addr)) (fp : List Addr), PE (X.blk s H scope (compEnvC scope cl C X.env) fp) kx tk)
    (he : ∀ (s : Shared) (H : Hp) (C : Addr) (cl : List (Str × Addr)) (fp : List Addr), PE (X.blk s H scope (compEnvC scope cl C X.env) fp) vx tv) (hs : ∀ x, foldedSetIterable iter X.env x = pure x := by intro _; rfl) :
    PS X (.Assign [.Name y py] (.DictComp kx vx [⟨tg, iter, ifs, 0⟩] scope pos) spos) (tAsg (tDc wi g tt tk tv (own.map (·.2))) (gName i)) := by
  refine ⟨fun pins s σ H D I h => ?_⟩
  rw [exec_Assign_Name_used _ _ _ _ hsw]
  refine wpAny_bind (wpAny_standAt (wpAny_bind ?_))
  show wpAny _ X.A (do let _ ← comprehension (.DictComp kx vx [⟨tg, iter, ifs, 0⟩] scope pos) scope X.env (firstIterPos [⟨tg, iter, ifs, 0⟩] pos) newDict false (eval iter X.env) (some (assign (.Name y py) X.env))) _ _ s
  have h2 : tDc wi g tt tk tv (own.map (·.2)) σ H (fun x H1 => gName i x σ H1 D.nx) := h
  refine wpAny_bind (thn (dc_core (Qf := fun _ s' => SP X pins D .next s') hc hN I hi ok hg ht hk he hs h2 fun L C s' m H' I' q hn f => ?_) fun _ s' hq => wpAny_pure (wpAny_pure hq))
  show wpAny _ _ (assign (.Name y py) X.env (.ref L)) _ _ _
  obtain ⟨f0, f1, f2, f3, f4, f5⟩ := f
  refine wpAny_assign_Name (store_ok2 (v := V.ref L) I' hN hy (.inl hyl) rfl (fun s2 I2 ⟨a, sb, ha⟩ => ?_) (.inr hyl))
  have ne : C ≠ a := fun e => by
    rcases ha with z | z
    · exact f1 (e.trans z)
    · exact f4 y a z e.symm
  exact ⟨m, hn.sameBut sb ne, fun h3 sb3 => ⟨_, H', I2.turned (t' := s2.toks) (fun b o hb e => (sb3.2 b hb).trans e) f0 f1 f3 f4 f5, q⟩⟩
theorem sw_trueD {kx vx : Expr} {gs : List Comprehension} {scope : Scope} {pos py : Pos} {y : Str} {l : Nat} {env : Env} (hk : env.scope.kind = .function) (hy : env.scope.names.lookup y = some .local) (hl : (py.line == pos.line) = true)
    (ha : (scope.names.any fun (n, k) => n == y && (k == .local || k == .cell)) = false) : swapsWith (.DictComp kx vx gs scope pos) (some (.Name y py)) l env = pure true := by
  have k1 : env.kindOf y = some .local := hy
  have k2 : env.blockKind = .function := by
    unfold Env.blockKind
    rw [hk]
    rfl
  unfold swapsWith
  simp only [k2, k1, ha, Expr.pos, hl]
  rfl
end
end L2
-- part TArith
set_option maxHeartbeats 4000000
/-! raised, plus_times. -/
namespace Kn
open PySem PySem.Spec PyProof.Rows L2
abbrev sRaised : Stmt := topS 25
abbrev NRa : List Str := ["number", "power", "out", "_"]
theorem scRa : FnScope NRa ["number", "power"] (defScope sRaised) := ⟨rfl, rfl, rfl, by decide +kernel, rfl, by decide +kernel, by decide +kernel⟩
/-- numbers in a tuple -/
def Row (H : Hp) (v : V) (ns : List Int) : Prop := ∃ a, v = .ref a ∧ Rd H a (.tup (ns.map V.int)) ∧ ns.length ≤ 45
theorem Row.same {H H' : Hp} {v : V} {ns : List Int} (h : Row H v ns) (s : Same H H') : Row H' v ns := by
  obtain ⟨a, e, r, n⟩ := h
  exact ⟨a, e, Rd.same r s, n⟩
/-- row + number * other -/
def plusL (rs : List Int) (n : Int) (os : List Int) : List Int := (rs.zip os).map fun p => p.1 + n * p.2
theorem plusL_len {rs os : List Int} {n : Int} (h : rs.length = os.length) : (plusL rs n os).length = rs.length := by
  unfold plusL
  rw [List.length_map, List.length_zip, ← h, Nat.min_self]
def rTupA (K : PySem.W.Frag) : List V → Hp → VK → Prop := fun xs H Q => ∃ p ys, xs = [.ref p] ∧ ((SqL K H p ys ∧ ∀ l, H l = none → Q (.ref l) (upd H l (.tup ys))) ∨ (SqT K H p ys ∧ Q (.ref p) H))
def spRaised : Sp := fun vs H Q _ => ∃ (n : Int) (p : Nat), vs = [.int n, .int p] ∧ -(2 ^ 64) < n ∧ n < 2 ^ 64 ∧ p ≤ 100 ∧ Q (.int (n ^ p)) H
section
variable {P : Program} {w : World} {K : PySem.W.Frag} {mg : Str → Option Value} {base : Heap}
theorem ok_raised {f : Addr} {fd : FuncData} (F : Fun K "raised" "raised" sRaised f fd) (mr : mg "range" = none) : FnOk P w K mg base CX0 1 f fd ["number", "power"] spRaised := by
  have S := scRa
  refine F.ok S (fun vs H Q E h => ?_) (fun cdv A outer s H vs Q E hr h => ?_)
  · obtain ⟨n, p, rfl, _⟩ := h
    rfl
  · obtain ⟨n, p, rfl, n1, n2, hp, q⟩ := h
    refine ⟨_, (pss_cons (ps_set (i := 2) S.nd rfl (.inl rfl) pe_int)
      (pss_cons (ps_for PassesOwn.never rfl (pi_range1 (by rfl) mr (pa_cons (pv 1) pa_nil)) (pg_name (i := 3) S.nd rfl (.inl rfl))
        (pss_one (ps_set (i := 2) S.nd rfl (.inl rfl) (pe_op op_mul (pv 2) (pv 0)))))
      (pss_one (ps_ret (pv 2))))), ?_⟩
    refine ⟨_, rfl, p, rfl, by omega, by omega, for_range (fun i σ H1 => ∃ y, σ = [some (.int n), some (.int p), some (.int (n ^ i)), y] ∧ H1 = H) ⟨none, by rw [Int.pow_zero]; rfl, rfl⟩ ?_ ?_⟩
    · rintro i σ H1 hi ⟨y, rfl, rfl⟩
      exact ⟨_, rfl, _, rfl, _, _, rfl, rfl, .inr ⟨n1, n2⟩, _, by rw [Int.pow_succ]; rfl, rfl⟩
    · rintro σ H1 ⟨y, rfl, rfl⟩
      rw [Int.toNat_natCast]
      exact ⟨_, rfl, q⟩
end
end Kn
-- part TAll
set_option maxHeartbeats 4000000
/-! all_checks. -/
namespace Kn
open PySem PySem.Spec PyProof.Rows L2
abbrev Tps : Type := List (Int × List Int)
/-- seats and their rows, in order -/
inductive KvI (H : Hp) : List (Key × V) → Tps → Prop
  | nil : KvI H [] []
  | cons {i : Int} {v : V} {ns : List Int} {ks : List (Key × V)} {l : Tps} (r : Row H v ns) (t : KvI H ks l) : KvI H ((.inl i, v) :: ks) ((i, ns) :: l)
theorem KvI.same {H H' : Hp} (s : Same H H') {ks : List (Key × V)} {l : Tps} (h : KvI H ks l) : KvI H' ks l := by
  induction h with
  | nil => exact .nil
  | cons r _ ih => exact .cons (r.same s) ih
theorem KvI.keys {H : Hp} {ks : List (Key × V)} {l : Tps} (h : KvI H ks l) : ks.map (·.1) = (l.map (·.1)).map Sum.inl := by
  induction h with
  | nil => rfl
  | cons r _ ih => rw [List.map_cons, List.map_cons, List.map_cons, ih]
theorem KvI.len {H : Hp} {ks : List (Key × V)} {l : Tps} (h : KvI H ks l) : ks.length = l.length := by
  induction h with
  | nil => rfl
  | cons r _ ih => rw [List.length_cons, List.length_cons, ih]
theorem KvI.at_ {H : Hp} : ∀ {ks : List (Key × V)} {l : Tps} {i : Nat} {k : Key} {v : V}, KvI H ks l → ks[i]? = some (k, v) → ∃ x ns, l[i]? = some (x, ns) ∧ k = .inl x ∧ Row H v ns
  | _, _, 0, _, _, .cons r _, e => by
    cases e
    exact ⟨_, _, rfl, rfl, r⟩
  | _, _, i + 1, _, _, .cons _ t, e => KvI.at_ (i := i) t (by simpa using e)
theorem KvI.there {H : Hp} : ∀ {ks : List (Key × V)} {l : Tps} {i : Nat} {x : Int} {ns : List Int}, KvI H ks l → l[i]? = some (x, ns) → ∃ v, ks[i]? = some (.inl x, v) ∧ Row H v ns
  | _, _, 0, _, _, .cons r _, e => by
    cases e
    exact ⟨_, rfl, r⟩
  | _, _, i + 1, _, _, .cons _ t, e => KvI.there (i := i) t (by simpa using e)
def TupD (H : Hp) (a : Addr) (l : Tps) : Prop := ∃ ks, H a = some (.dK ks) ∧ KvI H ks l
theorem TupD.same {H H' : Hp} {a : Addr} {l : Tps} (h : TupD H a l) (s : Same H H') : TupD H' a l := by
  obtain ⟨ks, e, r⟩ := h
  exact ⟨ks, s _ _ e, r.same s⟩
structure TOk (l : Tps) (wd : Nat) : Prop where
  n1 : 1 ≤ l.length
  n9 : l.length ≤ 9
  nd : (l.map (·.1)).Nodup
  st : ∀ p ∈ l, 1 ≤ p.1 ∧ p.1 ≤ 9
  ww : ∀ p ∈ l, p.2.length = wd
  w45 : wd ≤ 45
/-- a check: the sum of the rows, each times a power of its seat -/
def checkL (wd : Nat) (k : Nat) (l : Tps) : List Int := l.foldl (fun acc p => plusL acc (p.1 ^ k) p.2) (List.replicate wd 0)
theorem fold_len {wd k : Nat} : ∀ (l : Tps) (acc : List Int), acc.length = wd → (∀ p ∈ l, p.2.length = wd) → (l.foldl (fun acc p => plusL acc (p.1 ^ k) p.2) acc).length = wd
  | [], _, h, _ => h
  | p :: l, acc, h, hl => fold_len l _ (by rw [plusL_len (by rw [h, hl p (List.mem_cons_self ..)]), h]) fun q hq => hl q (List.mem_cons_of_mem _ hq)
theorem checkL_len {wd k : Nat} {l : Tps} (h : ∀ p ∈ l, p.2.length = wd) : (checkL wd k l).length = wd := fold_len l _ (List.length_replicate ..) h
/-- rows one by one -/
def RowsL (H : Hp) (vs : List V) (ls : List (List Int)) : Prop := vs.length = ls.length ∧ ∀ (i : Nat) (v : V), vs[i]? = some v → ∃ ns, ls[i]? = some ns ∧ Row H v ns
theorem RowsL.same {H H' : Hp} {vs : List V} {ls : List (List Int)} (h : RowsL H vs ls) (s : Same H H') : RowsL H' vs ls := ⟨h.1, fun i v e => by
  obtain ⟨ns, e1, r⟩ := h.2 i v e
  exact ⟨ns, e1, r.same s⟩⟩
theorem RowsL.snoc {H : Hp} {vs : List V} {ls : List (List Int)} {v : V} {ns : List Int} (h : RowsL H vs ls) (r : Row H v ns) : RowsL H (vs ++ [v]) (ls ++ [ns]) := by
  refine ⟨by rw [List.length_append, List.length_append, h.1]; rfl, fun i x e => ?_⟩
  rcases Nat.lt_trichotomy i vs.length with z | z | z
  · rw [List.getElem?_append_left z] at e
    obtain ⟨ms, e1, r1⟩ := h.2 i x e
    exact ⟨ms, by rw [List.getElem?_append_left (by rw [← h.1]; exact z)]; exact e1, r1⟩
  · subst z
    rw [List.getElem?_append_right (Nat.le_refl _), Nat.sub_self] at e
    cases e
    exact ⟨ns, by rw [h.1, List.getElem?_append_right (Nat.le_refl _), Nat.sub_self]; rfl, r⟩
  · rw [List.getElem?_eq_none (by rw [List.length_append]; show vs.length + 1 ≤ i; omega)] at e
    cases e
theorem Row.lock {H : Hp} {d : Addr} {od : Obj} {ks : List (Key × V)} {v : V} {ns : List Int} (hd : H d = some (.dK ks)) (h : Row H v ns) : Row (upd H d (.frz od (.dK ks))) v ns := by
  obtain ⟨a, e, r, n⟩ := h
  exact ⟨a, e, Rd.lock hd r, n⟩
theorem Row.unlock {H : Hp} {d : Addr} {od : Obj} {ks : List (Key × V)} {v : V} {ns : List Int} (hd : H d = some (.frz od (.dK ks))) (h : Row H v ns) : Row (upd H d (.dK ks)) v ns := by
  obtain ⟨a, e, r, n⟩ := h
  have ne : a ≠ d := fun z => by
    rcases r with r | ⟨o, r⟩ <;> (rw [z, hd] at r; cases r)
  refine ⟨a, e, ?_, n⟩
  rcases r with r | ⟨o, r⟩
  · exact .inl (by rw [upd_ne ne]; exact r)
  · exact .inr ⟨o, by rw [upd_ne ne]; exact r⟩
theorem valI_nodup {ks : List (Key × V)} (nd : (ks.map (·.1)).Nodup) {k : Key} {v : V} (h : (k, v) ∈ ks) : valV ks k = some v := by
  induction ks with
  | nil => cases h
  | cons p r ih =>
    obtain ⟨k0, v0⟩ := p
    rw [List.map_cons, List.nodup_cons] at nd
    unfold valV
    rw [List.find?_cons]
    rcases List.mem_cons.mp h with e | e
    · cases e
      rw [decide_eq_true rfl]
      rfl
    · have ne : k0 ≠ k := fun z => nd.1 (z ▸ List.mem_map.mpr ⟨_, e, rfl⟩)
      rw [decide_eq_false ne]
      exact ih nd.2 e
theorem KvI.nd {H : Hp} {ks : List (Key × V)} {l : Tps} (h : KvI H ks l) (nd : (l.map (·.1)).Nodup) : (ks.map (·.1)).Nodup := by
  rw [h.keys]
  exact List.pairwise_map.mpr (nd.imp fun h z => h (Sum.inl.inj z))
theorem pow_small {n : Int} {k : Nat} (a : 1 ≤ n) (b : n ≤ 9) (hk : k ≤ 4) : -(2 ^ 64) < n ^ k ∧ n ^ k < 2 ^ 64 := by
  rcases (show n = 1 ∨ n = 2 ∨ n = 3 ∨ n = 4 ∨ n = 5 ∨ n = 6 ∨ n = 7 ∨ n = 8 ∨ n = 9 by omega) with rfl | rfl | rfl | rfl | rfl | rfl | rfl | rfl | rfl <;>
    rcases (show k = 0 ∨ k = 1 ∨ k = 2 ∨ k = 3 ∨ k = 4 by omega) with rfl | rfl | rfl | rfl | rfl <;> decide
theorem zeros {K : PySem.W.Frag} {H1 : Hp} {σ : L2.St} {wd : Nat} {Q : VK} (h2 : σ[2]? = some (some (.int wd))) (w45 : wd ≤ 45) (q : ∀ tot H3, Same H1 H3 → Row H3 tot (List.replicate wd 0) → Q tot H3) : tOp (rRepA K) (tTup (tCons (tC (.int 0)) tNil)) (tVar 2) σ H1 Q := by
  have e : ∀ n : Nat, (List.replicate n [V.int 0]).flatten = (List.replicate n (0 : Int)).map V.int := fun n => by
    induction n with
    | zero => rfl
    | succ n ih => rw [List.replicate_succ, List.flatten_cons, ih, List.replicate_succ]; rfl
  refine ⟨by show 1 ≤ sizeLine; decide, fun t nt => ⟨_, h2, t, wd, [.int 0], rfl, rfl, SqT.of upd_same, by simp, by omega, by omega, by decide, fun e1 => q _ _ (same_new nt) ⟨t, rfl, .inl ?_, ?_⟩, fun _ p np => q _ _ ((same_new nt).trans (same_new np)) ⟨p, rfl, .inl ?_, ?_⟩⟩⟩
  · obtain rfl : wd = 1 := by omega
    exact upd_same
  · rw [List.length_replicate]
    exact w45
  · rw [Int.toNat_natCast, e]
    exact upd_same
  · rw [List.length_replicate]
    exact w45
section
variable {P : Program} {w : World} {K : PySem.W.Frag} {mg : Str → Option Value} {base : Heap}
end
end Kn
-- part Ex
set_option maxHeartbeats 4000000
/-! Errors of the package as values: made with their own __init__, which says super().__init__(text) and keeps one attribute. -/
namespace Err
open PySem PySem.Spec PyProof.Rows L2 NdefX
/-- what the top has written of an error class with an __init__ -/
structure Made (P : Program) (K : PySem.W.Frag) (C fI cc cd : Addr) (st : Stmt) (qual p : Str) : Prop where
  T : OexC K C
  iC : PySem.W.findIn K (.ref C) "__init__" = some (some (.ref fI))
  tI : PySem.W.typeIn K (.ref fI) = some (.type "function")
  fn : ∃ oc od kV doc pm an ct osl, K.lookup fI = some ⟨oc, od, .func (PySem.W.fnX "__init__" qual (defArgs st) (defBody st) (defScope st) [("__class__", cc)] .none kV doc pm an (.ref cd) ct), osl⟩
  code : PySem.W.codeIn K (.ref cd) qual = true
  file : ∃ c1 c2 vs c3 file tf, K.lookup cd = some ⟨c1, c2, .fields vs, c3⟩ ∧ vs[2]? = some (.str file tf) ∧ ((P.main.file : Str) == file) = true
  cell : ∃ c1 c2 c3, K.lookup cc = some ⟨c1, c2, .cell (some (.ref C)), c3⟩
  sup : PySem.W.ks_superIn K C C "__init__" = some (some (.builtin "ValueError.__init__"))
  any : PySem.W.nsIn K cStatics "thirdparty.any" = some none
  own : PySem.W.mroIn K C (.ref C) = some true
  subV : PySem.W.subIn K (.ref C) (.type "ValueError") = some true
  noA : PySem.W.findIn K (.ref C) p = some none
  top : (P.main.scope.names.lookup ("super" : Str)).isSome = false
section
variable {X : Cx} {C fI cc cd e : Addr} {st : Stmt} {qual p msg : Str} {pins : List (Addr × Obj)} {σ : L2.St} {H : Hp} {s : Shared} {q1 q2 q3 q4 q5 q6 : Pos} {body : List Stmt}
/-- the evaluation of super().__init__(text), as the positions let it be -/
def SupEv (q1 q2 q3 q4 q5 : Pos) (msg : Str) (pl : Sem Bool) (env : Env) : Prop :=
  eval (.Call (.Attribute (.Call (.Name "super" q1) [] [] q2) "__init__" q3) [.Constant (.str msg) 0 q4] [] q5) env = (do
    let ov ← attributeBase (.Call (.Name "super" q1) [] [] q2) "__init__" env (eval (.Call (.Name "super" q1) [] [] q2) env)
    standAt q3.atName
    let (f, first) ← holding [ov] (getMethod ov "__init__" pl)
    callWith q5 f first (backTo q5 (starEach [.Constant (.str msg) 0 q4] env)) [])
theorem super_at {pl : Sem Bool} (hev : SupEv q1 q2 q3 q4 q5 msg pl X.env) (M : Made X.prog X.K C fI cc cd st qual p) (I : Inv X pins σ H s) (hfu : X.env.func = some fI) (hco : X.env.code = .ref cd) (hks : Gl X "super") (hkc : X.env.kindOf "__class__" = some .free) (hcl : X.env.cells.lookup ("__class__" : Str) = some cc)
    (hN : X.N[0]? = some ("self" : Str)) (hka : X.env.kindOf "self" = some .local) (hp : ((defArgs st).posonlyargs ++ (defArgs st).args).head?.map (·.arg) = some ("self" : Str)) (ms : X.mg "super" = none)
    (hs0 : σ[0]? = some (some (.ref e))) (he : H e = some (exo e C none)) :
    PySem.wpAt (model X.prog X.w) X.A (.func body X.env) (exec (.Expr (.Call (.Attribute (.Call (.Name "super" q1) [] [] q2) "__init__" q3) [.Constant (.str msg) 0 q4] [] q5) q6) X.env)
      (fun fl s' => fl = .next ∧ Inv X pins σ H s') X.xe s := by
  obtain ⟨oc, od, kV, doc, pm, an, ct, osl, lk⟩ := M.fn
  obtain ⟨c1, c2, vs, c3, file, tf, lkc, hvs, hfile⟩ := M.file
  obtain ⟨d1, d2, d3, lcc⟩ := M.cell
  obtain ⟨ar, har, hara⟩ : ∃ ar, ((defArgs st).posonlyargs ++ (defArgs st).args).head? = some ar ∧ ar.arg = ("self" : Str) := by
    cases hq : ((defArgs st).posonlyargs ++ (defArgs st).args).head? with
    | none => rw [hq] at hp; cases hp
    | some ar => rw [hq] at hp; exact ⟨ar, rfl, Option.some.inj hp⟩
  obtain ⟨m, hns, hl⟩ := I.loc
  obtain ⟨u, ru, lu⟩ := hl 0 "self" _ hN hs0 (.inl hka)
  obtain rfl : u = Value.ref e := ru
  have hv : m ("self" : Str) = some (.ref e) := by
    rcases lu with ⟨_, z⟩ | ⟨z, _⟩
    · exact z
    · rcases z with z | z
      · rw [hka] at z; cases z
      · rw [hka] at z; cases z
  obtain ⟨t1, ho⟩ := exo_at I.hok he
  have KX := I.kIn
  obtain ⟨nm, q, N, bs, bm, sn, sub, ab, col, dd, k0, k1, k2, k3, k5, hC, hbm⟩ := M.T.cls
  refine ks_wpAt_Expr_any (ks_wpAt_MethodCall ?_ hev) I.quiet rfl
  refine ks_wpAt_super_base hks hkc rfl hfu (KX _ _ lk) rfl har hco (KX _ _ lkc) rfl hvs hfile M.top ?_
  obtain ⟨mb, hb1, hb2⟩ := I.mod.blt
  refine PySem.W.ks_loadName_global I.ok.kind hks (Calls.loadGlobal_builtin (by rw [I.ok.glob]; exact I.mod.glob.keeps I.bk) ms (by rw [I.ok.blt]; exact hb1.keeps I.bk) ((hb2 _ (by decide)).trans PyProof.Rows.Boot.«super») ⟨rfl, ?_⟩)
  refine wpAny_loadName_free I.ok.kind hkc hcl ⟨_, KX _ _ lcc, rfl⟩ ?_
  refine wpAny_loadName_local I.ok.kind (by rw [hara]; exact hka) hns (by rw [hara]; exact hv) ?_
  obtain ⟨hp1, g, dr, tk, os⟩ := s
  refine ks_wpAny_isType_cls (KX _ _ hC) rfl ⟨rfl, ?_⟩
  refine ks_wpAny_call_super (KX _ _ hC) rfl ho rfl (fun _ z => nomatch z) (PySem.W.looks_mroIn KX M.own) (fun h' es k => ?_)
  have I1 : Inv X pins σ H ⟨h', g, dr, tk, os⟩ := I.kept k
  have ho1 := k _ _ ho
  have In1 : PySem.W.InstAt h' e _ C none := ⟨ho1, rfl, rfl, trivial⟩
  have hm := M.sup
  unfold PySem.W.ks_superIn at hm
  cases hc : PySem.W.clsIn X.K C with
  | none => rw [hc] at hm; cases hm
  | some cd' =>
    rw [hc] at hm
    have hI : PySem.W.Looks (model X.prog X.w) h' (isInstance (.ref e) (.type "ValueError")) true := In1.type.andThen (PySem.W.looks_subIn I1.kIn M.subV)
    refine PySem.W.kxs_getMethod PySem.W.kxs_ValueError es (PySem.W.looks_opaque I1.kIn M.any) (l₀ := cd'.mro) (fun A Q E s k q => wpAny_bind ((PySem.W.looks_clsIn I1.kIn hc) A _ E s k (wpAny_pure q))) rfl I1.kIn hm hI (PySem.W.ks_ne I1.kIn In1 hc) rfl ?_
    have k2 : ∀ b o, h'.get? b = some o → (h'.push (PySem.W.kxs_mw "ValueError.__init__" e)).get? b = some o := fun b o z => Heap.get?_push_of_some _ z
    have I2 : Inv X pins σ H ⟨h'.push (PySem.W.kxs_mw "ValueError.__init__" e), g, dr, tk + 1, os⟩ := I1.kept (t' := tk + 1) k2
    have hu2 : (h'.push (PySem.W.kxs_mw "ValueError.__init__" e)).get? h'.objs.size = some (PySem.W.kxs_mw "ValueError.__init__" e) := Heap.get?_push_at rfl rfl
    have ho2 := k2 _ _ ho1
    generalize h'.push (PySem.W.kxs_mw "ValueError.__init__" e) = h2 at I2 hu2 ho2 ⊢
    refine PySem.W.kxs_callWith (i := "ValueError.__init__") (x := e) rfl (Calls.evalArgs_plain (Calls.spliced_cons (@wpAny_Constant_str _ _ _ _ X.env msg 0 q4 _ ?_)))
    refine Calls.spliced_nil ⟨hu2, ?_⟩
    have I3 : Inv X pins σ H ⟨h2, g, dr, tk + 1 + 1, os⟩ := I2.tok (tk + 1 + 1)
    have FB := F.excBase_ValueError
    refine wpAny_call (codeAny_of_tree ?_)
    show wpAny _ X.A.in1 (callAny (.ref h'.objs.size) ⟨[.str msg (tk + 1)], []⟩) _ _ _
    simp only [callAny]
    refine wpAny_bind (wpAny_load hu2 ?_)
    simp only [PySem.W.kxs_mw, show (Value.type "method-wrapper" == Value.type "method" || Value.type "method-wrapper" == Value.type "builtin_function_or_method" || Value.type "method-wrapper" == Value.type "method-wrapper") = true by decide, if_true]
    refine PySem.W.KFB.if_so (by decide) ?_
    refine wpAny_bind (PySem.W.check_bound_init FB.toExcCallFacts (I3.kIn _ _ hC) ho2 rfl ?_)
    refine wpAny_bind (wpAny_pure (wpAny_pure ?_))
    refine ⟨plainId_quiet FB.init.plain _, codeAny_builtin FB.initEntry ?_⟩
    refine PySem.W.exc_init_tree (cls := .ref C) (t0 := t1) (dv := none) (c2 := .none) (c3 := .none) (b4 := .bool false) ho2 (by show 1 ≤ sizeLine; decide) (fun h3 k3 e3 _ => ?_)
    have J := I3.write (t' := tk + 1 + 1) (x := e) (e := e) (o := exo e C none) (by rw [he]; exact True.intro) (.inl rfl) k3 ⟨_, e3⟩ (exo_ok e3)
    have eu : upd H e (exo e C none) = H := by
      funext b
      by_cases hb : b = e
      · rw [hb, upd_same, he]
      · rw [upd_ne hb]
    rw [eu] at J
    exact ⟨trivial, J⟩
/-- the function's data, as a nested def's -/
abbrev nf (st : Stmt) (qual : Str) (cc cd : Addr) : NF := ⟨"__init__", qual, defArgs st, defBody st, defScope st, [("__class__", cc)], cd⟩
theorem init_code {P : Program} {w : World} {K : PySem.W.Frag} {mg : Str → Option Value} {base : Heap} {A : Around} {outer : List Env} {s : Shared} {H : Hp} {Q : VK} {E : XK} {k : Nat} {args : Args} {u : Value} {x : V} {q7 q8 q9 q10 : Pos} {pl : Sem Bool}
    (M : Made P K C fI cc cd st qual p) (S : NScope ["self", p, "__class__"] ["self", p] ["__class__"] (defScope st))
    (hb : defBody st = [.Expr (.Call (.Attribute (.Call (.Name "super" q1) [] [] q2) "__init__" q3) [.Constant (.str msg) 0 q4] [] q5) q6, .Assign [.Attribute (.Name "self" q7) p q8] (.Name p q9) q10])
    (hev : ∀ env, SupEv q1 q2 q3 q4 q5 msg pl env) (hks : (defScope st).names.lookup ("super" : Str) = some .globalImplicit) (hpa : ((defArgs st).posonlyargs ++ (defArgs st).args).head?.map (·.arg) = some ("self" : Str))
    (hpd : (p == ("__debug__" : Str)) = false) (hpc : (p == ("__classdict__" : Str)) = false) (hsw : ∀ env, swapsWith (.Name p q9) (some (.Attribute (.Name "self" q7) p q8)) q10.line env = pure false)
    (ms : mg "super" = none) (hr : Room k A) (e0 : Env0 P w K mg base A outer s H) (he : H e = some (exo e C none)) (ru : L2.RelV x u)
    (hbind : ∀ kV doc pm an ct, BindsTo s (PySem.W.fnX "__init__" qual (defArgs st) (defBody st) (defScope st) [("__class__", cc)] .none kV doc pm an (.ref cd) ct) args [("self", .ref e), (p, u)])
    (hq : ∀ d, H d = none → d ≠ e → Q .non (upd (upd H d (exd d [(p, x)])) e (exo e C (some d)))) :
    codeAny (model P w) A (.call (.ref fI) args) (CR CX0 outer P w H s Q E) s := by
  obtain ⟨oc, od, kV, doc, pm, an, ct, osl, lk⟩ := M.fn
  obtain ⟨d1, d2, d3, lcc⟩ := M.cell
  have KX : K.In s.heap := e0.mod.kin.keeps fun b o z => (e0.bs b o z).1
  have lim : s.heap.NoLimit := e0.mod.nolimit.keeps fun b o z => (e0.bs b o z).1
  refine ks_codeAny_call_defAt (body := defBody st) (binds := [("self", .ref e), (p, u)]) hr.depth (KX _ _ lk) rfl lim (PySem.W.codeRec_of KX M.code) rfl (hbind _ _ _ _ _) S.nocell ?_ (fun h1 hns kp => ?_) S.co S.gen S.kind
  · intro y hy
    rcases List.mem_cons.mp hy with rfl | hy
    · exact S.par _ (by simp)
    · rcases List.mem_cons.mp hy with rfl | hy
      · exact S.par _ (by simp)
      · cases hy
  have I : Inv (ncx CX0 P w K mg base ["self", p, "__class__"] (nf st qual cc cd) fI A outer s H E) [] (startF ["self", p, "__class__"] [.ref e, x] [some (.ref C)]) H { s with heap := h1, toks := s.toks + 2 } := by
    refine inv_startN (us := [.ref e, u]) S hr.hd e0 rfl (.cons rfl (.cons ru .nil)) ?_ hns kp
    have hcc := e0.mod.kin _ _ lcc
    have one : ∀ (y : Str) (c : Addr), ([("__class__", cc)] : List (Str × Addr)).lookup y = some c → y = "__class__" ∧ c = cc := fun y c z => by
      rw [List.lookup_cons] at z
      by_cases hy : (y == ("__class__" : Str)) = true
      · rw [hy] at z
        exact ⟨eq_of_beq hy, (Option.some.inj z).symm⟩
      · rw [Bool.not_eq_true] at hy
        rw [hy] at z
        cases z
    refine ⟨rfl, fun y c z => ?_, fun a b c z1 z2 => (one _ _ z1).1.trans (one _ _ z2).1.symm, fun i y z => ?_⟩
    · obtain ⟨_, rfl⟩ := one _ _ z
      exact ⟨(e0.bs _ _ hcc).2, _, _, KX _ _ lcc, rfl⟩
    · rcases i with _ | i
      · obtain rfl : ("__class__" : Str) = y := Option.some.inj z
        refine ⟨cc, by rw [List.lookup_cons]; simp, fun v hv => ?_⟩
        obtain rfl : V.ref C = v := Option.some.inj (Option.some.inj hv)
        exact ⟨.ref C, rfl, _, KX _ _ lcc, rfl⟩
      · simp at z
  have kself : (defScope st).names.lookup ("self" : Str) = some .local := S.par _ (by simp)
  have kp' : (defScope st).names.lookup p = some .local := S.par _ (by simp)
  have kcl : (defScope st).names.lookup ("__class__" : Str) = some .free := S.frk _ (by simp)
  show PySem.wpAt (model P w) (ncx CX0 P w K mg base ["self", p, "__class__"] (nf st qual cc cd) fI A outer s H E).A (.func (defBody st) (ncx CX0 P w K mg base ["self", p, "__class__"] (nf st qual cc cd) fI A outer s H E).env) (execs (defBody st) (ncx CX0 P w K mg base ["self", p, "__class__"] (nf st qual cc cd) fI A outer s H E).env) _ _ { s with heap := h1, toks := s.toks + 2 }
  rw [hb]
  refine ks_wpAt_execs_cons (ks_wpAt_mono (super_at (X := ncx CX0 P w K mg base ["self", p, "__class__"] (nf st qual cc cd) fI A outer s H E) (hev _) M I rfl rfl hks kcl (by show List.lookup ("__class__" : Str) [(("__class__" : Str), cc)] = some cc; rw [List.lookup_cons]; simp) rfl kself hpa ms rfl he) (fun fl s' hJ => ?_) fun _ _ z => z)
  obtain ⟨rfl, J⟩ := hJ
  have ht : PSs (ncx CX0 P w K mg base ["self", p, "__class__"] (nf st qual cc cd) fI A outer s H E) [.Assign [.Attribute (.Name "self" q7) p q8] (.Name p q9) q10] _ :=
    pss_one (ps_ost (pe_var (i := 0) rfl (.inl kself)) (pe_var (i := 1) rfl (.inl kp') hpd hpc) (hsw _))
  refine wpAt_of_wpAny (wpAny_mono (ht.run [] s' _ H { nx := fun _ H' => Q .non H', rt := Q } J ?_) (fun fl s'' hs => ?_) fun _ _ z => z)
  · refine ⟨x, rfl, .ref e, rfl, e, C, rfl, M.T, M.noA, .inl ⟨he, fun dx nd ne => hq dx nd ne⟩⟩
  · cases fl with
    | next =>
      obtain ⟨σ', H', J', q⟩ := hs
      exact ⟨.non, H', J'.os, J'.bare, J'.base, J'.hok, rfl, q⟩
    | ret v =>
      obtain ⟨v', σ', H', J', rv, q⟩ := hs
      exact ⟨v', H', J'.os, J'.bare, J'.base, J'.hok, rv, q⟩
    | brk =>
      obtain ⟨_, _, _, q⟩ := hs
      exact False.elim q
    | cont =>
      obtain ⟨_, _, _, q⟩ := hs
      exact False.elim q
end
end Err
-- part ExK
set_option maxHeartbeats 4000000
namespace Err
open PySem PySem.Spec PyProof.Rows L2 NdefX PySem.HandSPX
section
variable {M : Model} {A : Around} {E : Value → Shared → Prop} {h : Heap} {g : Array GenState} {d : Drawn} {t : Nat} {os : OsState} {nm q : Str} {C N : Addr}
  {bs bm bmB : List Value} {hdct : Bool} {sn : List Str} {sub : List Value} {ab : Bool} {col : Option Bool} {dd : Option Addr} {k0 k1 k2 k3 k5 : Option Value} {B newId initId : String}
  {kw : List (Str × Value)}
theorem newK_check (FB : ExcBaseFacts B newId initId bmB) (hT : ∀ X : String, bm.contains (.type X) = bmB.contains (.type X)) {Q : Unit → Shared → Prop}
    (hC : h.get? C = some (excClassObj nm q C N bs bm hdct sn sub ab col dd k0 k1 k2 k3 k5 newId))
    (hq : Q () ⟨h, g, d, t, os⟩) : wpAny M A (checkBuiltinCall newId ⟨[.ref C], kw⟩) Q E ⟨h, g, d, t, os⟩ := by
  have inB : (Value.ref C :: bm).contains (.type B) = true := by
    rw [List.contains_cons, hT, FB.hasB, Bool.or_true]
  have star := FB.noStar
  simp only [checkBuiltinCall, FB.newKind, FB.newSplit, FB.newRow]
  repeat (first
    | refine wpAny_loadPart_at hC ?_
    | (refine wpAny_isSubtype_exc hC ?_
       rw [inB])
    | refine wpAny_staticBase_exc hC ?_
    | refine wpAny_madeBy_exc hC ?_
    | simp only [bne_self_eq_false, Bool.false_eq_true, if_false]
    | wp_step)
  exact hq
end
section
variable {prog : Program} {w : World} {A : Around} {E : Value → Shared → Prop} {R : Result → Shared → Prop} {h : Heap} {g : Array GenState} {d : Drawn} {t : Nat} {os : OsState}
  {nm q : Str} {C N : Addr} {bs bm bmB : List Value} {hdct : Bool} {sn : List Str} {sub : List Value} {ab : Bool} {col : Option Bool} {dd : Option Addr} {k0 k1 k2 k3 k5 : Option Value}
  {B newId initId : String} {kw : List (Str × Value)}
theorem newK_code (FB : ExcBaseFacts B newId initId bmB) (hT : ∀ X : String, bm.contains (.type X) = bmB.contains (.type X))
    (hC : h.get? C = some (excClassObj nm q C N bs bm hdct sn sub ab col dd k0 k1 k2 k3 k5 newId))
    (hq : R (.ok (.ret (.ref (h.objs.size + 1)))) ⟨(h.push (PySem.W.kdv_tup [])).push (excO C h.objs.size), g, d, t, os⟩) :
    codeAny (model prog w) A (.builtin newId ⟨[.ref C], kw⟩) R ⟨h, g, d, t, os⟩ := by
  have ends := FB.ends
  have inB : (Value.ref C :: bm).contains (.type B) = true := by
    rw [List.contains_cons, hT, FB.hasB, Bool.or_true]
  have inA : (Value.ref C :: bm).contains (.type "AttributeError") = false := by
    rw [List.contains_cons, hT, FB.noAttr]
    rfl
  have inN : (Value.ref C :: bm).contains (.type "NameError") = false := by
    rw [List.contains_cons, hT, FB.noName]
    rfl
  refine codeAny_builtinAt FB.entry ?_
  unfold Builtin.«BaseException.__new__»
  refine PySem.wpAt_bind ?_
  show PySem.wpAt _ _ _ (stack >>= _) _ _ _
  refine PySem.wpAt_bind (PySem.wpAt_stack fun _ _ => PySem.wpAt_of_wpAny ?_)
  wp_walk
  refine PySem.wpAt_of_wpAny ?_
  rw [FB.owner]
  repeat (first
    | with_reducible refine wpAny_madeHere_exc FB.canon hC ?_
    | with_reducible refine wpAny_loadPart_at hC ?_
    | (with_reducible refine wpAny_isSubtype_exc hC ?_
       first | rw [inB] | rw [inA] | rw [inN])
    | wp_step)
  show R _ _
  rw [Heap.size_push]
  exact hq
theorem tyK_call (FB : ExcBaseFacts B newId initId bmB) (hT : ∀ X : String, bm.contains (.type X) = bmB.contains (.type X)) {fI : Addr} {Q : Fin → Shared → Prop}
    (hC : h.get? C = some (excClassObj nm q C N bs bm hdct sn sub ab col dd k0 k1 k2 k3 k5 newId))
    (hi : W.Looks (model prog w) h (typeLookup (.ref C) "__init__") (some (.ref fI))) (hb : ∀ self, W.Looks (model prog w) h (bindSpecial (.ref fI) self) (.ref fI, [self]))
    (hq : codeAny (model prog w) A (.call (.ref fI) ⟨[.ref (h.objs.size + 1)], kw⟩)
      (fun r s' => match r with | .ok (.ret v) => v = .none ∧ Q (.done (.ret (.ref (h.objs.size + 1)))) s' | .ok _ => False | .error e => E e s')
      ⟨(h.push (PySem.W.kdv_tup [])).push (excO C h.objs.size), g, d, t, os⟩) :
    wpAny (model prog w) A (Builtin.«type.__call__» ⟨[.ref C], kw⟩) Q E ⟨h, g, d, t, os⟩ := by
  repeat (first
    | with_reducible refine wpAny_loadPart_at hC ?_
    | with_reducible refine wpAny_madeBy_exc hC ?_
    | wp_step)
  refine codeAny_call_builtin_code (Code.quiet_builtin _ FB.quiet) (newK_check FB hT hC ?_)
  refine newK_code FB hT hC ?_
  show wpAny _ _ _ _ _ _
  have kk : ∀ b o, h.get? b = some o → ((h.push (PySem.W.kdv_tup [])).push (excO C h.objs.size)).get? b = some o := fun b o z => Heap.get?_push_of_some _ (Heap.get?_push_of_some _ z)
  have hC2 := kk _ _ hC
  have he2 : ((h.push (PySem.W.kdv_tup [])).push (excO C h.objs.size)).get? (h.objs.size + 1) = some (excO C h.objs.size) := by heap_get
  have inC : (Value.ref C :: bm).contains (.ref C) = true := by simp
  have i2 := hi.keeps kk
  have b2 := (hb (.ref (h.objs.size + 1))).keeps kk
  unfold isInstance
  repeat (first
    | with_reducible refine wpAny_loadPart_at he2 ?_
    | (with_reducible refine wpAny_isSubtype_exc hC2 ?_
       rw [inC])
    | wp_step)
  show wpAny _ _ (typeLookup (.ref C) _) _ _ _
  refine i2.at ?_
  refine wpAny_holding (wpAny_bind (b2.at ?_))
  refine wpAny_bind (wpAny_call (codeAny_mono hq fun r s' z => ?_))
  rcases r with e | (v | _ | _ | _)
  · exact z
  · exact z.elim
  · exact z.elim
  · exact z.elim
  · obtain ⟨rfl, z⟩ := z
    first
      | exact wpAny_pure (wpAny_pure z)
      | (wp_walk; exact z)
theorem callK_own (FB : ExcBaseFacts B newId initId bmB) (hT : ∀ X : String, bm.contains (.type X) = bmB.contains (.type X)) {fI : Addr}
    (hC : h.get? C = some (excClassObj nm q C N bs bm hdct sn sub ab col dd k0 k1 k2 k3 k5 newId))
    (hi : W.Looks (model prog w) h (typeLookup (.ref C) "__init__") (some (.ref fI))) (hb : ∀ self, W.Looks (model prog w) h (bindSpecial (.ref fI) self) (.ref fI, [self]))
    (hq : codeAny (model prog w) (A.under (.builtin "type.__call__" ⟨[.ref C], kw⟩)) (.call (.ref fI) ⟨[.ref (h.objs.size + 1)], kw⟩) (W.InitBack (h.objs.size + 1) R)
      ⟨(h.push (PySem.W.kdv_tup [])).push (excO C h.objs.size), g, d, t, os⟩) :
    codeAny (model prog w) A (.call (.ref C) ⟨[], kw⟩) R ⟨h, g, d, t, os⟩ := by
  have f1 := tc_lookup
  have f2 := tc_bind (.ref C)
  have hTy : (⟨h, g, d, t, os⟩ : Shared).TypeIs (.ref C) "type" := ⟨_, hC, rfl⟩
  refine codeAny_of_tree ?_
  show wpAny _ _ (callAny (.ref C) _) _ _ _
  repeat (any_goals (first
    | assumption
    | with_reducible refine wpAny_loadPart_at hC ?_
    | wp_step))
  refine ⟨rfl, ?_⟩
  refine codeAny_call_builtin_at (Code.quiet_builtin _ (by decide +kernel)) entry_typeCall (wpAny_check_type_call_sub hC (tyK_call FB hT hC hi hb ?_))
  refine codeAny_mono hq fun r s' z => ?_
  rcases r with e | (v | _ | _ | _) <;> exact z
end
end Err
-- part ErrR
set_option maxHeartbeats 4000000
namespace Err
open PySem PySem.Spec PyProof.Rows L2 NdefX
/-- a class of errors that keeps one attribute: all that is asked of the text and of what the top has written -/
structure One (P : Program) (K : PySem.W.Frag) (C : Addr) (p : Str) : Prop where
  ex : ∃ (fI cc cd : Addr) (st : Stmt) (qual msg : Str) (q1 q2 q3 q4 q5 q6 q7 q8 q9 q10 : Pos) (pl : Sem Bool), Made P K C fI cc cd st qual p ∧
    NScope ["self", p, "__class__"] ["self", p] ["__class__"] (defScope st) ∧
    defBody st = [.Expr (.Call (.Attribute (.Call (.Name "super" q1) [] [] q2) "__init__" q3) [.Constant (.str msg) 0 q4] [] q5) q6, .Assign [.Attribute (.Name "self" q7) p q8] (.Name p q9) q10] ∧
    (∀ env, SupEv q1 q2 q3 q4 q5 msg pl env) ∧ (defScope st).names.lookup ("super" : Str) = some .globalImplicit ∧ ((defArgs st).posonlyargs ++ (defArgs st).args).head?.map (·.arg) = some ("self" : Str) ∧
    (p == ("__debug__" : Str)) = false ∧ (p == ("__classdict__" : Str)) = false ∧ (∀ env, swapsWith (.Name p q9) (some (.Attribute (.Name "self" q7) p q8)) q10.line env = pure false) ∧
    (∀ kV doc pm an ct e u, bindArgs (PySem.W.fnX "__init__" qual (defArgs st) (defBody st) (defScope st) [("__class__", cc)] .none kV doc pm an (.ref cd) ct) ⟨[e, u], []⟩ = pure [(("self" : Str), e), (p, u)]) ∧
    (∀ kV doc pm an ct e u, bindArgs (PySem.W.fnX "__init__" qual (defArgs st) (defBody st) (defScope st) [("__class__", cc)] .none kV doc pm an (.ref cd) ct) ⟨[e], [(p, u)]⟩ = pure [(("self" : Str), e), (p, u)])
/-- the reading: a new error a, with a dict d of its own -/
def tErr (C : Addr) (p : Str) (te : TE) : TE := fun σ H Q => te σ H fun v H1 => ∀ a d, H1 a = none → H1 d = none → d ≠ a → Q (.ref a) (upd (upd H1 d (exd d [(p, v)])) a (exo a C (some d)))
section
variable {X : Cx} {C : Addr} {p x : Str} {e : Expr} {te : TE} {cp pos : Pos}
theorem upd_swap (H : Hp) {a d : Addr} (o1 o2 o3 : HO) (h : d ≠ a) : upd (upd (upd H a o1) d o2) a o3 = upd (upd H d o2) a o3 := by
  funext b
  by_cases hb : b = a
  · rw [hb, upd_same, upd_same]
  · rw [upd_ne hb, upd_ne hb]
    by_cases hd : b = d
    · rw [hd, upd_same, upd_same]
    · rw [upd_ne hd, upd_ne hd, upd_ne hb]
theorem err_new {pins : List (Addr × Obj)} {σ : L2.St} {H : Hp} {s : Shared} {Q : VK} {u : Value} {v : V} (T : One X.prog X.K C p) (ms : X.mg "super" = none) (hr : Room 1 X.A) (I : Inv X pins σ H s) (ru : L2.RelV v u)
    (hq : ∀ a d, H a = none → H d = none → d ≠ a → Q (.ref a) (upd (upd H d (exd d [(p, v)])) a (exo a C (some d)))) (us : List Value) (kw : List (Str × Value)) (hus : (us = [u] ∧ kw = []) ∨ (us = [] ∧ kw = [(p, u)])) :
    wpAny (model X.prog X.w) X.A (call (.ref C) us kw) (EP X pins σ Q) X.xe s := by
  obtain ⟨fI, cc, cd, st, qual, msg, q1, q2, q3, q4, q5, q6, q7, q8, q9, q10, pl, M, S, hb, hev, hks, hpa, hpd, hpc, hsw, b1, b2⟩ := T.ex
  obtain ⟨nm, q, N, bs, bm, sn, sub, ab, col, dd, k0, k1, k2, k3, k5, hC, hbm⟩ := M.T.cls
  obtain ⟨hp, g, dr, tk, os⟩ := s
  have hsz : hp.objs.size ≤ hp.objs.size + 1 := Nat.le_succ _
  have hn : H (hp.objs.size + 1) = none := I.hok.fresh hsz
  have kk : ∀ vs b o, hp.get? b = some o → ((hp.push (PySem.W.kdv_tup vs)).push (PySem.HandSPX.excO C hp.objs.size)).get? b = some o := fun vs b o z => Heap.get?_push_of_some _ (Heap.get?_push_of_some _ z)
  have hget : ∀ vs, ((hp.push (PySem.W.kdv_tup vs)).push (PySem.HandSPX.excO C hp.objs.size)).get? (hp.objs.size + 1) = some (PySem.HandSPX.excO C hp.objs.size) := fun vs => by heap_get
  have I2 : ∀ vs, Inv X pins σ (upd H (hp.objs.size + 1) (exo (hp.objs.size + 1) C none)) ⟨(hp.push (PySem.W.kdv_tup vs)).push (PySem.HandSPX.excO C hp.objs.size), g, dr, tk, os⟩ := fun vs =>
    I.laid (t' := tk) (a := hp.objs.size + 1) (o := exo (hp.objs.size + 1) C none) (h' := (hp.push (PySem.W.kdv_tup vs)).push (PySem.HandSPX.excO C hp.objs.size)) (kk vs) hsz (exo_ok (hget vs))
  have hT := fun Y => PySem.HandSPX.refsVE_contains Y bm hbm
  have fin : ∀ (vs : List Value) (r : Result) (s' : Shared),
      CR CX0 X.stack X.prog X.w (upd H (hp.objs.size + 1) (exo (hp.objs.size + 1) C none)) ⟨(hp.push (PySem.W.kdv_tup vs)).push (PySem.HandSPX.excO C hp.objs.size), g, dr, tk, os⟩ (fun v H' => v = .non ∧ Q (.ref (hp.objs.size + 1)) H') (fun _ _ _ => False) r s' →
      PySem.W.InitBack (hp.objs.size + 1) (fun r s' => match r with | .ok (.ret v) => EP X pins σ Q v s' | .ok _ => False | .error e => X.xe e s') r s' := fun vs r s' hr => by
    cases r with
    | error er => exact False.elim hr
    | ok fl =>
      cases fl with
      | ret w' =>
        obtain ⟨v', H', J, rv, ev, q'⟩ := (I2 vs).after hr
        subst ev
        exact ⟨rv, .ref (hp.objs.size + 1), H', J, rfl, q'⟩
      | next => exact False.elim hr
      | brk => exact False.elim hr
      | cont => exact False.elim hr
  have last : ∀ d, upd H (hp.objs.size + 1) (exo (hp.objs.size + 1) C none) d = none → d ≠ hp.objs.size + 1 →
      V.non = V.non ∧ Q (.ref (hp.objs.size + 1)) (upd (upd (upd H (hp.objs.size + 1) (exo (hp.objs.size + 1) C none)) d (exd d [(p, v)])) (hp.objs.size + 1) (exo (hp.objs.size + 1) C (some d))) := fun d nd ne => by
    rw [upd_ne ne] at nd
    rw [upd_swap _ _ _ _ ne]
    exact ⟨rfl, hq _ d hn nd ne⟩
  rcases hus with ⟨rfl, rfl⟩ | ⟨rfl, rfl⟩
  · refine wpAny_call (PySem.HandSPX.call_own F.excBase_ValueError hT (I.kIn _ _ hC) (PySem.W.looks_findIn I.kIn M.iC) (fun self => PySem.W.bind_fn I.kIn self M.tI) (by show 1 ≤ sizeLine; decide)
      (codeAny_mono (init_code M S hb hev hks hpa hpd hpc hsw ms (hr.make C [u] []) ((I2 [u]).env0.make C [u] []) upd_same ru (fun kV doc pm an ct => .of_eq (b1 _ _ _ _ _ _ _)) last) fun r s' h => fin [u] r s' h))
  · refine wpAny_call (callK_own F.excBase_ValueError hT (I.kIn _ _ hC) (PySem.W.looks_findIn I.kIn M.iC) (fun self => PySem.W.bind_fn I.kIn self M.tI)
      (codeAny_mono (init_code M S hb hev hks hpa hpd hpc hsw ms (hr.make C [] [(p, u)]) ((I2 []).env0.make C [] [(p, u)]) upd_same ru (fun kV doc pm an ct => .of_eq (b2 _ _ _ _ _ _ _)) last) fun r s' h => fin [] r s' h))
/-- C(e) -/
theorem pe_err (T : One X.prog X.K C p) (ms : X.mg "super" = none) (hr : Room 1 X.A) (hg : Gl X x) (hm : X.mg x = some (.ref C)) (kC : PySem.W.keepIn X.K (.ref C) = true) (he : PE X e te)
    (hs : starEach [e] X.env = (false, eval e X.env) :: starEach [] X.env := by rfl) (hdb : (x == ("__debug__" : Str)) = false := by decide) : PE X (.Call (.Name x cp) [e] [] pos) (tErr C p te) := by
  refine ⟨fun pins s σ H Q I h => ?_⟩
  refine wpAny_Call_Name_kw (ld_glob I hg hm ?_ hdb)
  refine PySem.W.callWith_K (h₀ := X.base) I.ok.mod.kin kC ?_ hs (by rfl)
  rw [hs]
  show wpAny _ _ (spliced ((false, eval e X.env) :: backTo pos (starEach [] X.env))) _ _ s
  refine Calls.spliced_cons (thn (he.run pins s σ H _ I h) fun u s1 ⟨v, H1, I1, r1, q1⟩ => ?_)
  refine Calls.spliced_nil ⟨I1.kIn, ?_⟩
  exact err_new T ms hr I1 r1 q1 [u] [] (.inl ⟨rfl, rfl⟩)
end
end Err
-- part ErrV
set_option maxHeartbeats 4000000
namespace Err
open PySem PySem.Spec PyProof.Rows L2 NdefX
section
variable {X : Cx} {C : Addr} {p x : Str} {e : Expr} {te : TE} {cp kp pos : Pos}
/-- C(p=e) -/
theorem pe_errK (T : One X.prog X.K C p) (ms : X.mg "super" = none) (hr : Room 1 X.A) (hg : Gl X x) (hm : X.mg x = some (.ref C)) (kC : PySem.W.keepIn X.K (.ref C) = true) (he : PE X e te)
    (hall : (backToKw pos (keywordEach [⟨some p, e, kp⟩] X.env)).all (·.1.isSome) = true := by rfl) (hks : (backToKw pos (keywordEach [⟨some p, e, kp⟩] X.env)).filterMap (·.1) = [p] := by rfl)
    (hpl : ((backTo pos (starEach [] X.env)).any (·.1) || (backToKw pos (keywordEach [⟨some p, e, kp⟩] X.env)).any (·.1.isNone)) = false := by rfl)
    (hdb : (x == ("__debug__" : Str)) = false := by decide) : PE X (.Call (.Name x cp) [] [⟨some p, e, kp⟩] pos) (tErr C p te) := by
  refine ⟨fun pins s σ H Q I h => ?_⟩
  refine wpAny_Call_Name_kw (ld_glob I hg hm ?_ hdb)
  refine PySem.W.callWith_KW0 (h₀ := X.base) I.ok.mod.kin kC hall ?_ hpl
  refine thn ((pk_cons he pk_nil).run pos pins s σ H (fun vs H1 => match vs with | [v] => ∀ a d, H1 a = none → H1 d = none → d ≠ a → Q (.ref a) (upd (upd H1 d (exd d [(p, v)])) a (exo a C (some d))) | _ => False) I h) fun ws s1 ⟨zs, H1, I1, rz, q⟩ => ⟨I1.kIn, ?_⟩
  rw [hks]
  cases rz with
  | nil => exact False.elim q
  | cons r1 r2 =>
    cases r2 with
    | nil => exact err_new T ms hr I1 r1 q [] _ (.inr ⟨rfl, rfl⟩)
    | cons _ _ => exact False.elim q
/-- an error stands at a: with no dict, or with one of its own -/
def ExAt (H : Hp) (a C : Addr) : Prop := H a = some (ExO (.ref C) a) ∨ ∃ d fs, H a = some (exo a C (some d)) ∧ H d = some (exd d fs)
/-- what a class of errors must say so that isinstance asks rightly -/
structure Isi (K : PySem.W.Frag) (C : Addr) : Prop where
  cl : (PySem.W.clsIn K C).isSome = true
  ga : PySem.W.findIn K (.ref C) "__getattribute__" = some (some (.builtin "BaseException.__getattribute__"))
  gt : PySem.W.findIn K (.ref C) "__getattr__" = some none
  sb : PySem.W.subIn K (.ref C) (.type "BaseException") = some true
  ca : PySem.W.findIn K (.ref C) "__class__" = some (some (.builtin "object.__class__"))
  gs : PySem.W.specialIn K (.builtin "object.__class__") "__get__" = some (some (.builtin "getset_descriptor.__get__"))
  tk : PySem.W.takesIn K (.builtin "object.__class__") = some true
  ob : PySem.W.mroIn K C (.type "object") = some true
  hd : PySem.W.hasDictIn K C = true
theorem ExAt.inst {pins : List (Addr × Obj)} {σ : L2.St} {H : Hp} {s : Shared} {a : Addr} (I : Inv X pins σ H s) (h : ExAt H a C) : ∃ ox od, PySem.W.InstAt s.heap a ox C od := by
  rcases h with h | ⟨d, fs, h, hd⟩
  · obtain ⟨⟨oe, vs, e1, z, e2, _⟩, _, _⟩ := I.hok _ _ h
    refine ⟨oe, none, e1, z.1, ?_, ?_⟩
    · unfold PySem.W.notCls
      rw [e2]
    · rw [z.2]
      exact trivial
  · obtain ⟨t1, ho⟩ := exo_at I.hok h
    obtain ⟨mA, hns, hr⟩ := exd_at I.hok hd
    obtain ⟨od, es, ep, hod, _⟩ := hns
    exact ⟨_, some od, ho, rfl, rfl, hod⟩
def rIsx (K : PySem.W.Frag) : List V → Hp → VK → Prop := fun xs H Q => ∃ (a C : Addr) (c : V) (cv : Value) (b : Bool), xs = [.ref a, c] ∧ ExAt H a C ∧ Isi K C ∧ ClsV c cv ∧ PySem.W.kitOne K (.ref C) cv = some b ∧ Q (.bl b) H
theorem call_isx : CallR X (.builtin "isinstance") (rIsx X.K) := by
  intro pins s σ H xs us Q I r h
  obtain ⟨a, C, c, cv, b, rfl, hx, T, hcv, e, q⟩ := h
  obtain ⟨ox, od, J⟩ := hx.inst I
  cases r with
  | cons rx rr =>
    cases rr with
    | cons rt rr =>
      cases rr
      cases rx
      have ec := hcv.eq rt
      subst ec
      exact PySem.W.kia_one (PySem.W.kitx_exc T.cl T.ga T.gt T.sb T.ca T.gs T.tk T.ob) I.kIn J e (fun z => nomatch z) fun tk => ⟨.bl b, H, I.kept (t' := tk) fun _ _ z => z, rfl, q⟩
/-- e.n of an error -/
def tAtt (K : PySem.W.Frag) (n : Str) (te : TE) : TE := fun σ H Q => te σ H fun x H1 => ∃ (a C d : Addr) (fs : List (Str × V)) (v : V), x = .ref a ∧ H1 a = some (exo a C (some d)) ∧ H1 d = some (exd d fs) ∧ Isi K C ∧ PySem.W.findIn K (.ref C) n = some none ∧ fs.lookup n = some v ∧ Q v H1
theorem pe_att {n : Str} (he : PE X e te) (hb : attributeBase e n X.env (eval e X.env) = eval e X.env := by rfl) : PE X (.Attribute e n pos) (tAtt X.K n te) := by
  refine ⟨fun pins s σ H Q I h => ?_⟩
  refine attr_of hb (thn (he.run pins s σ H _ I h) fun u s1 ⟨x, H1, I1, rx, a, C, d, fs, v, ex, ea, ed, T, no, l, q⟩ => ?_)
  subst ex
  obtain rfl : u = Value.ref a := rx
  obtain ⟨t1, ho⟩ := exo_at I1.hok ea
  obtain ⟨mA, hns, hr⟩ := exd_at I1.hok ed
  obtain ⟨od, hod, hl⟩ := lookIn_ns hns
  obtain ⟨u, hu, ru⟩ := RelO.some_of (v := v) (o := mA n) (by rw [← l]; exact hr n)
  have J : PySem.W.InstAt s1.heap a _ C (some od) := ⟨ho, rfl, rfl, hod⟩
  exact HandSPX.exc_get I1.kIn J T.ga T.gt T.sb (PySem.W.findObj_own T.hd no rfl (by rw [hl, hu])) (handed_of ru) ⟨v, H1, I1.tok _, ru, q⟩
end
end Err
-- part Rs
set_option maxHeartbeats 4000000
/-! Errors with an attribute, raised. -/
namespace Err
open PySem PySem.Spec PyProof.Rows L2 NdefX
section
variable {X : Cx} {C : Addr} {p x : Str} {e : Expr} {te : TE} {cp pos : Pos}
/-- the making of an error that is raised: class C, a new dict with the one attribute -/
def tRs (C : Addr) (p : Str) (te : TE) : L2.St → Hp → XK → Prop := fun σ H Q => te σ H fun v H1 => ∀ d, H1 d = none → Q (.ref C) (some d) (upd H1 d (.xd [(p, v)]))
theorem raises_of (T : One X.prog X.K C p) : Raises X (.ref C) := by
  obtain ⟨fI, cc, cd, st, qual, msg, q1, q2, q3, q4, q5, q6, q7, q8, q9, q10, pl, M, _⟩ := T.ex
  exact raises_own M.T.exC M.T.tyC
theorem pmk_err (T : One X.prog X.K C p) (ms : X.mg "super" = none) (hr : Room 1 X.A) (hg : Gl X x) (hm : X.mg x = some (.ref C)) (kC : PySem.W.keepIn X.K (.ref C) = true) (he : PE X e te)
    (hs : starEach [e] X.env = (false, eval e X.env) :: starEach [] X.env := by rfl) (hdb : (x == ("__debug__" : Str)) = false := by decide) : PMk X (.Call (.Name x cp) [e] [] pos) (tRs C p te) := by
  intro pins s σ H Q I h
  refine wpAny_Call_Name_kw (ld_glob I hg hm ?_ hdb)
  refine PySem.W.callWith_K (h₀ := X.base) I.ok.mod.kin kC ?_ hs (by rfl)
  rw [hs]
  show wpAny _ _ (spliced ((false, eval e X.env) :: backTo pos (starEach [] X.env))) _ _ s
  refine Calls.spliced_cons (thn (he.run pins s σ H _ I h) fun u s1 ⟨v, H1, I1, ru, q1⟩ => ?_)
  refine Calls.spliced_nil ⟨I1.kIn, ?_⟩
  obtain ⟨fI, cc, cd, st, qual, msg, p1, p2, p3, p4, p5, p6, p7, p8, p9, p10, pl, M, S, hb, hev, hks, hpa, hpd, hpc, hsw, b1, b2⟩ := T.ex
  obtain ⟨nm, q, N, bs, bm, sn, sub, ab, col, dd, k0, k1, k2, k3, k5, hC, hbm⟩ := M.T.cls
  obtain ⟨hp, g, dr, tk, os⟩ := s1
  have hsz : hp.objs.size ≤ hp.objs.size + 1 := Nat.le_succ _
  have hn : H1 (hp.objs.size + 1) = none := I1.hok.fresh hsz
  have kk : ∀ b o, hp.get? b = some o → ((hp.push (PySem.W.kdv_tup [u])).push (PySem.HandSPX.excO C hp.objs.size)).get? b = some o := fun b o z => Heap.get?_push_of_some _ (Heap.get?_push_of_some _ z)
  have hget : ((hp.push (PySem.W.kdv_tup [u])).push (PySem.HandSPX.excO C hp.objs.size)).get? (hp.objs.size + 1) = some (PySem.HandSPX.excO C hp.objs.size) := by heap_get
  have I2 : Inv X pins σ (upd H1 (hp.objs.size + 1) (exo (hp.objs.size + 1) C none)) ⟨(hp.push (PySem.W.kdv_tup [u])).push (PySem.HandSPX.excO C hp.objs.size), g, dr, tk, os⟩ :=
    I1.laid (t' := tk) (a := hp.objs.size + 1) (o := exo (hp.objs.size + 1) C none) (h' := (hp.push (PySem.W.kdv_tup [u])).push (PySem.HandSPX.excO C hp.objs.size)) kk hsz (exo_ok hget)
  have hT := fun Y => PySem.HandSPX.refsVE_contains Y bm hbm
  have last : ∀ d, upd H1 (hp.objs.size + 1) (exo (hp.objs.size + 1) C none) d = none → d ≠ hp.objs.size + 1 →
      V.non = V.non ∧ ∃ d', upd (upd (upd H1 (hp.objs.size + 1) (exo (hp.objs.size + 1) C none)) d (exd d [(p, v)])) (hp.objs.size + 1) (exo (hp.objs.size + 1) C (some d)) = upd (upd (upd H1 (hp.objs.size + 1) (exo (hp.objs.size + 1) C none)) d' (exd d' [(p, v)])) (hp.objs.size + 1) (exo (hp.objs.size + 1) C (some d')) ∧ H1 d' = none ∧ d' ≠ hp.objs.size + 1 := fun d nd ne => by
    rw [upd_ne ne] at nd
    exact ⟨rfl, d, rfl, nd, ne⟩
  refine wpAny_call (PySem.HandSPX.call_own F.excBase_ValueError hT (I1.kIn _ _ hC) (PySem.W.looks_findIn I1.kIn M.iC) (fun self => PySem.W.bind_fn I1.kIn self M.tI) (by show 1 ≤ sizeLine; decide)
      (codeAny_mono (init_code (E := fun _ _ _ => False) (Q := fun v' H' => v' = V.non ∧ ∃ d', H' = upd (upd (upd H1 (hp.objs.size + 1) (exo (hp.objs.size + 1) C none)) d' (exd d' [(p, v)])) (hp.objs.size + 1) (exo (hp.objs.size + 1) C (some d')) ∧ H1 d' = none ∧ d' ≠ hp.objs.size + 1)
        M S hb hev hks hpa hpd hpc hsw ms (hr.make C [u] []) (I2.env0.make C [u] []) upd_same ru (fun kV doc pm an ct => .of_eq (b1 _ _ _ _ _ _ _)) last) fun r s' hq' => ?_))
  cases r with
  | error er => exact False.elim hq'
  | ok fl =>
    cases fl with
    | ret w' =>
      obtain ⟨v', H2, os2, bare2, un2, hok2, rv, ev, d, eH, hd1, hda⟩ := hq'
      subst ev
      subst eH
      obtain ⟨h2, g2, d2, t2, os'⟩ := s'
      have ed : (upd (upd (upd H1 (hp.objs.size + 1) (exo (hp.objs.size + 1) C none)) d (exd d [(p, v)])) (hp.objs.size + 1) (exo (hp.objs.size + 1) C (some d))) d = some (exd d [(p, v)]) := by rw [upd_ne hda, upd_same]
      refine ⟨rv, mk_end (raises_own M.T.exC M.T.tyC) I1 hsz kk un2 hok2 os2 bare2 upd_same ed hd1 ?_⟩
      have eq : upd (del (upd (upd (upd H1 (hp.objs.size + 1) (exo (hp.objs.size + 1) C none)) d (exd d [(p, v)])) (hp.objs.size + 1) (exo (hp.objs.size + 1) C (some d))) (hp.objs.size + 1)) d (.xd [(p, v)]) = upd H1 d (.xd [(p, v)]) := by
        funext b
        by_cases e1 : b = d
        · rw [e1, upd_same, upd_same]
        · rw [upd_ne e1, upd_ne e1]
          by_cases e2 : b = hp.objs.size + 1
          · rw [e2, del_same, hn]
          · rw [del_ne e2, upd_ne e2, upd_ne e1, upd_ne e2]
      rw [eq]
      exact q1 d hd1
    | next => exact False.elim hq'
    | brk => exact False.elim hq'
    | cont => exact False.elim hq'
end
end Err
-- part Kp
set_option maxHeartbeats 4000000
/-! A caught error that outlives its suite. -/
namespace Err
open PySem PySem.Spec PyProof.Rows L2 NdefX
/-- an error that was caught: of the class cls, its dict d -/
def exq (a : Addr) (cls : Value) (d : Option Addr) : HO := .ext fun h => ∃ (oe : Obj) (vs : Array Value), h.get? a = some oe ∧ Zc cls d oe ∧ oe.data = .fields vs
theorem exq_ok {P : Program} {w : World} {H : Hp} {h : Heap} {a : Addr} {cls : Value} {d : Option Addr} {oe : Obj} (e : h.get? a = some oe) (z : Zc cls d oe) (f : ∃ vs, oe.data = .fields vs) : ObjOk P w H h a (exq a cls d) := by
  obtain ⟨vs, f⟩ := f
  exact ⟨⟨oe, vs, e, z, f⟩, ⟨oe, e⟩, fun h1 h2 ⟨o, us, e1, z1, f1⟩ st => ⟨o, us, st o e1, z1, f1⟩⟩
section
variable {X : Cx} {pins : List (Addr × Obj)} {σ : L2.St} {H : Hp} {s : Shared}
/-- what was pinned is tracked from here on -/
theorem track {a : Addr} {oe : Obj} {o : HO} (I : L2.Inv X ((a, oe) :: pins) σ H s) (n0 : X.s_0.heap.get? a = none) (np : ∀ p ∈ X.pn ++ pins, p.1 ≠ a) (new : ObjOk X.prog X.w (upd H a o) s.heap a o) : L2.Inv X pins σ (upd H a o) s := by
  obtain ⟨_, hn, hL, hF, hcell⟩ := I.pin (a, oe) (by simp)
  have ha := (I.pin (a, oe) (by simp)).1
  have fresh : ∀ b u, X.s_0.heap.get? b = some u → b ≠ a := fun b u e z => by rw [z, n0] at e; cases e
  constructor
  · exact I.ok
  · exact I.os
  · exact I.bare
  · constructor
    · exact I.base.keep
    · exact I.base.slot
    · intro b u e n x
      rw [upd_ne (fresh b u e)]
      exact I.base.free b u e n x
    · exact I.base.there
    · intro b xs e
      have z := I.base.tups b xs e
      rw [upd_ne (ne_of_none z hn)]
      exact z
    · intro b u v e
      have z := I.base.frzs b u v e
      rw [upd_ne (ne_of_none z hn)]
      exact z
    · intro b ps e
      obtain ⟨m, z⟩ := I.base.tbls b ps e
      exact ⟨m, by rw [upd_ne (ne_of_none z hn)]; exact z⟩
  · exact I.loc
  · exact I.cell
  · rw [upd_ne (Ne.symm hL)]
    exact I.free
  · intro x c e
    have z : c ≠ a := fun z => by
      obtain ⟨v, o', ho, hd⟩ := I.cell x c e
      rw [z, ha] at ho
      cases ho
      exact hcell v hd
    rw [upd_ne z]
    exact I.freeC x c e
  · intro p hp
    have q : p ∈ X.pn ++ (a, oe) :: pins := by
      rcases List.mem_append.mp hp with y | y
      · exact List.mem_append_left _ y
      · exact List.mem_append_right _ (List.mem_cons_of_mem _ y)
    obtain ⟨e1, e2, e3⟩ := I.pin p q
    exact ⟨e1, by rw [upd_ne (np p hp)]; exact e2, e3⟩
  · exact I.hok.laidN (fun _ _ e => e) hn new
  · exact I.len
/-- in flight: all that a suite and what comes behind it must know of the error -/
theorem flown {B : Heap} {a : Addr} {cls : Value} {d : Option Addr} {sI sN : Shared} {h : Heap} (J : L2.Inv X pins σ H sI) (ground : ∀ b o, sI.heap.get? b = some o → b ∉ frs X.stack → B.get? b = some o) (hs : X.stack = X.env :: X.outer)
    (hf : X.env.frame = some X.env.locals) (hx : X.ex = []) (fl : PySem.HandSPX.FlyingZ B (X.env :: X.outer) a (Zc cls d) h) (up : sI.heap.UpToSlots h) (os : sN.os = sI.os) (ag : AllBare sN.gens) (na : H a = none) :
    ∃ oe : Obj, (∃ vs, oe.data = .fields vs) ∧ Zc cls d oe ∧ h.get? a = some oe ∧ L2.Inv (X.suite a ((a, oe) :: (X.pn ++ pins))) [] σ H { sN with heap := h } ∧ X.s_0.heap.get? a = none ∧ (∀ p ∈ X.pn ++ pins, p.1 ≠ a) ∧ L2.Inv X pins σ H { sN with heap := h } := by
  obtain ⟨oe, vs, ho, hz, hd⟩ := fl.there
  have out : a ∉ frs (X.env :: X.outer) := fun m => by
    obtain ⟨_, o2, e2, hne⟩ := fl.2.2.1.mem m
    rw [ho] at e2
    exact hne vs (by cases e2; exact hd)
  have gone : sI.heap.get? a = none := by
    cases e : sI.heap.get? a with
    | none => rfl
    | some o =>
      have z := ground a o e (by rw [hs]; exact out)
      rw [fl.2.1] at z
      cases z
  have K : L2.Inv X pins σ H { sN with heap := h } := J.landed ground fl.1 up os ag
  refine ⟨oe, ⟨vs, hd⟩, hz, ho, K.suite ho hd na (fun z => out ?_) (fun m => out ?_), ?_, fun p hp z => ?_, K⟩
  · exact List.mem_filterMap.mpr ⟨X.env, List.mem_cons_self, by rw [hf, z]⟩
  · obtain ⟨e, he, q⟩ := List.mem_filterMap.mp m
    exact List.mem_filterMap.mpr ⟨e, List.mem_cons_of_mem _ he, q⟩
  · cases e : X.s_0.heap.get? a with
    | none => rfl
    | some o =>
      obtain ⟨o2, e2⟩ := J.base.there a o e (by rw [hx]; exact fun z => nomatch z)
      rw [gone] at e2
      cases e2
  · have e := (J.pin p hp).1
    rw [z, gone] at e
    cases e
end
/-- try: body, except x as n: suite, where all that the body raises is of the class c: what was caught stands on, tracked -/
def wKp (K : PySem.W.Frag) (c : Value) (i : Nat) (ts : Addr → Value → Option Addr → TS) (D : Ends) : WX := fun cls d σ H =>
  PySem.W.exmOne K cls c = some true ∧ ∀ a, H a = none → ts a cls d { nx := fun σ' H' => H' a = none → D.nx (σ'.set i none) (upd H' a (exq a cls d)), rt := fun _ _ => False, bk := fun _ _ => False, ct := fun _ _ => False } (σ.set i (some (.ref a))) H
section
variable {X : Cx} {x n : Str} {c : Value} {i : Nat} {body suite : List Stmt} {b₀ : Stmt} {np pos pos' : Pos} {tb : WX → TS} {ts : Addr → Value → Option Addr → TS}
theorem ps_keep (hs : X.stack = X.env :: X.outer) (hf : X.env.frame = some X.env.locals) (hx : X.ex = []) (hN : X.N.Nodup) (hi : X.N[i]? = some n) (hln : X.env.kindOf n = some .local) (hc : Names X x c)
    (hb : ∀ (W : WX) (pn : List (Addr × Obj)) (xe : Value → Shared → Prop), Takes (X.tr pn xe) W → PassesOwn (model X.prog X.w) X.A X.env xe → PSs (X.tr pn xe) body (tb W))
    (hsu : ∀ (a : Addr) (oe : Obj) (cls : Value) (d : Option Addr) (pn : List (Addr × Obj)), Zc cls d oe → (∃ vs, oe.data = .fields vs) → PSs (X.suite a ((a, oe) :: pn)) (b₀ :: suite) (ts a cls d)) :
    PS X (.Try body [.ExceptHandler (some (.Name x np)) (some n) (b₀ :: suite) pos'] [] [] pos) (fun D σ H => tb (wKp X.K c i ts D) D σ H) := by
  constructor
  intro pins s σ H D I h
  have good := I.ok
  have top : X.A.frames = some (X.env :: X.outer) := by rw [good.frames, hs]
  refine wpAny_Try_except ?_
  refine wpAny_mono ((hb (wKp X.K c i ts D) (X.pn ++ pins) (fun e s₁ => wpAny (model X.prog X.w) X.A (noteFrame e X.env) (fun _ s₂ => wpAny (model X.prog X.w) X.A (setFlight e none) (fun _ s₃ =>
    wpAny (model X.prog X.w) X.A (handleBy e X.env [.ExceptHandler (some (.Name x np)) (some n) (b₀ :: suite) pos']) (SP X pins D) X.xe s₃) X.xe s₂) X.xe s₁) ?held PassesOwn.looking).run [] s σ H D (I.toTry _) h) ?plain fun _ _ z => z
  case plain =>
    intro f s1 end_
    cases f with
    | ret u =>
      obtain ⟨v, σ', H', K, r, q⟩ := end_
      exact ⟨v, σ', H', K.ofTry good, r, q⟩
    | next =>
      obtain ⟨σ', H', K, q⟩ := end_
      exact wpAny_execs_nil ⟨σ', H', K.ofTry good, q⟩
    | cont =>
      obtain ⟨σ', H', K, q⟩ := end_
      exact ⟨σ', H', K.ofTry good, q⟩
    | brk =>
      obtain ⟨σ', H', K, q⟩ := end_
      exact ⟨σ', H', K.ofTry good, q⟩
  case held =>
    rintro u sN ⟨a, B, sI, pins2, σ2, H2, cls, d, rfl, J, ground, up, sky, na, os, ag, match_, go⟩
    have J := J.ofTry good
    have sky : Sky B (X.env :: X.outer) a (Zc cls d) X.env.locals sN.heap := by rw [← hs]; exact sky
    refine Sky.land Zc.steady top hf sky fun h3 fl3 up3 => ?_
    obtain ⟨oe3, fd3, z3, at3, S3, _, _, K3⟩ := flown J ground hs hf hx fl3 (up.trans up3) os ag na
    refine wpAny_handleBy_cons (codeAny_handlers_test ?_) (by intro q; cases q)
    have cl : PySem.W.Looks (model X.prog X.w) h3 (typeOf (.ref a)) cls := fun A Q E s k q => wpAny_typeOf_ref (k _ _ at3) (by rw [z3.1]; exact q)
    have asked : ∀ {Q : Value → Shared → Prop} {E : Value → Shared → Prop}, Q c { sN with heap := h3 } → wpAny (model X.prog X.w) (X.A.mark (some (.ref a))) (eval (.Name x np) X.env) Q E { sN with heap := h3 } := by
      intro Q E q
      obtain ⟨hg, hdbg, hm⟩ := hc
      rcases hm with hm | ⟨hm, hv, hnn⟩
      · exact ld_glob (X := X.suite a ((a, oe3) :: (X.pn ++ pins))) S3 hg hm q hdbg
      · exact ld_blt (X := X.suite a ((a, oe3) :: (X.pn ++ pins))) S3 hg hm hv q hnn hdbg
    refine asked ((PySem.W.exm_one (M := model X.prog X.w) K3.kIn cl match_).here (codeAny_handlers_suite_as (PySem.HandSPX.lands_againZ fl3 fun h4 fl4 up4 => ?_)))
    obtain ⟨oe4, fd4, z4, at4, S4, new4, other4, _⟩ := flown J ground hs hf hx fl4 ((up.trans up3).trans up4) os ag na
    refine store_ok (X := X.suite a ((a, oe4) :: (X.pn ++ pins))) (v := .ref a) S4 hN hi (.inl hln) rfl (fun s5 S5 => ?_) (.inr hln)
    refine wpAny_mono ((hsu a oe4 cls d (X.pn ++ pins) z4 fd4).run [] s5 _ H2 _ S5 (go a na)) ?_ fun _ _ z => z.elim
    intro f s6 end_
    cases f with
    | brk =>
      obtain ⟨_, _, _, z⟩ := end_
      exact z.elim
    | cont =>
      obtain ⟨_, _, _, z⟩ := end_
      exact z.elim
    | ret u =>
      obtain ⟨_, _, _, _, _, z⟩ := end_
      exact z.elim
    | next =>
      obtain ⟨σ6, H6, S6, q6⟩ := end_
      have pinned : L2.Inv X ((a, oe4) :: pins) σ6 H6 s6 := by
        refine ⟨good, S6.os, S6.bare, S6.base, S6.loc, S6.cell, S6.free, S6.freeC, fun p hp => S6.pin p ?_, S6.hok, S6.len⟩
        rw [List.append_nil]
        rcases List.mem_append.mp hp with y | y
        · exact List.mem_cons_of_mem _ (List.mem_append_left _ y)
        · rcases List.mem_cons.mp y with y | y
          · rw [y]; exact List.mem_cons_self
          · exact List.mem_cons_of_mem _ (List.mem_append_right _ y)
      refine gone_ok pinned hN hi hln fun s7 S7 => ?_
      have p7 := S7.pin (a, oe4) (by simp)
      exact ⟨_, _, track S7 new4 other4 (exq_ok p7.1 z4 fd4), q6 p7.2.1⟩
end
end Err
-- part Cq
set_option maxHeartbeats 4000000
/-! A caught error: asked by isinstance, its attribute read. -/
namespace Err
open PySem PySem.Spec PyProof.Rows L2 NdefX
/-- at a a caught error of the class at C, with attributes -/
def QAt (H : Hp) (a C : Addr) (fs : List (Str × V)) : Prop := ∃ d, H a = some (exq a (.ref C) (some d)) ∧ H d = some (.xd fs)
theorem QAt.same {H H' : Hp} {a C : Addr} {fs : List (Str × V)} (h : QAt H a C fs) (s : ∀ b o, H b = some o → H' b = some o) : QAt H' a C fs := by
  obtain ⟨d, e1, e2⟩ := h
  exact ⟨d, s _ _ e1, s _ _ e2⟩
section
variable {X : Cx} {e : Expr} {te : TE} {pos : Pos}
theorem QAt.inst {pins : List (Addr × Obj)} {σ : L2.St} {H : Hp} {s : Shared} {a C : Addr} {fs : List (Str × V)} (I : L2.Inv X pins σ H s) (h : QAt H a C fs) :
    ∃ (ox od : Obj) (mA : Str → Option Value), PySem.W.InstAt s.heap a ox C (some od) ∧ (∀ n, PySem.W.lookIn n od = some (mA n)) ∧ ∀ n, RelO (fs.lookup n) (mA n) := by
  obtain ⟨d, e1, e2⟩ := h
  obtain ⟨⟨oe, vs, ho, z, hd⟩, _, _⟩ := I.hok _ _ e1
  obtain ⟨mA, hns, hr⟩ : ∃ mA, s.heap.Ns1 d mA ∧ ∀ f, RelO (fs.lookup f) (mA f) := I.hok _ _ e2
  obtain ⟨od, hod, hl⟩ := lookIn_ns hns
  refine ⟨oe, od, mA, ⟨ho, z.1, ?_, ?_⟩, hl, hr⟩
  · unfold PySem.W.notCls
    rw [hd]
  · rw [z.2]
    exact hod
def rIsq (K : PySem.W.Frag) : List V → Hp → VK → Prop := fun xs H Q => ∃ (a C : Addr) (fs : List (Str × V)) (c : V) (cv : Value) (b : Bool), xs = [.ref a, c] ∧ QAt H a C fs ∧ Isi K C ∧ ClsV c cv ∧ PySem.W.kitOne K (.ref C) cv = some b ∧ Q (.bl b) H
theorem call_isq : CallR X (.builtin "isinstance") (rIsq X.K) := by
  rintro pins s σ H xs us Q I r ⟨a, C, fs, c, cv, b, rfl, hx, T, hcv, e, q⟩
  obtain ⟨ox, od, mA, J, _, _⟩ := hx.inst I
  cases r with
  | cons rx rs =>
    cases rs with
    | cons rt rn =>
      cases rn
      cases rx
      cases hcv.eq rt
      exact PySem.W.kia_one (PySem.W.kitx_exc T.cl T.ga T.gt T.sb T.ca T.gs T.tk T.ob) I.kIn J e (fun z => nomatch z) fun tk => ⟨.bl b, H, I.kept (t' := tk) fun _ _ z => z, rfl, q⟩
def tAttq (K : PySem.W.Frag) (n : Str) (te : TE) : TE := fun σ H Q => te σ H fun x H1 => ∃ (a C : Addr) (fs : List (Str × V)) (v : V), x = .ref a ∧ QAt H1 a C fs ∧ Isi K C ∧ PySem.W.findIn K (.ref C) n = some none ∧ fs.lookup n = some v ∧ Q v H1
theorem pe_attq {n : Str} (he : PE X e te) (hb : attributeBase e n X.env (eval e X.env) = eval e X.env := by rfl) : PE X (.Attribute e n pos) (tAttq X.K n te) := by
  constructor
  intro pins s σ H Q I h
  refine attr_of hb (thn (he.run pins s σ H _ I h) ?_)
  rintro u s1 ⟨x, H1, I1, rx, a, C, fs, v, ex, hx, T, no, l, q⟩
  subst ex
  obtain rfl : u = Value.ref a := rx
  obtain ⟨ox, od, mA, J, hl, hr⟩ := hx.inst I1
  obtain ⟨w, hw, rw'⟩ := RelO.some_of (v := v) (o := mA n) (by rw [← l]; exact hr n)
  exact PySem.HandSPX.exc_get I1.kIn J T.ga T.gt T.sb (PySem.W.findObj_own T.hd no rfl (by rw [hl n, hw])) (handed_of rw') ⟨v, H1, I1.tok _, rw', q⟩
end
end Err
-- part Cg
set_option maxHeartbeats 4000000
/-! The law's def that calls a lambda and gives back the error that it raises. -/
namespace Err
open PySem PySem.Spec PyProof.Rows L2 NdefX LamX
theorem takes_len {X : Cx} {W : WX} (t : Takes X W) : Takes X (fun cls d σ H => σ.length = X.N.length → W cls d σ H) := by
  rintro u s' ⟨a, B, sI, pins, σ, H, cls, d, e1, I, r1, r2, r3, r4, r5, r6, w⟩
  exact t u s' ⟨a, B, sI, pins, σ, H, cls, d, e1, I, r1, r2, r3, r4, r5, r6, w I.len⟩
/-- what becomes of a lambda: its error, or None -/
def TCaught (K : PySem.W.Frag) (CS : Addr) : (XK → Hp → VK → Prop) → Hp → VK → Prop := fun tl H Q =>
  tl (fun cls d H' => PySem.W.exmOne K cls (.ref CS) = some true ∧ ∀ a, H' a = none → Q (.ref a) (upd H' a (exq a cls d))) H fun _ H' => ∃ v, (some (some V.non) : Option (Option V)) = some (some v) ∧ Q v H'
abbrev NCa : List Str := ["_law_work", "_law_caught_here", "error"]
abbrev sCaught : Stmt := Kn.topS 44
theorem scCa : FnScope NCa ["_law_work"] (defScope sCaught) := ⟨rfl, rfl, rfl, by decide +kernel, rfl, by decide +kernel, by decide +kernel⟩
theorem caught_gives {X : Cx} {q : Str} {g CS : Addr} {cdg : Value} (hme : X.mg "StillError" = some (.ref CS)) : GivesTo X NCa "_law_caught" (defScope sCaught) g cdg (defBody sCaught) "_law_work" q (TCaught X.K CS) := by
  intro f c' s H Q tl act hc h
  refine ⟨_, pss_cons (ps_set (i := 1) scCa.nd rfl (.inl rfl) pe_non)
    (pss_cons (ps_keep (X := (cxOf C8.CX0 X.prog X.w X.K X.mg X.base NCa "_law_caught" (defScope sCaught) g cdg X.A X.stack s H C8.E0).nox) (i := 2) (c := .ref CS)
      (tb := fun W D σ H => ∃ Ech : XK, (∀ cls d σ' H', σ'.length = 3 → Ech cls d H' → W cls d σ' H') ∧ σ[0]? = some (some (.ref f)) ∧ H c' = some (CodeO c' q) ∧ tl Ech H fun _ H' => D.nx σ H')
      rfl rfl rfl scCa.nd rfl rfl ⟨rfl, rfl, .inl hme⟩ (fun W pn xe tk _ => ?_) (fun a oe cls d pn _ _ => pss_one (ps_set (i := 1) scCa.nd rfl (.inl rfl) (pv 2))))
    (pss_one (ps_ret (pv 1)))), ?_⟩
  · constructor
    rintro pins s' σ H' D I ⟨Ech, hW, h1, h2, h3⟩
    exact (pss_one (ps_expr (act (fun cls d σ H => σ.length = 3 → W cls d σ H) pn xe Ech _ _ (takes_len tk) fun cls d σ' H' e hl => hW cls d σ' H' hl e))).run pins s' σ H' D I ⟨h1, h2, h3⟩
  · refine ⟨fun cls d H' => PySem.W.exmOne X.K cls (.ref CS) = some true ∧ ∀ a, H' a = none → Q (.ref a) (upd H' a (exq a cls d)), fun cls d σ' H' hl z => ?_, rfl, hc, h⟩
    obtain ⟨x, y, w, rfl⟩ : ∃ x y w, σ' = [x, y, w] := by
      match σ', hl with
      | [x, y, w], _ => exact ⟨x, y, w, rfl⟩
    exact ⟨z.1, fun a na => ⟨_, rfl, fun na' => ⟨_, rfl, z.2 a na⟩⟩⟩
end Err
-- part TErr
set_option maxHeartbeats 4000000
/-! Errors without attributes: raised, kept, asked by isinstance; check_tuples, check_count, checks_of. -/
namespace Kn
open PySem PySem.Spec PyProof.Rows L2 Err
/-- a class of errors of the package, without an __init__ of its own -/
structure EC (K : PySem.W.Frag) (mg : Str → Option Value) (CS : Addr) (x : Str) (C : Addr) : Prop where
  glob : mg x = some (.ref C)
  kp : PySem.W.keepIn K (.ref C) = true
  ex : PySem.W.excIn K C [.type "ValueError", .type "Exception", .type "BaseException", .type "object"] "ValueError.__new__" = true
  sb : PySem.W.subIn K (.ref C) (.type "BaseException") = some true
  ty : PySem.W.typeIn K (.ref C) = some (.type "type")
  is : Isi K C
  xm : PySem.W.exmOne K (.ref C) (.ref CS) = some true
/-- at a a caught error of the class at C, without a dict -/
def QA0 (H : Hp) (a C : Addr) : Prop := H a = some (exq a (.ref C) none)
section
variable {X : Cx}
theorem QA0.inst {pins : List (Addr × Obj)} {σ : L2.St} {H : Hp} {s : Shared} {a C : Addr} (I : L2.Inv X pins σ H s) (h : QA0 H a C) : ∃ ox : Obj, PySem.W.InstAt s.heap a ox C none := by
  obtain ⟨⟨oe, vs, ho, z, hd⟩, _, _⟩ := I.hok _ _ h
  refine ⟨oe, ⟨ho, z.1, ?_, ?_⟩⟩
  · unfold PySem.W.notCls
    rw [hd]
  · rw [z.2]
    trivial
def rIs0 (K : PySem.W.Frag) : List V → Hp → VK → Prop := fun xs H Q => ∃ (a C : Addr) (c : V) (cv : Value) (b : Bool), xs = [.ref a, c] ∧ QA0 H a C ∧ Isi K C ∧ ClsV c cv ∧ PySem.W.kitOne K (.ref C) cv = some b ∧ Q (.bl b) H
theorem call_is0 : CallR X (.builtin "isinstance") (rIs0 X.K) := by
  rintro pins s σ H xs us Q I r ⟨a, C, c, cv, b, rfl, hx, T, hcv, e, q⟩
  obtain ⟨ox, J⟩ := hx.inst I
  cases r with
  | cons rx rs =>
    cases rs with
    | cons rt rn =>
      cases rn
      cases rx
      cases hcv.eq rt
      exact PySem.W.kia_one (PySem.W.kitx_exc T.cl T.ga T.gt T.sb T.ca T.gs T.tk T.ob) I.kIn J e (fun z => nomatch z) fun tk => ⟨.bl b, H, I.kept (t' := tk) fun _ _ z => z, rfl, q⟩
end
end Kn
-- part TCut
set_option maxHeartbeats 4000000
/-! The heap without the draws and the tables (as in k07); defs whose code object is known. -/
namespace Kn
open PySem PySem.Spec PyProof.Rows L2 Err LamX
theorem valV_out {κ : Type} [DecidableEq κ] {kvs : List (κ × V)} {k : κ} (h : k ∉ kvs.map (·.1)) : valV kvs k = none := by
  unfold valV
  rw [Option.map_eq_none_iff, List.find?_eq_none]
  intro p hp e
  exact h (List.mem_map.mpr ⟨p, hp, of_decide_eq_true e⟩)
def noTbl : Option HO → Option HO
  | some (.tbl _) => none
  | o => o
theorem noTbl_some {u : Option HO} {o : HO} (e : noTbl u = some o) : u = some o ∧ ∀ ps, o ≠ .tbl ps := by
  cases u with
  | none => cases e
  | some v =>
    cases v with
    | tbl ps => cases e
    | _ =>
      refine ⟨e, fun ps z => ?_⟩
      rw [z] at e
      cases e
theorem noTbl_of {o : HO} (n : ∀ ps, o ≠ .tbl ps) : noTbl (some o) = some o := by
  cases o with
  | tbl ps => exact absurd rfl (n ps)
  | _ => rfl
/-- the heap without the draws and the tables of code objects -/
def cut (d l : Addr) (H : Hp) : Hp := fun b => if b = d ∨ b = l then none else noTbl (H b)
theorem cut_ne4 {d l b : Addr} {H : Hp} {o : HO} (e : cut d l H b = some o) : b ≠ d ∧ b ≠ l ∧ H b = some o ∧ ∀ ps, o ≠ .tbl ps := by
  unfold cut at e
  by_cases z : b = d ∨ b = l
  · rw [if_pos z] at e
    cases e
  · rw [if_neg z] at e
    exact ⟨fun q => z (.inl q), fun q => z (.inr q), noTbl_some e⟩
theorem cut_ne {d l b : Addr} {H : Hp} {o : HO} (e : cut d l H b = some o) : b ≠ d ∧ b ≠ l ∧ H b = some o := ⟨(cut_ne4 e).1, (cut_ne4 e).2.1, (cut_ne4 e).2.2.1⟩
theorem cut_le {d l : Addr} {H : Hp} : Same (cut d l H) H := fun b o e => (cut_ne e).2.2
theorem cut_at {d l b : Addr} {H : Hp} {o : HO} (e : H b = some o) (n1 : b ≠ d) (n2 : b ≠ l) (n3 : ∀ ps, o ≠ .tbl ps := by intro _ z; cases z) : cut d l H b = some o := by
  unfold cut
  rw [if_neg (by rintro (z | z); exact n1 z; exact n2 z), e]
  exact noTbl_of n3
/-- all but the draws and the tables -/
def ButN (d l : Addr) (H H' : Hp) : Prop := ∀ b o, H b = some o → b ≠ d → b ≠ l → (∀ ps, o ≠ .tbl ps) → H' b = some o
theorem ButN.cut {d l : Addr} {H H' : Hp} (B : ButN d l H H') : Same (cut d l H) (cut d l H') := fun b o e => by
  obtain ⟨n1, n2, e, n3⟩ := cut_ne4 e
  exact cut_at (B b o e n1 n2 n3) n1 n2 n3
theorem But.n {d l : Addr} {H H' : Hp} (B : But d l H H') : ButN d l H H' := fun b o e h1 h2 _ => B b o e h1 h2
theorem ButN.ext {d l : Addr} {H H' : Hp} (B : LamX.ExtN H H') : ButN d l H H' := fun b o e _ _ n => B b o e n
theorem ButN.refl {d l : Addr} {H : Hp} : ButN d l H H := fun _ _ e _ _ _ => e
theorem ButN.trans {d l : Addr} {H H1 H2 : Hp} (a : ButN d l H H1) (b : ButN d l H1 H2) : ButN d l H H2 := fun x o e h1 h2 n => b x o (a x o e h1 h2 n) h1 h2 n
theorem But.cut {d l : Addr} {H H' : Hp} (B : But d l H H') : Same (Kn.cut d l H) (Kn.cut d l H') := ButN.cut B.n
theorem But.of {d l : Addr} {H H' : Hp} (s : Same H H') : But d l H H' := fun b o e _ _ => s b o e
theorem But.back {d l c : Addr} {H H2 : Hp} {a : Addr} (B : But d l H H2) (D : Drw H2 d l c) (z : H2 a = none) : H a = none := by
  cases w : H a with
  | none => rfl
  | some o =>
    by_cases e1 : a = d
    · obtain ⟨⟨_, _, v⟩, _, _, _⟩ := D
      rw [← e1, z] at v
      cases v
    · by_cases e2 : a = l
      · obtain ⟨_, ⟨_, v⟩, _, _⟩ := D
        rw [← e2, z] at v
        cases v
      · rw [B a o w e1 e2] at z
        cases z
theorem Drw.off {d l c : Addr} {H : Hp} (D : Drw H d l c) {a : Addr} (z : H a = none) : a ≠ d ∧ a ≠ l := by
  refine ⟨fun e => ?_, fun e => ?_⟩
  · obtain ⟨⟨_, _, w⟩, _, _, _⟩ := D
    rw [← e, z] at w
    cases w
  · obtain ⟨_, ⟨_, w⟩, _, _⟩ := D
    rw [← e, z] at w
    cases w
/-- the draws stand in a heap that holds all of this one -/
theorem Drw.same {d l c : Addr} {H H' : Hp} (D : Drw H d l c) (s : Same H H') : Drw H' d l c := by
  obtain ⟨⟨r, t, h⟩, ⟨ns, hl⟩, ⟨ms, hc⟩, n⟩ := D
  exact ⟨⟨r, t, s _ _ h⟩, ⟨ns, s _ _ hl⟩, ⟨ms, s _ _ hc⟩, n⟩
/-- some value -/
def Isx (H : Hp) (v : V) : Prop := ∃ w, Is H v w
theorem Isx.same {H H' : Hp} {v : V} (h : Isx H v) (s : Same H H') : Isx H' v := by
  obtain ⟨w, h⟩ := h
  exact ⟨w, h.same s⟩
theorem isx_int {H : Hp} {i : Int} : Isx H (.int i) := ⟨_, .int i⟩
theorem isx_non {H : Hp} : Isx H .non := ⟨_, .non⟩
theorem isx_bl {H : Hp} {b : Bool} : Isx H (.bl b) := ⟨_, .bl b⟩
theorem isx_str {H : Hp} {x : Str} (h : x.cps.size ≤ 900) (ok : PyData.strOk x = true) : Isx H (.str x) := ⟨_, .str x h ok⟩
theorem isx_all {H : Hp} : ∀ {xs : List V}, (∀ x ∈ xs, Isx H x) → ∃ ws, IsAll H xs ws
  | [], _ => ⟨_, .nil⟩
  | x :: xs, h => by
    obtain ⟨w, hw⟩ := h x (List.mem_cons_self ..)
    obtain ⟨ws, hws⟩ := isx_all (xs := xs) fun y hy => h y (List.mem_cons_of_mem _ hy)
    exact ⟨_, .cons hw hws⟩
theorem isx_lst {H : Hp} {a : Addr} {xs : List V} (e : H a = some (.lst xs)) (z : xs.length ≤ 900) (h : ∀ x ∈ xs, Isx H x) : Isx H (.ref a) := by
  obtain ⟨ws, hw⟩ := isx_all h
  exact ⟨_, .lst z e hw⟩
theorem isx_tup {H : Hp} {a : Addr} {xs : List V} (e : Rd H a (.tup xs)) (z : xs.length ≤ 900) (h : ∀ x ∈ xs, Isx H x) : Isx H (.ref a) := by
  obtain ⟨ws, hw⟩ := isx_all h
  exact ⟨_, .tup z e hw⟩
theorem isx_kv {H : Hp} : ∀ {kvs : List (Key × V)}, (∀ p ∈ kvs, kSm (some p.1) ∧ Isx H p.2) → ∃ kws, IsKV H (kvs.map fun p => (some p.1, p.2)) kws
  | [], _ => ⟨_, .nil⟩
  | p :: kvs, h => by
    obtain ⟨h1, w, hw⟩ := h p (List.mem_cons_self ..)
    obtain ⟨ws, hws⟩ := isx_kv (kvs := kvs) fun y hy => h y (List.mem_cons_of_mem _ hy)
    exact ⟨_, .cons h1 hw hws⟩
theorem isx_dct {H : Hp} {a : Addr} {kvs : List (Key × V)} (e : H a = some (.dK kvs)) (z : kvs.length ≤ 900) (h : ∀ p ∈ kvs, kSm (some p.1) ∧ Isx H p.2) : Isx H (.ref a) := by
  obtain ⟨kws, hw⟩ := isx_kv h
  exact ⟨_, .dct (by rw [List.length_map]; exact z) ⟨kvs, .inl e, rfl⟩ hw⟩
theorem isx_ints {H : Hp} {a : Addr} {ns : List Int} (e : H a = some (.lst (ns.map V.int))) (z : ns.length ≤ 900) : Isx H (.ref a) :=
  isx_lst e (by rw [List.length_map]; exact z) fun x hx => by
    obtain ⟨i, _, rfl⟩ := List.mem_map.mp hx
    exact isx_int
theorem Isx.at {H : Hp} {a : Addr} (h : Isx H (.ref a)) : ∃ o, H a = some o := by
  obtain ⟨w, h⟩ := h
  cases h with
  | lst _ e _ => exact ⟨_, e⟩
  | tup _ e _ => rcases e with e | ⟨o, e⟩ <;> exact ⟨_, e⟩
  | dct _ e _ =>
    obtain ⟨ks, e, _⟩ := e
    rcases e with e | ⟨o, e⟩ <;> exact ⟨_, e⟩
/-! ### dicts -/
theorem mem_putK {κ : Type} [DecidableEq κ] {kvs : List (κ × V)} {k : κ} {v : V} {p : κ × V} (h : p ∈ putK kvs k v) : p = (k, v) ∨ p ∈ kvs := by
  unfold putK at h
  split at h
  · obtain ⟨q, hq, e⟩ := List.mem_map.mp h
    split at e
    · rename_i z
      left
      rw [← e]
      simp_all
    · exact .inr (e ▸ hq)
  · rcases List.mem_append.mp h with z | z
    · exact .inr z
    · exact .inl (List.mem_singleton.mp z)
theorem keys_putK {κ : Type} [DecidableEq κ] {kvs : List (κ × V)} {k : κ} {v : V} : (putK kvs k v).map (·.1) = kvs.map (·.1) ∨ (k ∉ kvs.map (·.1) ∧ (putK kvs k v).map (·.1) = kvs.map (·.1) ++ [k]) := by
  cases e : valV kvs k with
  | none =>
    refine .inr ⟨fun z => ?_, by rw [putK_new v e, List.map_append]; rfl⟩
    obtain ⟨p, hp, hk⟩ := List.mem_map.mp z
    unfold valV at e
    rw [Option.map_eq_none_iff, List.find?_eq_none] at e
    exact e p hp (decide_eq_true hk)
  | some x =>
    left
    unfold putK
    split
    · rw [List.map_map]
      refine List.map_congr_left fun q _ => ?_
      show (if _ then (q.1, v) else q).1 = q.1
      split <;> rfl
    · rename_i h
      unfold valV at e
      obtain ⟨p, hp, _⟩ := Option.map_eq_some_iff.mp e
      have h1 := List.mem_of_find?_eq_some hp
      have h2 := List.find?_some hp
      exact absurd (List.any_eq_true.mpr ⟨p, h1, h2⟩) h
theorem nodup_putK {κ : Type} [DecidableEq κ] {kvs : List (κ × V)} {k : κ} {v : V} (h : (kvs.map (·.1)).Nodup) : ((putK kvs k v).map (·.1)).Nodup := by
  rcases keys_putK (kvs := kvs) (k := k) (v := v) with e | ⟨n, e⟩
  · rw [e]; exact h
  · rw [e]
    refine List.nodup_append.mpr ⟨h, List.nodup_cons.mpr ⟨by simp, List.nodup_nil⟩, fun a ha b hb => ?_⟩
    rw [List.mem_singleton.mp hb]
    intro z
    exact n (z ▸ ha)
section
variable {X : Cx} {f : Value} {r1 r2 : List V → Hp → VK → Prop}
theorem cr_two (h1 : CallR X f r1) (h2 : CallR X f r2) : CallR X f (fun xs H Q => r1 xs H Q ∨ r2 xs H Q) := by
  rintro pins s σ H xs us Q I r q
  rcases q with q | q
  · exact h1 pins s σ H xs us Q I r q
  · exact h2 pins s σ H xs us Q I r q
end
/-- a def whose code object is known -/
structure FunC (K : PySem.W.Frag) (x qual : Str) (st : Stmt) (f : Addr) (fd : FuncData) (c : Addr) : Prop where
  ex : ∃ (oc : Value) (od : Option Addr) (kV doc pm : Value) (an : Option Addr) (ct : Value) (osl : Array (Option Value)),
    fd = PySem.W.fnOf x qual (defArgs st) (defBody st) (defScope st) .none kV doc pm an (.ref c) ct ∧ K.lookup f = some ⟨oc, od, .func fd, osl⟩ ∧ PySem.W.codeIn K (.ref c) qual = true
  kp : PySem.W.keepIn K (.ref f) = true
theorem FunC.toFun {K : PySem.W.Frag} {x qual : Str} {st : Stmt} {f c : Addr} {fd : FuncData} (F : FunC K x qual st f fd c) : Fun K x qual st f fd := by
  obtain ⟨oc, od, kV, doc, pm, an, ct, osl, h1, h2, h3⟩ := F.ex
  exact ⟨⟨oc, od, kV, doc, pm, an, .ref c, ct, osl, h1, h2, h3⟩, F.kp⟩
theorem FunC.ok {P : Program} {w : World} {K : PySem.W.Frag} {mg : Str → Option Value} {base : Heap} {x qual : Str} {st : Stmt} {f c : Addr} {fd : FuncData} {N ps : List Str} {k : Nat} {sp : Sp} (F : FunC K x qual st f fd c) (S : FnScope N ps (defScope st)) (len : ∀ vs H Q E, sp vs H Q E → vs.length = ps.length)
    (hbody : ∀ (A : Around) (outer : List Env) (s : Shared) (H : Hp) (vs : List V) (Q : VK) (E : XK), Room k (A.deeper (envOfC qual (defScope st) s.heap.objs.size f (.ref c))) → sp vs H Q E →
      ∃ t, PSs (cxOf CX0 P w K mg base N qual (defScope st) f (.ref c) A outer s H E).nox (defBody st) t ∧ t { nx := fun _ H' => Q .non H', rt := Q } (start N vs) H) : FnOk P w K mg base CX0 (k + 1) f fd ps sp := by
  obtain ⟨oc, od, kV, doc, pm, an, ct, osl, rfl, lk, hcd⟩ := F.ex
  refine fn_of lk hcd S len fun A outer s H vs Q E hr hsp => ?_
  obtain ⟨t, h, q⟩ := hbody A outer s H vs Q E hr hsp
  exact ⟨t, h.nox, q⟩
/-! ### tables -/
theorem tabs_but {T : List (Addr × Str)} {d l c : Addr} {H H' : Hp} (t : Tabs T H) (D : Drw H d l c) (B : But d l H H') : Tabs T H' := fun p hp => by
  obtain ⟨ps, h1, h2, h3⟩ := t p hp
  obtain ⟨⟨r, tt, hd⟩, ⟨ns, hl⟩, _, _⟩ := D
  have keep : ∀ {b : Addr} {o : HO}, H b = some o → (∀ kvs, o ≠ .dK kvs) → (∀ xs, o ≠ .lst xs) → H' b = some o := fun {b o} e n1 n2 => B b o e (fun z => by rw [z, hd] at e; exact n1 _ (Option.some.inj e).symm) (fun z => by rw [z, hl] at e; exact n2 _ (Option.some.inj e).symm)
  refine ⟨ps, keep h1 (fun _ z => by cases z) (fun _ z => by cases z), h2, fun pos cv hc => ?_⟩
  obtain ⟨c0, e1, e2⟩ := h3 pos cv hc
  exact ⟨c0, e1, keep e2 (fun _ z => by unfold CodeO at z; cases z) (fun _ z => by unfold CodeO at z; cases z)⟩
theorem Drw.extN {d l c : Addr} {H H' : Hp} (D : Drw H d l c) (B : ExtN H H') : Drw H' d l c := by
  obtain ⟨⟨r, t, h⟩, ⟨ns, hl⟩, ⟨ms, hc⟩, n⟩ := D
  exact ⟨⟨r, t, B _ _ h (fun _ z => by cases z)⟩, ⟨ns, B _ _ hl (fun _ z => by cases z)⟩, ⟨ms, B _ _ hc (fun _ z => by cases z)⟩, n⟩
theorem tabs_keep {T : List (Addr × Str)} {H H' : Hp} (t : Tabs T H) (k : ∀ b o, H b = some o → (∀ xs, o ≠ .lst xs) → (∀ C dx fs, o ≠ .ins C dx fs) → H' b = some o) : Tabs T H' := fun p hp => by
  obtain ⟨ps, h1, h2, h3⟩ := t p hp
  refine ⟨ps, k _ _ h1 (fun _ z => by cases z) (fun _ _ _ z => by cases z), h2, fun pos cv hc => ?_⟩
  obtain ⟨c0, e1, e2⟩ := h3 pos cv hc
  exact ⟨c0, e1, k _ _ e2 (fun _ z => by unfold CodeO at z; cases z) (fun _ _ _ z => by unfold CodeO at z; cases z)⟩
def hole (r : Addr) (H : Hp) : Hp := fun b => if b = r then none else H b
theorem hole_at {r b : Addr} {H : Hp} {o : HO} (e : H b = some o) (n : b ≠ r) : hole r H b = some o := by
  unfold hole
  rw [if_neg n]
  exact e
theorem hole_ne {r b : Addr} {H : Hp} {o : HO} (e : hole r H b = some o) : b ≠ r ∧ H b = some o := by
  unfold hole at e
  by_cases z : b = r
  · rw [if_pos z] at e
    cases e
  · rw [if_neg z] at e
    exact ⟨z, e⟩
theorem hole_same {r : Addr} {H H' : Hp} (s : Same H H') : Same (hole r H) (hole r H') := fun b o e => by
  obtain ⟨n, e⟩ := hole_ne e
  exact hole_at (s _ _ e) n
/-- what a value says stands without the tables -/
theorem ext_cut {H H' : Hp} (e : ExtN H H') : Same (fun b => noTbl (H b)) H' := fun b o h => by
  obtain ⟨h1, h2⟩ := noTbl_some h
  exact e b o h1 h2
theorem rd_nt {H : Hp} {a : Addr} {u : HO} (h : Rd H a u) (n : ∀ ps, u ≠ .tbl ps) : Rd (fun b => noTbl (H b)) a u := by
  rcases h with e | ⟨o, e⟩
  · left
    show noTbl (H a) = _
    rw [e]
    exact noTbl_of n
  · right
    refine ⟨o, ?_⟩
    show noTbl (H a) = _
    rw [e]
    rfl
mutual
theorem is_nt {H : Hp} {v : V} {w : W} : Is H v w → Is (fun b => noTbl (H b)) v w
  | .non => .non
  | .bl b => .bl b
  | .int i => .int i
  | .str x h ok => .str x h ok
  | .lst h e t => .lst h (by show noTbl _ = _; rw [e]; rfl) (isA_nt t)
  | .tup h e t => .tup h (rd_nt e (fun _ z => by cases z)) (isA_nt t)
  | .dct h ⟨ks, e, q⟩ t => .dct h ⟨ks, (rd_nt e (fun _ z => by cases z)), q⟩ (isK_nt t)
theorem isA_nt {H : Hp} {v : List V} {w : List W} : IsAll H v w → IsAll (fun b => noTbl (H b)) v w
  | .nil => .nil
  | .cons h t => .cons (is_nt h) (isA_nt t)
theorem isK_nt {H : Hp} {v : List (Option Key × V)} {w : List (Option Key × W)} : IsKV H v w → IsKV (fun b => noTbl (H b)) v w
  | .nil => .nil
  | .cons hk h t => .cons hk (is_nt h) (isK_nt t)
end
theorem is_ext {H H' : Hp} {v : V} {w : W} (h : Is H v w) (e : ExtN H H') : Is H' v w := (is_nt h).same (ext_cut e)
/-! ### rows -/
theorem IsAll.drop {H : Hp} : ∀ {xs : List V} {ws : List W} (i : Nat), IsAll H xs ws → IsAll H (xs.drop i) (ws.drop i)
  | _, _, 0, h => h
  | _, _, _ + 1, .nil => .nil
  | _, _, i + 1, .cons _ t => t.drop i
theorem QAt.n {H H' : Hp} {a C : Addr} {fs : List (Str × V)} (h : QAt H a C fs) (s : ∀ b o, H b = some o → (∀ ps, o ≠ .tbl ps) → (∀ xs, o ≠ .lst xs) → (∀ kvs, o ≠ .dK kvs) → H' b = some o) : QAt H' a C fs := by
  obtain ⟨d, e1, e2⟩ := h
  exact ⟨d, s _ _ e1 (fun _ z => by unfold exq at z; cases z) (fun _ z => by unfold exq at z; cases z) (fun _ z => by unfold exq at z; cases z), s _ _ e2 (fun _ z => by cases z) (fun _ z => by cases z) (fun _ z => by cases z)⟩
theorem QAt.ext {H H' : Hp} {a C : Addr} {fs : List (Str × V)} (h : QAt H a C fs) (e : ExtN H H') : QAt H' a C fs := QAt.n h fun b o w n _ _ => e b o w n
theorem QAt.but {d l c : Addr} {H H' : Hp} {a C : Addr} {fs : List (Str × V)} (h : QAt H a C fs) (D : Drw H d l c) (B : But d l H H') : QAt H' a C fs := QAt.n h fun b o w n1 n2 n3 => by
  obtain ⟨⟨r, tt, hd⟩, ⟨ns, hl⟩, _, _⟩ := D
  exact B b o w (fun z => by rw [z, hd] at w; exact n3 _ (Option.some.inj w).symm) (fun z => by rw [z, hl] at w; exact n2 _ (Option.some.inj w).symm)
theorem small_log {k : Int} (h0 : 0 ≤ k) (h1 : k < 900) : k.natAbs.log2 < 1920 := Nat.lt_of_le_of_lt (Nat.log2_le_self _) (by omega)
end Kn
-- part TNum
set_option maxHeartbeats 4000000
/-! _law_number, _law_power. -/
namespace Kn
open PySem PySem.Spec PyProof.Rows L2 Err
abbrev sLPow : Stmt := topS 49
abbrev NLp : List Str := ["_law_seat", "_law_index", "_law_found", "_law_turn"]
theorem scLp : FnScope NLp ["_law_seat", "_law_index"] (defScope sLPow) := ⟨rfl, rfl, rfl, by decide +kernel, rfl, by decide +kernel, by decide +kernel⟩
section
variable {P : Program} {w : World} {K : PySem.W.Frag} {mg : Str → Option Value} {base : Heap}
theorem ok_lpow {f : Addr} {fd : FuncData} (F : Fun K "_law_power" "_law_power" sLPow f fd) (mr : mg "range" = none) : FnOk P w K mg base CX0 1 f fd ["_law_seat", "_law_index"] spRaised := by
  have S := scLp
  refine F.ok S (fun vs H Q E h => ?_) (fun cdv A outer s H vs Q E hr h => ?_)
  · obtain ⟨n, p, rfl, _⟩ := h
    rfl
  · obtain ⟨n, p, rfl, n1, n2, hp, q⟩ := h
    refine ⟨_, (pss_cons (ps_set (i := 2) S.nd rfl (.inl rfl) pe_int)
      (pss_cons (ps_for PassesOwn.never rfl (pi_range1 (by rfl) mr (pa_cons (pv 1) pa_nil)) (pg_name (i := 3) S.nd rfl (.inl rfl))
        (pss_one (ps_set (i := 2) S.nd rfl (.inl rfl) (pe_op op_mul (pv 2) (pv 0)))))
      (pss_one (ps_ret (pv 2))))), ?_⟩
    refine ⟨_, rfl, p, rfl, by omega, by omega, for_range (fun i σ H1 => ∃ y, σ = [some (.int n), some (.int p), some (.int (n ^ i)), y] ∧ H1 = H) ⟨none, by rw [Int.pow_zero]; rfl, rfl⟩ ?_ ?_⟩
    · rintro i σ H1 hi ⟨y, rfl, rfl⟩
      exact ⟨_, rfl, _, rfl, _, _, rfl, rfl, .inr ⟨n1, n2⟩, _, by rw [Int.pow_succ]; rfl, rfl⟩
    · rintro σ H1 ⟨y, rfl, rfl⟩
      rw [Int.toNat_natCast]
      exact ⟨_, rfl, q⟩
end
end Kn
-- part TKw
set_option maxHeartbeats 4000000
/-! f(k = v, ..): keywords alone. -/
namespace L2
open PySem PySem.Spec PyProof.Rows
section
variable {X : Cx} {CX : CXT} {k : Nat} {f : Addr} {fd : FuncData} {ps ks : List Str} {sp : Sp} {E : XK} {x : Str} {p pos : Pos} {kws : List Keyword} {tk : TA} {g : List Value → List Value → List Value} {gV : List V → List V → List V}
theorem pe_callN0 (F : FnOk X.prog X.w X.K X.mg X.base CX k f fd ps sp) (hr : Room k X.A) (hg : Gl X x) (hm : X.mg x = some (.ref f)) (hk : PySem.W.keepIn X.K (.ref f) = true) (hb : KBn X.K fd ps 0 ks g gV) (hx : Passes CX X E)
    (hkw : PK X kws tk) (hall : (backToKw pos (keywordEach kws X.env)).all (·.1.isSome) = true := by rfl) (hks : (backToKw pos (keywordEach kws X.env)).filterMap (·.1) = ks := by rfl)
    (hdb : (x == ("__debug__" : Str)) = false := by decide)
    (hpl : ((backTo pos (starEach [] X.env)).any (·.1) || (backToKw pos (keywordEach kws X.env)).any (·.1.isNone)) = false := by rfl) :
    PE X (.Call (.Name x p) [] kws pos) (tCallN 0 ks.length sp gV E tNil tk) := by
  refine ⟨fun pins s σ H Q I h => ?_⟩
  refine wpAny_Call_Name_kw (ld_glob I hg hm ?_ hdb)
  refine PySem.W.callWith_KW0 (h₀ := X.base) I.ok.mod.kin hk hall ?_ hpl
  refine thn (hkw.run pos pins s σ H _ I h) fun ws s2 ⟨zs, H2, I2, rz, l1, l2, q2⟩ => ⟨I2.kIn, ?_⟩
  rw [hks]
  exact run_fnN (us := []) (vs := []) F hr hb hx I2 .nil rz rfl l2 q2
end
end L2
-- part UDot
/-! Rows of whole numbers: their worth at a vector; one row taken from another. -/
namespace La
def dotN : List Int → (Nat → Int) → Int
  | [], _ => 0
  | a :: r, y => a * y 0 + dotN r fun k => y (k + 1)
def comb (t d : Int) (r p : List Int) : List Int := List.zipWith (fun x y => t * x - d * y) r p
theorem dot_zero : ∀ {r : List Int} {v : Nat → Int}, (∀ k, k < r.length → r.getD k 0 * v k = 0) → dotN r v = 0
  | [], _, _ => rfl
  | a :: r, v, h => by
    have h0 : a * v 0 = 0 := h 0 (by simp)
    have ih := dot_zero (r := r) (v := fun k => v (k + 1)) fun k hk => h (k + 1) (by simp; omega)
    show a * v 0 + dotN r (fun k => v (k + 1)) = 0
    rw [h0, ih]; rfl
theorem dot_ext : ∀ {r : List Int} {v w : Nat → Int}, (∀ k, k < r.length → v k = w k) → dotN r v = dotN r w
  | [], _, _, _ => rfl
  | a :: r, v, w, h => by
    show a * v 0 + dotN r (fun k => v (k + 1)) = a * w 0 + dotN r (fun k => w (k + 1))
    rw [h 0 (by simp), dot_ext (r := r) (v := fun k => v (k + 1)) (w := fun k => w (k + 1)) fun k hk => h (k + 1) (by simp; omega)]
theorem dot_add : ∀ {r : List Int} {v w : Nat → Int}, dotN r (fun k => v k + w k) = dotN r v + dotN r w
  | [], _, _ => rfl
  | a :: r, v, w => by
    show a * (v 0 + w 0) + dotN r (fun k => v (k + 1) + w (k + 1)) = (a * v 0 + dotN r fun k => v (k + 1)) + (a * w 0 + dotN r fun k => w (k + 1))
    rw [dot_add, Int.mul_add]; omega
theorem dot_smul : ∀ {r : List Int} {c : Int} {v : Nat → Int}, dotN r (fun k => c * v k) = c * dotN r v
  | [], c, _ => by show (0 : Int) = c * 0; rw [Int.mul_zero]
  | a :: r, c, v => by
    show a * (c * v 0) + dotN r (fun k => c * v (k + 1)) = c * (a * v 0 + dotN r fun k => v (k + 1))
    rw [dot_smul, Int.mul_add, Int.mul_left_comm]
theorem dot_one : ∀ {r : List Int} {v : Nat → Int} {i : Nat}, i < r.length → (∀ k, k < r.length → k ≠ i → r.getD k 0 * v k = 0) → dotN r v = r.getD i 0 * v i
  | [], _, _, h, _ => by simp at h
  | a :: r, v, 0, _, h => by
    have ih := dot_zero (r := r) (v := fun k => v (k + 1)) fun k hk => h (k + 1) (by simp; omega) (by omega)
    show a * v 0 + dotN r (fun k => v (k + 1)) = a * v 0
    rw [ih, Int.add_zero]
  | a :: r, v, i + 1, hi, h => by
    have h0 : a * v 0 = 0 := h 0 (by simp) (by omega)
    have ih := dot_one (r := r) (v := fun k => v (k + 1)) (i := i) (by simpa using hi) fun k hk ne => h (k + 1) (by simp; omega) (by omega)
    show a * v 0 + dotN r (fun k => v (k + 1)) = r.getD i 0 * v (i + 1)
    rw [h0, ih, Int.zero_add]
theorem dot_two {r : List Int} {v : Nat → Int} {i p : Nat} (hi : i < r.length) (hp : p < r.length) (ne : i ≠ p) (h : ∀ k, k < r.length → k ≠ i → k ≠ p → r.getD k 0 * v k = 0) : dotN r v = r.getD i 0 * v i + r.getD p 0 * v p := by
  have e : v = fun k => (if k = i then v i else 0) + (if k = i then 0 else v k) := by
    funext k
    by_cases c : k = i
    · subst c; simp
    · simp [c]
  rw [e, dot_add]
  have e1 : dotN r (fun k => if k = i then v i else 0) = r.getD i 0 * v i := by
    rw [dot_one hi fun k hk n => by simp [n]]
    simp
  have e2 : dotN r (fun k => if k = i then 0 else v k) = r.getD p 0 * v p := by
    rw [dot_one hp fun k hk n => by
      by_cases c : k = i
      · simp [c]
      · simp only [if_neg c]; exact h k hk c n]
    simp [Ne.symm ne]
  rw [e1, e2]
  simp [Ne.symm ne]
theorem dot_comb : ∀ {r p : List Int} {t d : Int} {v : Nat → Int}, r.length = p.length → dotN (comb t d r p) v = t * dotN r v - d * dotN p v
  | [], [], t, d, _, _ => by show (0 : Int) = t * 0 - d * 0; rw [Int.mul_zero, Int.mul_zero]; rfl
  | a :: r, b :: p, t, d, v, h => by
    have ih := dot_comb (r := r) (p := p) (t := t) (d := d) (v := fun k => v (k + 1)) (by simpa using h)
    show (t * a - d * b) * v 0 + dotN (comb t d r p) (fun k => v (k + 1)) = t * (a * v 0 + dotN r fun k => v (k + 1)) - d * (b * v 0 + dotN p fun k => v (k + 1))
    rw [ih, Int.sub_mul, Int.mul_add, Int.mul_add, Int.mul_assoc, Int.mul_assoc]
    omega
  | [], _ :: _, _, _, _, h => by simp at h
  | _ :: _, [], _, _, _, h => by simp at h
theorem dot_scale : ∀ {r : List Int} {c : Int} {v : Nat → Int}, dotN (r.map fun x => c * x) v = c * dotN r v
  | [], c, _ => by show (0 : Int) = c * 0; rw [Int.mul_zero]
  | a :: r, c, v => by
    show c * a * v 0 + dotN (r.map fun x => c * x) (fun k => v (k + 1)) = c * (a * v 0 + dotN r fun k => v (k + 1))
    rw [dot_scale, Int.mul_add, Int.mul_assoc]
theorem dot_app : ∀ {r s : List Int} {v : Nat → Int}, dotN (r ++ s) v = dotN r v + dotN s fun k => v (r.length + k)
  | [], s, v => by
    show dotN s v = 0 + dotN s (fun k => v (0 + k))
    rw [Int.zero_add]
    exact dot_ext fun k _ => by rw [Nat.zero_add]
  | a :: r, s, v => by
    show a * v 0 + dotN (r ++ s) (fun k => v (k + 1)) = (a * v 0 + dotN r fun k => v (k + 1)) + dotN s fun k => v (r.length + 1 + k)
    rw [dot_app, Int.add_assoc]
    congr 2
    exact dot_ext fun k _ => by congr 1; omega
theorem comb_len {t d : Int} {r p : List Int} (h : r.length = p.length) : (comb t d r p).length = r.length := by
  unfold comb
  rw [List.length_zipWith]; omega
theorem comb_at {t d : Int} {r p : List Int} {k : Nat} (h : r.length = p.length) : (comb t d r p).getD k 0 = t * r.getD k 0 - d * p.getD k 0 := by
  unfold comb
  rw [List.getD_eq_getElem?_getD, List.getD_eq_getElem?_getD, List.getD_eq_getElem?_getD, List.getElem?_zipWith]
  by_cases c : k < r.length
  · rw [List.getElem?_eq_getElem c, List.getElem?_eq_getElem (by omega)]; rfl
  · rw [List.getElem?_eq_none (by omega), List.getElem?_eq_none (by omega)]; simp
/-- r is c times s, c is over 0 -/
def Scl (r s : List Int) : Prop := ∃ c : Int, 0 < c ∧ r = s.map fun x => c * x
theorem Scl.refl (r : List Int) : Scl r r := ⟨1, by decide, by
  refine ((List.map_congr_left fun x _ => Int.one_mul x).trans (List.map_id r)).symm⟩
theorem Scl.len {r s : List Int} (h : Scl r s) : s.length = r.length := by
  obtain ⟨c, _, rfl⟩ := h
  rw [List.length_map]
theorem Scl.dot {r s : List Int} (h : Scl r s) (v : Nat → Int) : dotN s v = 0 ↔ dotN r v = 0 := by
  obtain ⟨c, hc, rfl⟩ := h
  rw [dot_scale]
  constructor
  · intro z; rw [z, Int.mul_zero]
  · intro z
    rcases Int.mul_eq_zero.mp z with z | z
    · omega
    · exact z
theorem Scl.at0 {r s : List Int} (h : Scl r s) (k : Nat) : s.getD k 0 = 0 ↔ r.getD k 0 = 0 := by
  obtain ⟨c, hc, rfl⟩ := h
  have e : (s.map fun x => c * x).getD k 0 = c * s.getD k 0 := by
    rw [List.getD_eq_getElem?_getD, List.getD_eq_getElem?_getD, List.getElem?_map]
    cases s[k]? <;> simp
  rw [e]
  constructor
  · intro z; rw [z, Int.mul_zero]
  · intro z
    rcases Int.mul_eq_zero.mp z with z | z
    · omega
    · exact z
end La
-- part UElim
/-! Rows freed of one another, as `solved` does it. -/
namespace La
def gcdL (r : List Int) : Nat := r.foldl (fun g x => Nat.gcd g x.natAbs) 0
def smallF (r : List Int) : List Int := if gcdL r = 0 then r else r.map fun x => x / ((gcdL r : Nat) : Int)
theorem foldg_dvd : ∀ (r : List Int) (g : Nat), (r.foldl (fun g x => Nat.gcd g x.natAbs) g ∣ g) ∧ ∀ x ∈ r, ((r.foldl (fun g x => Nat.gcd g x.natAbs) g : Nat) : Int) ∣ x
  | [], g => ⟨Nat.dvd_refl g, fun x hx => by cases hx⟩
  | a :: r, g => by
    obtain ⟨h1, h2⟩ := foldg_dvd r (Nat.gcd g a.natAbs)
    refine ⟨Nat.dvd_trans h1 (Nat.gcd_dvd_left _ _), fun x hx => ?_⟩
    rcases List.mem_cons.mp hx with rfl | hx
    · exact Int.ofNat_dvd_left.mpr (Nat.dvd_trans h1 (Nat.gcd_dvd_right _ _))
    · exact h2 x hx
theorem gcdL_dvd {r : List Int} {x : Int} (h : x ∈ r) : ((gcdL r : Nat) : Int) ∣ x := (foldg_dvd r 0).2 x h
theorem scl_div {r : List Int} {g : Nat} (h0 : g ≠ 0) (h : ∀ x ∈ r, ((g : Nat) : Int) ∣ x) : Scl r (r.map fun x => x / ((g : Nat) : Int)) := by
  refine ⟨(g : Nat), by omega, ?_⟩
  rw [List.map_map]
  refine ((List.map_congr_left fun x hx => ?_).trans (List.map_id r)).symm
  exact Int.mul_ediv_cancel' (h x hx)
theorem small_scl (r : List Int) : Scl r (smallF r) := by
  unfold smallF
  split
  · exact Scl.refl r
  · rename_i h
    exact scl_div h fun x hx => gcdL_dvd hx
theorem foldg_one : ∀ (r : List Int), r.foldl (fun g x => Nat.gcd g x.natAbs) 1 = 1
  | [] => rfl
  | a :: r => by
    rw [List.foldl_cons, Nat.gcd_one_left]
    exact foldg_one r
/-- made_small may stop early -/
theorem small_early {r : List Int} {i : Nat} (h : (r.take i).foldl (fun g x => Nat.gcd g x.natAbs) 0 = 1) : smallF r = r := by
  have e : gcdL r = 1 := by
    unfold gcdL
    rw [← List.take_append_drop i r, List.foldl_append, h, foldg_one]
  unfold smallF
  rw [e, if_neg (by decide)]
  refine (List.map_congr_left fun x _ => ?_).trans (List.map_id r)
  exact Int.ediv_one x
abbrev at2 (L : List (List Int)) (i q : Nat) : Int := (L.getD i []).getD q 0
structure Mat (m n : Nat) (L : List (List Int)) : Prop where
  len : L.length = m
  row : ∀ r ∈ L, r.length = n
theorem Mat.at_ {m n : Nat} {L : List (List Int)} (h : Mat m n L) {i : Nat} (hi : i < m) : (L.getD i []).length = n ∧ L.getD i [] ∈ L := by
  have hl : i < L.length := by rw [h.len]; exact hi
  have e : L.getD i [] = L[i] := by rw [List.getD_eq_getElem?_getD, List.getElem?_eq_getElem hl]; rfl
  rw [e]
  exact ⟨h.row _ (List.getElem_mem hl), List.getElem_mem hl⟩
theorem Mat.mem {m n : Nat} {L : List (List Int)} (h : Mat m n L) {r : List Int} (hr : r ∈ L) : ∃ i, i < m ∧ r = L.getD i [] := by
  obtain ⟨i, hi, e⟩ := List.getElem_of_mem hr
  refine ⟨i, by rw [← h.len]; exact hi, ?_⟩
  rw [List.getD_eq_getElem?_getD, List.getElem?_eq_getElem hi, ← e]; rfl
def Sol (L : List (List Int)) (v : Nat → Int) : Prop := ∀ r ∈ L, dotN r v = 0
theorem Mat.sol {m n : Nat} {L : List (List Int)} (h : Mat m n L) {v : Nat → Int} : Sol L v ↔ ∀ i, i < m → dotN (L.getD i []) v = 0 :=
  ⟨fun z i hi => z _ (h.at_ hi).2, fun z r hr => by
    obtain ⟨i, hi, rfl⟩ := h.mem hr
    exact z i hi⟩
structure Inv (m n : Nat) (L0 L : List (List Int)) (p : Nat) : Prop where
  mat : Mat m n L
  mn : m ≤ n
  off : ∀ i q, i < m → q < p → i ≠ q → at2 L i q = 0
  on : ∀ q, q < p → at2 L q q ≠ 0
  sol : ∀ v, Sol L v ↔ Sol L0 v
  pm : p ≤ m
/-- nothing but 0 is told by zeros -/
def Ns (m : Nat) (L0 : List (List Int)) : Prop := ∀ v, Sol L0 v → (∀ k, m ≤ k → v k = 0) → ∀ k, k < m → v k = 0
def prodD (L : List (List Int)) : Nat → Int
  | 0 => 1
  | q + 1 => prodD L q * at2 L q q
theorem prod_ne {L : List (List Int)} : ∀ {p : Nat}, (∀ q, q < p → at2 L q q ≠ 0) → prodD L p ≠ 0
  | 0, _ => by show (1 : Int) ≠ 0; decide
  | p + 1, h => Int.mul_ne_zero (prod_ne fun q hq => h q (by omega)) (h p (by omega))
theorem prod_dvd {L : List (List Int)} : ∀ {p q : Nat}, q < p → at2 L q q ∣ prodD L p
  | 0, _, h => by omega
  | p + 1, q, h => by
    show at2 L q q ∣ prodD L p * at2 L p p
    by_cases c : q = p
    · rw [c]; exact Int.dvd_mul_left _ _
    · exact Int.dvd_trans (prod_dvd (by omega)) (Int.dvd_mul_right _ _)
theorem pivot_ex {m n p : Nat} {L0 L : List (List Int)} (h : Inv m n L0 L p) (ns : Ns m L0) (pm : p < m) : ∃ a, p ≤ a ∧ a < m ∧ at2 L a p ≠ 0 := by
  apply Classical.byContradiction
  intro no
  have z : ∀ a, p ≤ a → a < m → at2 L a p = 0 := fun a h1 h2 => Classical.byContradiction fun c => no ⟨a, h1, h2, c⟩
  have D := prod_ne h.on
  let v : Nat → Int := fun k => if k < p then -(prodD L p / at2 L k k * at2 L k p) else if k = p then prodD L p else 0
  have vp : v p = prodD L p := by show (if p < p then _ else if p = p then _ else _) = _; rw [if_neg (Nat.lt_irrefl p), if_pos rfl]
  have vg : ∀ k, p < k → v k = 0 := fun k hk => by show (if k < p then _ else if k = p then _ else _) = _; rw [if_neg (by omega), if_neg (by omega)]
  have s : Sol L v := h.mat.sol.mpr fun i hi => by
    have li := (h.mat.at_ hi).1
    have mn := h.mn
    by_cases c : i < p
    · rw [dot_two (i := i) (p := p) (by omega) (by omega) (by omega) fun k hk n1 n2 => by
        by_cases e : k < p
        · have y : at2 L i k = 0 := h.off i k hi e (by omega)
          show at2 L i k * v k = 0
          rw [y, Int.zero_mul]
        · rw [vg k (by omega), Int.mul_zero]]
      show at2 L i i * v i + at2 L i p * v p = 0
      have vi : v i = -(prodD L p / at2 L i i * at2 L i p) := if_pos c
      rw [vi, vp, Int.mul_neg, ← Int.mul_assoc, Int.mul_ediv_cancel' (prod_dvd c), Int.mul_comm (at2 L i p)]
      omega
    · refine dot_zero fun k hk => ?_
      by_cases e : k < p
      · have y : at2 L i k = 0 := h.off i k hi e (by omega)
        show at2 L i k * v k = 0
        rw [y, Int.zero_mul]
      · by_cases e2 : k = p
        · have y : at2 L i p = 0 := z i (by omega) hi
          rw [e2]
          show at2 L i p * v p = 0
          rw [y, Int.zero_mul]
        · rw [vg k (by omega), Int.mul_zero]
  have y := ns v ((h.sol v).mp s) (fun k hk => vg k (by omega)) p pm
  rw [vp] at y
  exact D y
/-! ### two rows change places -/
theorem getD_set {L : List (List Int)} {i k : Nat} {x : List Int} (hi : i < L.length) : (L.set i x).getD k [] = if k = i then x else L.getD k [] := by
  rw [List.getD_eq_getElem?_getD, List.getD_eq_getElem?_getD, List.getElem?_set]
  by_cases c : i = k
  · rw [if_pos c, if_pos c.symm, if_pos hi]; rfl
  · rw [if_neg c, if_neg (fun e => c e.symm)]
def swapL (L : List (List Int)) (p a : Nat) : List (List Int) := (L.set p (L.getD a [])).set a (L.getD p [])
theorem swap_at {L : List (List Int)} {p a k : Nat} (hp : p < L.length) (ha : a < L.length) : (swapL L p a).getD k [] = if k = a then L.getD p [] else if k = p then L.getD a [] else L.getD k [] := by
  unfold swapL
  rw [getD_set (by rw [List.length_set]; exact ha), getD_set hp]
theorem swap_inv {m n p a : Nat} {L0 L : List (List Int)} (h : Inv m n L0 L p) (pa : p ≤ a) (am : a < m) : Inv m n L0 (swapL L p a) p ∧ at2 (swapL L p a) p p = at2 L a p := by
  have hl := h.mat.len
  have e : ∀ k, (swapL L p a).getD k [] = if k = a then L.getD p [] else if k = p then L.getD a [] else L.getD k [] := fun k => swap_at (by omega) (by omega)
  have M : Mat m n (swapL L p a) := by
    refine ⟨by unfold swapL; rw [List.length_set, List.length_set]; exact hl, fun r hr => ?_⟩
    unfold swapL at hr
    rcases List.mem_or_eq_of_mem_set hr with hr | rfl
    · rcases List.mem_or_eq_of_mem_set hr with hr | rfl
      · exact h.mat.row r hr
      · exact (h.mat.at_ am).1
    · exact (h.mat.at_ (by omega)).1
  refine ⟨⟨M, h.mn, fun i q hi hq ne => ?_, fun q hq => ?_, fun v => ?_, h.pm⟩, ?_⟩
  · show ((swapL L p a).getD i []).getD q 0 = 0
    rw [e]
    by_cases c : i = a
    · rw [if_pos c]; exact h.off p q (by omega) hq (by omega)
    · rw [if_neg c]
      by_cases c2 : i = p
      · rw [if_pos c2]; exact h.off a q am hq (by omega)
      · rw [if_neg c2]; exact h.off i q hi hq ne
  · show ((swapL L p a).getD q []).getD q 0 ≠ 0
    rw [e, if_neg (by omega), if_neg (by omega)]
    exact h.on q hq
  · rw [← h.sol v, M.sol, h.mat.sol]
    constructor
    · intro z i hi
      by_cases c : i = a
      · have y := z p (by omega)
        rw [e] at y
        by_cases c2 : p = a
        · rw [if_pos c2] at y; rw [c, ← c2]; exact y
        · rw [if_neg c2, if_pos rfl] at y; rw [c]; exact y
      · by_cases c2 : i = p
        · have y := z a am
          rw [e, if_pos rfl] at y
          rw [c2]; exact y
        · have y := z i hi
          rw [e, if_neg c, if_neg c2] at y
          exact y
    · intro z i hi
      rw [e]
      split
      · exact z p (by omega)
      · split
        · exact z a am
        · exact z i hi
  · show ((swapL L p a).getD p []).getD p 0 = _
    rw [e]
    by_cases c : p = a
    · rw [if_pos c, c]
    · rw [if_neg c, if_pos rfl]
/-! ### one row freed of the pivot -/
def stepF (pv r : List Int) (p : Nat) : List Int :=
  let g : Nat := Nat.gcd (pv.getD p 0).natAbs (r.getD p 0).natAbs
  smallF (comb (pv.getD p 0 / (g : Nat)) (r.getD p 0 / (g : Nat)) r pv)
def innerF (p : Nat) (L : List (List Int)) (a : Nat) : List (List Int) := if a ≠ p ∧ at2 L a p ≠ 0 then L.set a (stepF (L.getD p []) (L.getD a []) p) else L
theorem step_ok {pv r : List Int} {p : Nat} (hp : pv.getD p 0 ≠ 0) : ∃ t d : Int, t ≠ 0 ∧ t * r.getD p 0 - d * pv.getD p 0 = 0 ∧ Scl (comb t d r pv) (stepF pv r p) := by
  refine ⟨_, _, ?_, ?_, small_scl _⟩
  · have g1 : (Nat.gcd (pv.getD p 0).natAbs (r.getD p 0).natAbs) ≠ 0 := fun z => by
      have := Nat.eq_zero_of_gcd_eq_zero_left z
      omega
    have dv : ((Nat.gcd (pv.getD p 0).natAbs (r.getD p 0).natAbs : Nat) : Int) ∣ pv.getD p 0 := Int.ofNat_dvd_left.mpr (Nat.gcd_dvd_left _ _)
    intro z
    have y := Int.ediv_mul_cancel dv
    rw [z, Int.zero_mul] at y
    exact hp y.symm
  · have d1 : ((Nat.gcd (pv.getD p 0).natAbs (r.getD p 0).natAbs : Nat) : Int) ∣ pv.getD p 0 := Int.ofNat_dvd_left.mpr (Nat.gcd_dvd_left _ _)
    have d2 : ((Nat.gcd (pv.getD p 0).natAbs (r.getD p 0).natAbs : Nat) : Int) ∣ r.getD p 0 := Int.ofNat_dvd_left.mpr (Nat.gcd_dvd_right _ _)
    have e1 := Int.ediv_mul_cancel d1
    have e2 := Int.ediv_mul_cancel d2
    generalize pv.getD p 0 / ((Nat.gcd (pv.getD p 0).natAbs (r.getD p 0).natAbs : Nat) : Int) = s at e1 ⊢
    generalize r.getD p 0 / ((Nat.gcd (pv.getD p 0).natAbs (r.getD p 0).natAbs : Nat) : Int) = u at e2 ⊢
    generalize ((Nat.gcd (pv.getD p 0).natAbs (r.getD p 0).natAbs : Nat) : Int) = g at e1 e2
    rw [← e1, ← e2, ← Int.mul_assoc, ← Int.mul_assoc, Int.mul_comm u s]
    omega
structure InvI (m n : Nat) (L0 L : List (List Int)) (p a : Nat) : Prop where
  inv : Inv m n L0 L p
  pv : at2 L p p ≠ 0
  done : ∀ i, i < a → i ≠ p → at2 L i p = 0
theorem inner_step {m n p a : Nat} {L0 L : List (List Int)} (h : InvI m n L0 L p a) (pm : p < m) (am : a < m) : InvI m n L0 (innerF p L a) p (a + 1) ∧ (innerF p L a).getD p [] = L.getD p [] := by
  have hl := h.inv.mat.len
  unfold innerF
  by_cases c : a ≠ p ∧ at2 L a p ≠ 0
  · rw [if_pos c]
    obtain ⟨t, d, t0, ez, sc⟩ := step_ok (pv := L.getD p []) (r := L.getD a []) (p := p) h.pv
    have lp := (h.inv.mat.at_ pm).1
    have la := (h.inv.mat.at_ am).1
    have ln : (stepF (L.getD p []) (L.getD a []) p).length = n := by rw [sc.len, comb_len (by omega)]; exact la
    have e : ∀ k, (L.set a (stepF (L.getD p []) (L.getD a []) p)).getD k [] = if k = a then stepF (L.getD p []) (L.getD a []) p else L.getD k [] := fun k => getD_set (by omega)
    have col : ∀ q, (stepF (L.getD p []) (L.getD a []) p).getD q 0 = 0 ↔ t * at2 L a q - d * at2 L p q = 0 := fun q => by
      rw [sc.at0, comb_at (by omega)]
    have M : Mat m n (L.set a (stepF (L.getD p []) (L.getD a []) p)) := ⟨by rw [List.length_set]; exact hl, fun r hr => by
      rcases List.mem_or_eq_of_mem_set hr with hr | rfl
      · exact h.inv.mat.row r hr
      · exact ln⟩
    refine ⟨⟨⟨M, h.inv.mn, fun i q hi hq ne => ?_, fun q hq => ?_, fun v => ?_, h.inv.pm⟩, ?_, fun i hi ne => ?_⟩, by rw [e, if_neg c.1.symm]⟩
    · show ((L.set a _).getD i []).getD q 0 = 0
      rw [e]
      by_cases c2 : i = a
      · rw [if_pos c2, col, h.inv.off p q pm hq (by omega), h.inv.off a q am hq (by omega)]
        omega
      · rw [if_neg c2]; exact h.inv.off i q hi hq ne
    · show ((L.set a _).getD q []).getD q 0 ≠ 0
      rw [e]
      by_cases c2 : q = a
      · rw [if_pos c2]
        intro z
        have y := (col q).mp z
        rw [h.inv.off p q pm hq (by omega), Int.mul_zero, Int.sub_zero] at y
        rcases Int.mul_eq_zero.mp y with y | y
        · exact t0 y
        · rw [← c2] at y; exact h.inv.on q hq y
      · rw [if_neg c2]; exact h.inv.on q hq
    · rw [← h.inv.sol v, M.sol, h.inv.mat.sol]
      have key : dotN (L.getD p []) v = 0 → (dotN (stepF (L.getD p []) (L.getD a []) p) v = 0 ↔ dotN (L.getD a []) v = 0) := fun z => by
        rw [sc.dot, dot_comb (by omega), z, Int.mul_zero, Int.sub_zero]
        constructor
        · intro y
          rcases Int.mul_eq_zero.mp y with y | y
          · exact absurd y t0
          · exact y
        · intro y; rw [y, Int.mul_zero]
      have pz : ∀ (z : ∀ i, i < m → dotN ((L.set a (stepF (L.getD p []) (L.getD a []) p)).getD i []) v = 0), dotN (L.getD p []) v = 0 := fun z => by
        have y := z p pm
        rw [e, if_neg c.1.symm] at y
        exact y
      constructor
      · intro z i hi
        by_cases c2 : i = a
        · have y := z a am
          rw [e, if_pos rfl] at y
          rw [c2]; exact (key (pz z)).mp y
        · have y := z i hi
          rw [e, if_neg c2] at y
          exact y
      · intro z i hi
        rw [e]
        split
        · exact (key (z p pm)).mpr (z a am)
        · exact z i hi
    · show ((L.set a _).getD p []).getD p 0 ≠ 0
      rw [e, if_neg c.1.symm]; exact h.pv
    · show ((L.set a _).getD i []).getD p 0 = 0
      rw [e]
      by_cases c2 : i = a
      · rw [if_pos c2, col]; exact ez
      · rw [if_neg c2]; exact h.done i (by omega) ne
  · rw [if_neg c]
    refine ⟨⟨h.inv, h.pv, fun i hi ne => ?_⟩, rfl⟩
    by_cases c2 : i = a
    · rw [c2]
      exact Classical.byContradiction fun z => c ⟨by omega, z⟩
    · exact h.done i (by omega) ne
theorem inner_done {m n p : Nat} {L0 L : List (List Int)} (h : InvI m n L0 L p m) (pm : p < m) : Inv m n L0 L (p + 1) := by
  refine ⟨h.inv.mat, h.inv.mn, fun i q hi hq ne => ?_, fun q hq => ?_, h.inv.sol, by omega⟩
  · by_cases c : q = p
    · rw [c]; exact h.done i hi (by omega)
    · exact h.inv.off i q hi (by omega) ne
  · by_cases c : q = p
    · rw [c]; exact h.pv
    · exact h.inv.on q (by omega)
theorem inv_start {m n : Nat} {L : List (List Int)} (M : Mat m n L) (mn : m ≤ n) : Inv m n L L 0 := ⟨M, mn, fun _ _ _ h => by omega, fun _ h => by omega, fun _ => Iff.rfl, Nat.zero_le _⟩
/-- what the freed rows tell -/
theorem freed_tell {m n : Nat} {L0 L : List (List Int)} (h : Inv m n L0 L m) {x : Nat → Int} {dv : Int} {j : Nat} (hj : m + j < n) (hx : ∀ i, i < m → at2 L i i * x i = dv * at2 L i (m + j)) :
    ∀ r ∈ L0, dotN r (fun k => if k < m then x k else if k = m + j then -dv else 0) = 0 := by
  have s : Sol L (fun k => if k < m then x k else if k = m + j then -dv else 0) := h.mat.sol.mpr fun i hi => by
    have li := (h.mat.at_ hi).1
    rw [dot_two (i := i) (p := m + j) (by omega) (by omega) (by omega) fun k hk n1 n2 => by
      by_cases e : k < m
      · have y : at2 L i k = 0 := h.off i k hi e (by omega)
        show at2 L i k * _ = 0
        rw [y, Int.zero_mul]
      · rw [if_neg e, if_neg n2, Int.mul_zero]]
    rw [if_pos hi, if_neg (by omega), if_pos rfl]
    have y := hx i hi
    show at2 L i i * x i + at2 L i (m + j) * -dv = 0
    rw [y, Int.mul_neg, Int.mul_comm dv]
    omega
  exact (h.sol _).mp s
end La
-- part UFree
/-! Rows freed of one another, as the law does it. -/
namespace La
abbrev Brow : Type := Nat × List Int
def normF (r : List Int) : List Int := if 1 < gcdL r then r.map fun x => x / ((gcdL r : Nat) : Int) else r
theorem norm_scl (r : List Int) : Scl r (normF r) := by
  unfold normF
  split
  · exact scl_div (by omega) fun x hx => gcdL_dvd hx
  · exact Scl.refl r
def lessStep (f : List Int) (b : Brow) : List Int := if f.getD b.1 0 ≠ 0 then normF (comb (b.2.getD b.1 0) (f.getD b.1 0) f b.2) else f
def lessF (v : List Int) (base : List Brow) : List Int := base.foldl lessStep v
def Solb (F : List Brow) (v : Nat → Int) : Prop := ∀ b ∈ F, dotN b.2 v = 0
/-- free of one another, each with nothing ahead of its own place -/
structure Rf (n : Nat) (F : List Brow) : Prop where
  len : ∀ b ∈ F, b.2.length = n
  lt : ∀ b ∈ F, b.1 < n
  on : ∀ b ∈ F, b.2.getD b.1 0 ≠ 0
  off : ∀ b ∈ F, ∀ c ∈ F, b.1 ≠ c.1 → b.2.getD c.1 0 = 0
  ech : ∀ b ∈ F, ∀ k, k < b.1 → b.2.getD k 0 = 0
  nd : (F.map (·.1)).Nodup
theorem step_len {f : List Int} {b : Brow} (h : f.length = b.2.length) : (lessStep f b).length = f.length := by
  unfold lessStep
  split
  · rw [(norm_scl _).len, comb_len h]
  · rfl
theorem step_at {f : List Int} {b : Brow} (h : f.length = b.2.length) (q : Nat) : (lessStep f b).getD q 0 = 0 ↔ (f.getD b.1 0 ≠ 0 → b.2.getD b.1 0 * f.getD q 0 - f.getD b.1 0 * b.2.getD q 0 = 0) ∧ (f.getD b.1 0 = 0 → f.getD q 0 = 0) := by
  unfold lessStep
  by_cases c : f.getD b.1 0 ≠ 0
  · rw [if_pos c, (norm_scl _).at0, comb_at h]
    exact ⟨fun z => ⟨fun _ => z, fun y => absurd y c⟩, fun z => z.1 c⟩
  · rw [if_neg c]
    exact ⟨fun z => ⟨fun y => absurd y c, fun _ => z⟩, fun z => z.2 (Classical.byContradiction c)⟩
theorem step_own {f : List Int} {b : Brow} (h : f.length = b.2.length) : (lessStep f b).getD b.1 0 = 0 :=
  (step_at h _).mpr ⟨fun _ => by rw [Int.mul_comm]; omega, fun z => z⟩
theorem step_keep {f : List Int} {b : Brow} {q : Nat} (h : f.length = b.2.length) (z : b.2.getD q 0 = 0) (y : f.getD q 0 = 0) : (lessStep f b).getD q 0 = 0 :=
  (step_at h _).mpr ⟨fun _ => by rw [z, y, Int.mul_zero, Int.mul_zero]; rfl, fun _ => y⟩
theorem step_ne {f : List Int} {b : Brow} {q : Nat} (h : f.length = b.2.length) (n0 : b.2.getD b.1 0 ≠ 0) (z : b.2.getD q 0 = 0) (y : f.getD q 0 ≠ 0) : (lessStep f b).getD q 0 ≠ 0 := fun e => by
  obtain ⟨e1, e2⟩ := (step_at h _).mp e
  by_cases c : f.getD b.1 0 = 0
  · exact y (e2 c)
  · have x := e1 c
    rw [z, Int.mul_zero, Int.sub_zero] at x
    rcases Int.mul_eq_zero.mp x with x | x
    · exact n0 x
    · exact y x
theorem step_dot {f : List Int} {b : Brow} {v : Nat → Int} (h : f.length = b.2.length) (n0 : b.2.getD b.1 0 ≠ 0) (z : dotN b.2 v = 0) : dotN (lessStep f b) v = 0 ↔ dotN f v = 0 := by
  unfold lessStep
  split
  · rw [(norm_scl _).dot, dot_comb h, z, Int.mul_zero, Int.sub_zero]
    constructor
    · intro y
      rcases Int.mul_eq_zero.mp y with y | y
      · exact absurd y n0
      · exact y
    · intro y; rw [y, Int.mul_zero]
  · exact Iff.rfl
theorem less_go {n : Nat} : ∀ (todo done : List Brow) (f : List Int), Rf n (done ++ todo) → f.length = n → (∀ b ∈ done, f.getD b.1 0 = 0) →
    (lessF f todo).length = n ∧ (∀ b ∈ done ++ todo, (lessF f todo).getD b.1 0 = 0) ∧ ∀ v, Solb (done ++ todo) v → (dotN (lessF f todo) v = 0 ↔ dotN f v = 0)
  | [], done, f, _, hl, hd => ⟨hl, fun b hb => hd b (by simpa using hb), fun v _ => Iff.rfl⟩
  | b :: todo, done, f, R, hl, hd => by
    have mb : b ∈ done ++ b :: todo := List.mem_append_right _ (List.mem_cons_self ..)
    have lb : f.length = b.2.length := by rw [R.len b mb]; exact hl
    have ap : done ++ b :: todo = (done ++ [b]) ++ todo := by rw [List.append_assoc]; rfl
    have R' := R
    rw [ap] at R'
    have ih := less_go todo (done ++ [b]) (lessStep f b) R' (by rw [step_len lb]; exact hl) fun c hc => by
      rcases List.mem_append.mp hc with hc | hc
      · have ne : b.1 ≠ c.1 := fun e => by
          have y := R.nd
          rw [List.map_append, List.map_cons] at y
          exact (List.nodup_append.mp y).2.2 _ (List.mem_map_of_mem hc) _ (List.mem_cons_self ..) e.symm
        exact step_keep lb (R.off b mb c (List.mem_append_left _ hc) ne) (hd c hc)
      · rw [List.mem_singleton.mp hc]
        exact step_own lb
    obtain ⟨h1, h2, h3⟩ := ih
    refine ⟨h1, fun c hc => h2 c (by rw [ap] at hc; exact hc), fun v hv => ?_⟩
    have z := h3 v (by rw [ap] at hv; exact hv)
    exact z.trans (step_dot lb (R.on b mb) (hv b mb))
theorem less_ok {n : Nat} {F : List Brow} {f : List Int} (R : Rf n F) (hl : f.length = n) : (lessF f F).length = n ∧ (∀ b ∈ F, (lessF f F).getD b.1 0 = 0) ∧ ∀ v, Solb F v → (dotN (lessF f F) v = 0 ↔ dotN f v = 0) :=
  less_go F [] f R hl fun b hb => by cases hb
/-- the first place that is not 0 -/
def firstNz (r : List Int) : Option Nat := ((List.range r.length).filter fun k => r.getD k 0 ≠ 0).head?
theorem first_some {r : List Int} {s : Nat} (h : firstNz r = some s) : s < r.length ∧ r.getD s 0 ≠ 0 ∧ ∀ k, k < s → r.getD k 0 = 0 := by
  unfold firstNz at h
  obtain ⟨tl, e⟩ : ∃ tl, ((List.range r.length).filter fun k => r.getD k 0 ≠ 0) = s :: tl := by
    cases e : ((List.range r.length).filter fun k => r.getD k 0 ≠ 0) with
    | nil => rw [e] at h; cases h
    | cons a tl => rw [e] at h; cases h; exact ⟨tl, rfl⟩
  have m : s ∈ (List.range r.length).filter fun k => r.getD k 0 ≠ 0 := by rw [e]; exact List.mem_cons_self ..
  obtain ⟨m1, m2⟩ := List.mem_filter.mp m
  refine ⟨List.mem_range.mp m1, of_decide_eq_true m2, fun k hk => ?_⟩
  apply Classical.byContradiction
  intro c
  have mk : k ∈ (List.range r.length).filter fun k => r.getD k 0 ≠ 0 := List.mem_filter.mpr ⟨List.mem_range.mpr (by have := List.mem_range.mp m1; omega), decide_eq_true c⟩
  have sorted : ((List.range r.length).filter fun k => r.getD k 0 ≠ 0).Pairwise (· < ·) := List.pairwise_lt_range.filter _
  rw [e] at sorted mk
  rcases List.mem_cons.mp mk with rfl | mk
  · omega
  · have := (List.pairwise_cons.mp sorted).1 k mk
    omega
theorem first_none {r : List Int} (h : firstNz r = none) : ∀ k, k < r.length → r.getD k 0 = 0 := fun k hk => by
  apply Classical.byContradiction
  intro c
  unfold firstNz at h
  have mk : k ∈ (List.range r.length).filter fun k => r.getD k 0 ≠ 0 := List.mem_filter.mpr ⟨List.mem_range.mpr hk, decide_eq_true c⟩
  cases e : ((List.range r.length).filter fun k => r.getD k 0 ≠ 0) with
  | nil => rw [e] at mk; cases mk
  | cons a tl => rw [e] at h; cases h
def freeStep (F : List Brow) (r0 : List Int) : List Brow := match firstNz (lessF r0 F) with
  | none => F
  | some s => (F.map fun b => (b.1, lessF b.2 [(s, lessF r0 F)])) ++ [(s, lessF r0 F)]
def freeF (rows : List (List Int)) : List Brow := rows.foldl freeStep []
theorem free_step {n : Nat} {F : List Brow} {r0 : List Int} (R : Rf n F) (hl : r0.length = n) : Rf n (freeStep F r0) ∧ ∀ v, Solb (freeStep F r0) v ↔ Solb F v ∧ dotN r0 v = 0 := by
  obtain ⟨l1, z1, d1⟩ := less_ok R hl
  unfold freeStep
  cases e : firstNz (lessF r0 F) with
  | none =>
    refine ⟨R, fun v => ⟨fun h => ⟨h, (d1 v h).mp (dot_zero fun k hk => by rw [first_none e k hk, Int.zero_mul])⟩, fun h => h.1⟩⟩
  | some s =>
    obtain ⟨s1, s2, s3⟩ := first_some e
    have fresh : ∀ b ∈ F, b.1 ≠ s := fun b hb z => s2 (by rw [← z]; exact z1 b hb)
    have lb : ∀ b ∈ F, b.2.length = (lessF r0 F).length := fun b hb => by rw [R.len b hb, l1]
    have one : ∀ b : Brow, lessF b.2 [(s, lessF r0 F)] = lessStep b.2 (s, lessF r0 F) := fun b => rfl
    refine ⟨⟨fun b hb => ?_, fun b hb => ?_, fun b hb => ?_, fun b hb c hc ne => ?_, fun b hb k hk => ?_, ?_⟩, fun v => ?_⟩
    · rcases List.mem_append.mp hb with hb | hb
      · obtain ⟨b0, h0, rfl⟩ := List.mem_map.mp hb
        show (lessF b0.2 [(s, lessF r0 F)]).length = n
        rw [one, step_len (lb b0 h0)]
        exact R.len b0 h0
      · rw [List.mem_singleton.mp hb]; exact l1
    · rcases List.mem_append.mp hb with hb | hb
      · obtain ⟨b0, h0, rfl⟩ := List.mem_map.mp hb
        exact R.lt b0 h0
      · rw [List.mem_singleton.mp hb]
        show s < n
        omega
    · rcases List.mem_append.mp hb with hb | hb
      · obtain ⟨b0, h0, rfl⟩ := List.mem_map.mp hb
        show (lessF b0.2 [(s, lessF r0 F)]).getD b0.1 0 ≠ 0
        rw [one]
        exact step_ne (lb b0 h0) s2 (z1 b0 h0) (R.on b0 h0)
      · rw [List.mem_singleton.mp hb]; exact s2
    · rcases List.mem_append.mp hb with hb | hb
      · obtain ⟨b0, h0, rfl⟩ := List.mem_map.mp hb
        show (lessF b0.2 [(s, lessF r0 F)]).getD c.1 0 = 0
        rw [one]
        rcases List.mem_append.mp hc with hc | hc
        · obtain ⟨c0, h1, rfl⟩ := List.mem_map.mp hc
          exact step_keep (lb b0 h0) (z1 c0 h1) (R.off b0 h0 c0 h1 ne)
        · rw [List.mem_singleton.mp hc]
          exact step_own (b := (s, lessF r0 F)) (lb b0 h0)
      · rw [List.mem_singleton.mp hb] at ne ⊢
        rcases List.mem_append.mp hc with hc | hc
        · obtain ⟨c0, h1, rfl⟩ := List.mem_map.mp hc
          exact z1 c0 h1
        · rw [List.mem_singleton.mp hc] at ne
          exact absurd rfl ne
    · rcases List.mem_append.mp hb with hb | hb
      · obtain ⟨b0, h0, rfl⟩ := List.mem_map.mp hb
        show (lessF b0.2 [(s, lessF r0 F)]).getD k 0 = 0
        have hk : k < b0.1 := hk
        rw [one]
        by_cases c : b0.2.getD s 0 = 0
        · exact (step_at (lb b0 h0) k).mpr ⟨fun z => absurd c z, fun _ => R.ech b0 h0 k hk⟩
        · have ks : k < s := Nat.lt_of_lt_of_le hk (Nat.le_of_not_lt fun z => c (R.ech b0 h0 s z))
          exact step_keep (lb b0 h0) (s3 k ks) (R.ech b0 h0 k hk)
      · rw [List.mem_singleton.mp hb] at hk ⊢
        exact s3 k hk
    · rw [List.map_append, List.map_map]
      refine List.nodup_append.mpr ⟨R.nd, by simp, fun x hx y hy z => ?_⟩
      obtain ⟨b0, h0, rfl⟩ := List.mem_map.mp hx
      have y1 : y = s := List.mem_singleton.mp hy
      exact fresh b0 h0 (z.trans y1)
    · constructor
      · intro h
        have hs : dotN (lessF r0 F) v = 0 := h (s, lessF r0 F) (List.mem_append_right _ (List.mem_singleton.mpr rfl))
        have hF : Solb F v := fun b hb => by
          have y := h _ (List.mem_append_left _ (List.mem_map_of_mem (f := fun b : Brow => (b.1, lessF b.2 [(s, lessF r0 F)])) hb))
          exact (step_dot (b := (s, lessF r0 F)) (lb b hb) s2 hs).mp y
        exact ⟨hF, (d1 v hF).mp hs⟩
      · rintro ⟨hF, h0⟩ b hb
        have hs : dotN (lessF r0 F) v = 0 := (d1 v hF).mpr h0
        rcases List.mem_append.mp hb with hb | hb
        · obtain ⟨b0, h1, rfl⟩ := List.mem_map.mp hb
          exact (step_dot (b := (s, lessF r0 F)) (lb b0 h1) s2 hs).mpr (hF b0 h1)
        · rw [List.mem_singleton.mp hb]; exact hs
theorem free_go {n : Nat} : ∀ (rows : List (List Int)) (F : List Brow), Rf n F → (∀ r ∈ rows, r.length = n) → Rf n (rows.foldl freeStep F) ∧ ∀ v, Solb (rows.foldl freeStep F) v ↔ Solb F v ∧ Sol rows v
  | [], F, R, _ => ⟨R, fun v => ⟨fun h => ⟨h, fun r hr => by cases hr⟩, fun h => h.1⟩⟩
  | r :: rows, F, R, hl => by
    obtain ⟨R1, s1⟩ := free_step R (hl r (List.mem_cons_self ..))
    obtain ⟨R2, s2⟩ := free_go rows _ R1 fun q hq => hl q (List.mem_cons_of_mem _ hq)
    refine ⟨R2, fun v => ?_⟩
    rw [List.foldl_cons, s2 v, s1 v]
    constructor
    · rintro ⟨⟨a, b⟩, c⟩
      exact ⟨a, fun q hq => by
        rcases List.mem_cons.mp hq with rfl | hq
        · exact b
        · exact c q hq⟩
    · rintro ⟨a, b⟩
      exact ⟨⟨a, b r (List.mem_cons_self ..)⟩, fun q hq => b q (List.mem_cons_of_mem _ hq)⟩
theorem free_ok {n : Nat} {rows : List (List Int)} (hl : ∀ r ∈ rows, r.length = n) : Rf n (freeF rows) ∧ ∀ v, Solb (freeF rows) v ↔ Sol rows v := by
  obtain ⟨R, s⟩ := free_go (n := n) rows [] ⟨(fun b hb => by cases hb), (fun b hb => by cases hb), (fun b hb => by cases hb), (fun b hb => by cases hb), (fun b hb => by cases hb), List.nodup_nil⟩ hl
  exact ⟨R, fun v => ⟨fun h => ((s v).mp h).2, fun h => (s v).mpr ⟨(fun b hb => by cases hb), h⟩⟩⟩
/-! ### what the freed rows tell -/
def prodB : List Brow → Int
  | [] => 1
  | b :: F => b.2.getD b.1 0 * prodB F
theorem prodB_ne : ∀ {F : List Brow}, (∀ b ∈ F, b.2.getD b.1 0 ≠ 0) → prodB F ≠ 0
  | [], _ => by show (1 : Int) ≠ 0; decide
  | b :: F, h => Int.mul_ne_zero (h b (List.mem_cons_self ..)) (prodB_ne fun c hc => h c (List.mem_cons_of_mem _ hc))
theorem prodB_dvd : ∀ {F : List Brow} {b : Brow}, b ∈ F → b.2.getD b.1 0 ∣ prodB F
  | c :: F, b, h => by
    show _ ∣ c.2.getD c.1 0 * prodB F
    rcases List.mem_cons.mp h with rfl | h
    · exact Int.dvd_mul_right _ _
    · exact Int.dvd_trans (prodB_dvd h) (Int.dvd_mul_left _ _)
/-- the row of a place -/
def rowOf (F : List Brow) (k : Nat) : Option (List Int) := (F.find? fun b => decide (b.1 = k)).map (·.2)
theorem rowOf_mem {F : List Brow} {k : Nat} {r : List Int} (h : rowOf F k = some r) : (k, r) ∈ F := by
  unfold rowOf at h
  obtain ⟨b, hb, rfl⟩ := Option.map_eq_some_iff.mp h
  have e : b.1 = k := of_decide_eq_true (List.find?_some (p := fun b : Brow => decide (b.1 = k)) hb)
  rw [← e]
  exact List.mem_of_find?_eq_some hb
theorem rowOf_none {F : List Brow} {k : Nat} (h : rowOf F k = none) : ∀ b ∈ F, b.1 ≠ k := fun b hb e => by
  unfold rowOf at h
  rw [Option.map_eq_none_iff, List.find?_eq_none] at h
  exact h b hb (decide_eq_true e)
theorem fst_one : ∀ {F : List Brow} {k : Nat} {r r' : List Int}, (F.map (·.1)).Nodup → (k, r) ∈ F → (k, r') ∈ F → r' = r
  | b :: F, k, r, r', nd, h, h' => by
    rw [List.map_cons, List.nodup_cons] at nd
    rcases List.mem_cons.mp h with h | h <;> rcases List.mem_cons.mp h' with h' | h'
    · rw [← h'] at h; exact (Prod.mk.inj h).2.symm
    · exact absurd (List.mem_map.mpr ⟨_, h', by rw [← h]⟩) nd.1
    · exact absurd (List.mem_map.mpr ⟨_, h, by rw [← h']⟩) nd.1
    · exact fst_one nd.2 h h'
theorem rowOf_of {n : Nat} {F : List Brow} (R : Rf n F) {b : Brow} (hb : b ∈ F) : rowOf F b.1 = some b.2 := by
  cases e : rowOf F b.1 with
  | none => exact absurd rfl (rowOf_none e b hb)
  | some r =>
    have z := rowOf_mem e
    rw [fst_one R.nd hb z]
/-- where zeros tell only zeros, every place has its row -/
theorem all_rows {m : Nat} {F : List Brow} (R : Rf (m + 1) F) (no : ∀ b ∈ F, b.1 ≠ m) (ns : ∀ v, Solb F v → v m = 0 → (∀ k, m < k → v k = 0) → ∀ k, k < m → v k = 0) {k : Nat} (hk : k < m) : ∃ r, rowOf F k = some r := by
  cases e : rowOf F k with
  | some r => exact ⟨r, rfl⟩
  | none =>
    have nk := rowOf_none e
    have D := prodB_ne R.on
    let v : Nat → Int := fun j => if j = k then prodB F else match rowOf F j with
      | some r => -(prodB F / r.getD j 0 * r.getD k 0)
      | none => 0
    have vk : v k = prodB F := if_pos rfl
    have vz : ∀ j, j ≠ k → rowOf F j = none → v j = 0 := fun j n z => by
      show (if j = k then _ else match rowOf F j with | some r => _ | none => _) = _
      rw [if_neg n, z]
    have vb : ∀ b ∈ F, v b.1 = -(prodB F / b.2.getD b.1 0 * b.2.getD k 0) := fun b hb => by
      show (if b.1 = k then _ else match rowOf F b.1 with | some r => _ | none => _) = _
      rw [if_neg (nk b hb), rowOf_of R hb]
    have s : Solb F v := fun b hb => by
      have lb := R.len b hb
      have lt := R.lt b hb
      rw [dot_two (i := b.1) (p := k) (by omega) (by omega) (nk b hb) fun j hj n1 n2 => by
        cases ej : rowOf F j with
        | none => rw [vz j n2 ej, Int.mul_zero]
        | some r =>
          have z := R.off b hb _ (rowOf_mem ej) (fun q => n1 q.symm)
          rw [z, Int.zero_mul]]
      rw [vb b hb, vk, Int.mul_neg, ← Int.mul_assoc, Int.mul_ediv_cancel' (prodB_dvd hb), Int.mul_comm (b.2.getD k 0)]
      omega
    have y := ns v s (vz m (by omega) (by
      cases em : rowOf F m with
      | none => rfl
      | some r => exact absurd rfl (no _ (rowOf_mem em)))) (fun j hj => vz j (by omega) (by
      cases ej : rowOf F j with
      | none => rfl
      | some r =>
        have := R.lt _ (rowOf_mem ej)
        have : j < m + 1 := this
        omega)) k hk
    rw [vk] at y
    exact absurd y D
/-- whole numbers that agree, told by the rows -/
theorem told_iff {m : Nat} {F : List Brow} (R : Rf (m + 1) F) (no : ∀ b ∈ F, b.1 ≠ m) {x : Nat → Int} (hx : x m = -1) (all : ∀ k, k < m → ∃ r, rowOf F k = some r) : Solb F x ↔ ∀ k r, k < m → rowOf F k = some r → r.getD k 0 * x k = r.getD m 0 := by
  have one : ∀ b ∈ F, dotN b.2 x = b.2.getD b.1 0 * x b.1 - b.2.getD m 0 := fun b hb => by
    have lb := R.len b hb
    have lt := R.lt b hb
    have nb := no b hb
    rw [dot_two (i := b.1) (p := m) (by omega) (by omega) nb fun j hj n1 n2 => by
      obtain ⟨r, er⟩ := all j (by omega)
      rw [R.off b hb _ (rowOf_mem er) (fun q => n1 q.symm), Int.zero_mul]]
    rw [hx]
    omega
  constructor
  · intro h k r hk er
    have z := rowOf_mem er
    have y := h _ z
    rw [one _ z] at y
    have y : r.getD k 0 * x k - r.getD m 0 = 0 := y
    omega
  · intro h b hb
    have lt := R.lt b hb
    have nb := no b hb
    rw [one b hb, h b.1 b.2 (by omega) (rowOf_of R hb)]
    omega
/-- a row that speaks of the last place alone agrees with nothing -/
theorem told_none {m : Nat} {F : List Brow} (R : Rf (m + 1) F) {b : Brow} (hb : b ∈ F) (e : b.1 = m) {x : Nat → Int} (hx : x m = -1) : ¬ Solb F x := fun h => by
  have y := h b hb
  have lb := R.len b hb
  rw [dot_one (i := m) (by omega) fun k hk ne => by
    have lk : k < b.1 := by omega
    rw [R.ech b hb k lk, Int.zero_mul]] at y
  rw [hx] at y
  have z := R.on b hb
  rw [e] at z
  omega
end La
-- part UVand
/-! Powers of different seats: zeros tell only zeros. -/
namespace La
def vrows (ss : List Int) (ps : List Nat) : List (List Int) := ps.map fun p => ss.map fun s => s ^ p
def subs {α : Type} : List α → List (List α)
  | [] => [[]]
  | a :: l => subs l ++ (subs l).map (a :: ·)
theorem mem_subs {α : Type} {l L : List α} (h : List.Sublist l L) : l ∈ subs L := by
  induction h with
  | slnil => exact List.mem_singleton.mpr rfl
  | cons a h ih => exact List.mem_append_left _ ih
  | cons_cons a h ih => exact List.mem_append_right _ (List.mem_map_of_mem ih)
def nine : List Int := [1, 2, 3, 4, 5, 6, 7, 8, 9]
def okV (ss : List Int) (ps : List Nat) : Bool := decide (ss.length ≠ ps.length) || decide ((freeF (vrows ss ps)).length = ss.length)
theorem all_okV : ((subs nine).all fun ss => decide (4 < ss.length) || (subs [0, 1, 2, 3]).all fun ps => okV ss ps) = true := by decide +kernel
theorem sub_of {l L : List Int} (h1 : l.Pairwise (· < ·)) (h2 : L.Pairwise (· < ·)) (h : ∀ x ∈ l, x ∈ L) : List.Sublist l L := by
  induction L generalizing l with
  | nil =>
    cases l with
    | nil => exact .slnil
    | cons a l => exact absurd (h a (List.mem_cons_self ..)) (by simp)
  | cons b L ih =>
    cases l with
    | nil => exact List.nil_sublist _
    | cons a l =>
      rw [List.pairwise_cons] at h1 h2
      by_cases c : a = b
      · subst c
        refine .cons_cons _ (ih h1.2 h2.2 fun x hx => ?_)
        rcases List.mem_cons.mp (h x (List.mem_cons_of_mem _ hx)) with e | e
        · have := h1.1 x hx
          omega
        · exact e
      · refine .cons _ (ih (List.pairwise_cons.mpr h1) h2.2 fun x hx => ?_)
        have hb : b < a := by
          rcases List.mem_cons.mp (h a (List.mem_cons_self ..)) with e | e
          · exact absurd e c
          · exact h2.1 a e
        rcases List.mem_cons.mp (h x hx) with e | e
        · rcases List.mem_cons.mp hx with e2 | e2
          · omega
          · have := h1.1 x e2
            omega
        · exact e
theorem nine_sorted : nine.Pairwise (· < ·) := by decide
/-- zeros tell only zeros -/
theorem vand {ss : List Int} {ps : List Nat} (h1 : ss.Pairwise (· < ·)) (h2 : ∀ s ∈ ss, 1 ≤ s ∧ s ≤ 9) (h3 : List.Sublist ps [0, 1, 2, 3]) (h4 : ss.length = ps.length) {v : Nat → Int} (h : Sol (vrows ss ps) v) : ∀ k, k < ss.length → v k = 0 := by
  have m1 : ss ∈ subs nine := mem_subs (sub_of h1 nine_sorted fun x hx => by
    have z := h2 x hx
    unfold nine
    simp only [List.mem_cons, List.not_mem_nil, or_false]
    omega)
  have m2 := mem_subs h3
  have l4 : ps.length ≤ 4 := h3.length_le
  have z := List.all_eq_true.mp all_okV ss m1
  rw [Bool.or_eq_true] at z
  rcases z with z | z
  · have := of_decide_eq_true z
    omega
  · have y := List.all_eq_true.mp z ps m2
    unfold okV at y
    rw [Bool.or_eq_true] at y
    rcases y with y | y
    · exact absurd h4 (of_decide_eq_true y)
    · have len := of_decide_eq_true y
      have rl : ∀ r ∈ vrows ss ps, r.length = ss.length := fun r hr => by
        obtain ⟨p, _, rfl⟩ := List.mem_map.mp hr
        rw [List.length_map]
      obtain ⟨R, s⟩ := free_ok rl
      have hs := (s v).mpr h
      intro k hk
      have cov : ∀ j, j < ss.length → j ∈ (freeF (vrows ss ps)).map (·.1) := by
        have sub : (freeF (vrows ss ps)).map (·.1) ⊆ List.range ss.length := fun x hx => by
          obtain ⟨b, hb, rfl⟩ := List.mem_map.mp hx
          exact List.mem_range.mpr (R.lt b hb)
        intro j hj
        apply Classical.byContradiction
        intro no
        have nd2 : (j :: (freeF (vrows ss ps)).map (·.1)).Nodup := List.nodup_cons.mpr ⟨no, R.nd⟩
        have le := nd2.length_le_of_subset (l₂ := List.range ss.length) fun x hx => by
          rcases List.mem_cons.mp hx with rfl | hx
          · exact List.mem_range.mpr hj
          · exact sub hx
        rw [List.length_cons, List.length_map, List.length_range] at le
        omega
      obtain ⟨b, hb, e⟩ := List.mem_map.mp (cov k hk)
      have lb := R.len b hb
      have y := hs b hb
      rw [dot_one (i := k) (by omega) fun j hj ne => by
        obtain ⟨c, hc, ec⟩ := List.mem_map.mp (cov j (by omega))
        have w := R.off b hb c hc (by omega)
        rw [ec] at w
        rw [w, Int.zero_mul]] at y
      have on := R.on b hb
      rw [e] at on
      rcases Int.mul_eq_zero.mp y with y | y
      · exact absurd y on
      · exact y
end La
-- part URule
set_option maxHeartbeats 4000000
/-! // where it comes out even, by great divisors of either sign; lists of whole numbers, lists of such. -/
namespace L2
open PySem PySem.Spec PyProof.Rows
def CDivX (i j : Int) : Prop := j ≠ 0 ∧ j.natAbs.log2 < 9000 ∧ j ∣ i
def CDivM (i j : Int) : Prop := j ≠ 0 ∧ j.natAbs.log2 < 9000
section
variable {X : Cx}
theorem op_fdivX : OpR X (binaryOp .FloorDiv) (rI CDivX fun i j => .int (i / j)) := opI fun i j _ _ _ _ _ hc q =>
  floordiv_int hc.1 (by
    have e : i.fdiv j = i / j := by
      rw [Int.fdiv_eq_ediv]
      rw [if_pos (.inr hc.2.2), Int.sub_zero]
    rw [e]
    exact q) (.inl (PyProof.noPylong_of_log2 hc.2.1))
theorem op_fdivM : OpR X (binaryOp .FloorDiv) (rI CDivM fun i j => .int (i.fdiv j)) := opI fun i j _ _ _ _ _ hc q => floordiv_int hc.1 q (.inl (PyProof.noPylong_of_log2 hc.2))
theorem PSs.pre {X : Cx} {ss : List Stmt} {t : TS} (Pre : TS) (h : PSs X ss t) (w : ∀ D σ H, Pre D σ H → t D σ H) : PSs X ss Pre := ⟨fun pins s σ H D I z => h.run pins s σ H D I (w _ _ _ z)⟩
theorem PS.pre {X : Cx} {ss : Stmt} {t : TS} (Pre : TS) (h : PS X ss t) (w : ∀ D σ H, Pre D σ H → t D σ H) : PS X ss Pre := ⟨fun pins s σ H D I z => h.run pins s σ H D I (w _ _ _ z)⟩
end
end L2
namespace Kn
open PySem PySem.Spec PyProof.Rows L2 La
abbrev vI (r : List Int) : List V := r.map V.int
/-- below 2^b, all of them -/
def Bt (b : Nat) (r : List Int) : Prop := ∀ x ∈ r, x.natAbs < 2 ^ b
theorem log_lt {x : Int} {b : Nat} (h : x.natAbs < 2 ^ b) (h0 : 0 < b) : x.natAbs.log2 < b := PySem.Flt.log2_lt_of h0 h
theorem gcdL_bt {r : List Int} {b : Nat} (h : Bt b r) : gcdL r < 2 ^ b := by
  by_cases c : ∃ x ∈ r, x ≠ 0
  · obtain ⟨x, hx, n⟩ := c
    have d := Int.ofNat_dvd_left.mp (gcdL_dvd hx)
    exact Nat.lt_of_le_of_lt (Nat.le_of_dvd (by omega) d) (h x hx)
  · have z : ∀ (r : List Int) (g : Nat), (∀ x ∈ r, x = 0) → r.foldl (fun g x => Nat.gcd g x.natAbs) g = g := fun r => by
      induction r with
      | nil => intro g _; rfl
      | cons a r ih =>
        intro g h
        rw [List.foldl_cons, h a (List.mem_cons_self ..)]
        show r.foldl _ (Nat.gcd g 0) = g
        rw [Nat.gcd_zero_right]
        exact ih g fun x hx => h x (List.mem_cons_of_mem _ hx)
    have e : gcdL r = 0 := z r 0 fun x hx => Classical.byContradiction fun n => c ⟨x, hx, n⟩
    rw [e]
    exact Nat.two_pow_pos b
def rLstA (K : PySem.W.Frag) : List V → Hp → VK → Prop := fun xs H Q => ∃ p ys, xs = [.ref p] ∧ (SqL K H p ys ∨ SqT K H p ys) ∧ ∀ l, H l = none → Q (.ref l) (upd H l (.lst ys))
/-- the rows of a list -/
def MatH (H : Hp) (as : List Addr) (L : List (List Int)) : Prop := Paired (fun (a : Addr) (r : List Int) => H a = some (.lst (vI r))) as L
theorem MatH.same {H H' : Hp} {as : List Addr} {L : List (List Int)} (h : MatH H as L) (s : Same H H') : MatH H' as L := by
  induction h with
  | nil => exact .nil
  | cons h _ ih => exact .cons (s _ _ h) ih
theorem paired_at {α β : Type} {F : α → β → Prop} : ∀ {as : List α} {bs : List β} {i : Nat} {b : β}, Paired F as bs → bs[i]? = some b → ∃ a, as[i]? = some a ∧ F a b
  | _, _, i, _, .nil, e => by cases i <;> cases e
  | _, _, 0, _, .cons h _, e => by
    cases e
    exact ⟨_, rfl, h⟩
  | _, _, i + 1, _, .cons _ t, e => paired_at (i := i) t e
theorem paired_len {α β : Type} {F : α → β → Prop} {as : List α} {bs : List β} (h : Paired F as bs) : as.length = bs.length := by
  induction h with
  | nil => rfl
  | cons _ _ ih => rw [List.length_cons, List.length_cons, ih]
theorem paired_set {α β : Type} {F : α → β → Prop} {a : α} {b : β} (hF : F a b) : ∀ {as : List α} {bs : List β} {i : Nat}, Paired F as bs → Paired F (as.set i a) (bs.set i b)
  | _, _, _, .nil => .nil
  | _, _, 0, .cons _ t => .cons hF t
  | _, _, i + 1, .cons h t => .cons h (paired_set hF t)
theorem paired_imp {α β : Type} {F G : α → β → Prop} (f : ∀ a b, F a b → G a b) {as : List α} {bs : List β} (h : Paired F as bs) : Paired G as bs := by
  induction h with
  | nil => exact .nil
  | cons h _ ih => exact .cons (f _ _ h) ih
theorem paired_snoc {α β : Type} {F : α → β → Prop} {a : α} {b : β} (hF : F a b) {as : List α} {bs : List β} (h : Paired F as bs) : Paired F (as ++ [a]) (bs ++ [b]) := by
  induction h with
  | nil => exact .cons hF .nil
  | cons h _ ih => exact .cons h ih
end Kn
-- part UMade
set_option maxHeartbeats 4000000
/-! made_small. -/
namespace Kn
open PySem PySem.Spec PyProof.Rows L2 La
abbrev sMade : Stmt := topS 16
abbrev NMd : List Str := ["row", "common", "number"]
theorem scMd : FnScope NMd ["row"] (defScope sMade) := ⟨rfl, rfl, rfl, by decide +kernel, rfl, by decide +kernel, by decide +kernel⟩
def spMade : Sp := fun vs H Q _ => ∃ a r, vs = [.ref a] ∧ H a = some (.lst (vI r)) ∧ r.length ≤ 100 ∧ Bt 8000 r ∧ ∀ b H', Same H H' → H' b = some (.lst (vI (smallF r))) → Q (.ref b) H'
section
variable {P : Program} {w : World} {K : PySem.W.Frag} {mg : Str → Option Value} {base : Heap}
theorem ok_made {f : Addr} {fd : FuncData} (F : Fun K "made_small" "made_small" sMade f fd) (gG : mg "gcd" = some (.builtin "math.gcd")) : FnOk P w K mg base CX0 1 f fd ["row"] spMade := by
  have S := scMd
  refine F.ok S (fun vs H Q E h => ?_) (fun cdv A outer s H vs Q E hr h => ?_)
  · obtain ⟨a, r, rfl, _⟩ := h
    rfl
  · obtain ⟨a, r, rfl, ha, hl, hb, q⟩ := h
    refine ⟨_, (pss_cons (ps_set (i := 1) S.nd rfl (.inr rfl) pe_int)
      (pss_cons (ps_for PassesOwn.never rfl (pi_list (pv 0)) (pg_name (i := 2) S.nd rfl (.inl rfl))
        (pss_cons (ps_set (i := 1) S.nd rfl (.inr rfl) (pe_callBfun (show CallR _ (.builtin "math.gcd") rGcd from cr_gcd) (by rfl) gG (pa_cons (pv 1) (pa_cons (pv 2) pa_nil))))
        (pss_one (ps_if (pt_cmpR op_eq (pv 1) pe_int (nomark _)) (pss_one (ps_ret (pv 0))) pss_nil))))
      (pss_one (ps_ret (pe_ifExp (pt_cmpR op_eq (pv 1) pe_int (nomark _)) (pv 0) (pe_lc (own := [("number", 2)]) (g := gName 2) rfl S.nd (pi_list (pv 0)) (blkOk_by (N := NMd) (sc := defScope sMade) (by decide +kernel)) (fun _ _ _ _ _ => (pg_name (i := 2) S.nd rfl (.inl rfl))) (fun _ _ _ _ _ => pts_nil) (fun _ _ _ _ _ => (pe_op op_fdivX (pv 2) (pv 1))))))))), ?_⟩
    refine ⟨_, rfl, a, rfl, ⟨_, SqL.of ha⟩, for_list (xs := vI r) (fun i σ H1 => ∃ y2, σ = [some (.ref a), some (.int (((r.take i).foldl (fun g x => Nat.gcd g x.natAbs) 0 : Nat) : Int)), y2] ∧ H1 = H) ⟨none, rfl, rfl⟩ (fun i σ H1 _ ⟨_, _, e⟩ => by rw [e]; exact SqL.of ha) ?_ ?_⟩
    · rintro i x σ H1 hx ⟨y2, rfl, rfl⟩
      rw [List.getElem?_map] at hx
      obtain ⟨n, hn, rfl⟩ := Option.map_eq_some_iff.mp hx
      have e : ((r.take (i + 1)).foldl (fun g x => Nat.gcd g x.natAbs) 0) = Nat.gcd ((r.take i).foldl (fun g x => Nat.gcd g x.natAbs) 0) n.natAbs := by
        rw [List.take_add_one, hn, List.foldl_append]
        rfl
      refine ⟨_, rfl, _, rfl, _, _, rfl, ?_⟩
      rw [Int.natAbs_natCast, ← e]
      refine ⟨_, rfl, rfl, decide (V.int (((r.take (i + 1)).foldl (fun g x => Nat.gcd g x.natAbs) 0 : Nat) : Int) = V.int 1), rfl, ?_⟩
      by_cases c : ((r.take (i + 1)).foldl (fun g x => Nat.gcd g x.natAbs) 0) = 1
      · rw [decide_eq_true (by rw [c]; rfl)]
        refine iteT ⟨_, rfl, q a _ (Same.refl _) ?_⟩
        rw [small_early c]
        exact ha
      · rw [decide_eq_false (fun z => c (by have y := V.int.inj z; omega))]
        exact iteF ⟨_, rfl, rfl⟩
    · rintro σ H1 ⟨y2, rfl, rfl⟩
      have lv : (vI r).length = r.length := List.length_map ..
      have et : (r.take (vI r).length).foldl (fun g x => Nat.gcd g x.natAbs) 0 = gcdL r := by
        rw [lv, List.take_length]
        rfl
      rw [et]
      refine ⟨_, rfl, rfl, decide (V.int ((gcdL r : Nat) : Int) = V.int 0), rfl, ?_⟩
      by_cases c : gcdL r = 0
      · rw [decide_eq_true (by rw [c]; rfl)]
        refine iteT ⟨_, rfl, q a _ (Same.refl _) ?_⟩
        unfold smallF
        rw [if_pos c]
        exact ha
      · rw [decide_eq_false (fun z => c (by have y := V.int.inj z; omega))]
        have g9 : (((gcdL r : Nat) : Int)).natAbs.log2 < 9000 := by
          rw [Int.natAbs_natCast]
          exact Nat.lt_trans (PySem.Flt.log2_lt_of (k := 8000) (by decide) (gcdL_bt hb)) (by decide)
        refine iteF ⟨_, rfl, a, rfl, ⟨_, SqL.of ha⟩, fun D nD => lc_list (D := D) (xs := vI r) (fun i H2 => Same H1 H2 ∧ H2 D = some (.lst (vI ((r.take i).map fun x => x / ((gcdL r : Nat) : Int))))) ⟨same_new nD, upd_same⟩ (fun i H2 _ p => SqL.of (p.1 _ _ ha)) ?_ ?_⟩
        · rintro i x H2 hx ⟨s2, e2⟩
          rw [List.getElem?_map] at hx
          obtain ⟨n, hn, rfl⟩ := Option.map_eq_some_iff.mp hx
          have li := (List.getElem?_eq_some_iff.mp hn).1
          refine ⟨rfl, ?_⟩
          dsimp only [tYes]
          rw [if_pos rfl]
          refine ⟨_, rfl, _, rfl, _, _, rfl, rfl, ⟨by omega, g9, gcdL_dvd (List.mem_of_getElem? hn)⟩, _, e2, ?_, same_own nD s2, ?_⟩
          · rw [List.length_map, List.length_map, List.length_take]
            exact small1000 (by omega)
          · rw [upd_same, List.take_add_one, hn, List.map_append]
            unfold vI
            rw [List.map_append]
            rfl
        · rintro H2 ⟨s2, e2⟩
          rw [lv, List.take_length] at e2
          refine q D H2 s2 ?_
          unfold smallF
          rw [if_neg c]
          exact e2
end
end Kn
-- part USwap
set_option maxHeartbeats 4000000
/-! swap_up. -/
namespace Kn
open PySem PySem.Spec PyProof.Rows L2 La
/-- all stands as it stood, but at l -/
def ButA (l : Addr) (H H' : Hp) : Prop := ∀ b o, H b = some o → b ≠ l → H' b = some o
def swapA (as : List Addr) (p a : Nat) : List Addr := (as.set p (as.getD a 0)).set a (as.getD p 0)
theorem mat_row {H : Hp} {as : List Addr} {L : List (List Int)} {m n i : Nat} (h : MatH H as L) (M : Mat m n L) (hi : i < m) : ∃ a, as[i]? = some a ∧ as.getD i 0 = a ∧ H a = some (.lst (vI (L.getD i []))) ∧ (L.getD i []).length = n := by
  have hl : i < L.length := by rw [M.len]; exact hi
  have e : L[i]? = some (L.getD i []) := by rw [List.getD_eq_getElem?_getD, List.getElem?_eq_getElem hl]; rfl
  obtain ⟨a, ea, ha⟩ := paired_at h e
  exact ⟨a, ea, by rw [List.getD_eq_getElem?_getD, ea]; rfl, ha, (M.at_ hi).1⟩
theorem row_at {r : List Int} {q : Nat} (h : q < r.length) : (vI r)[q]? = some (.int (r.getD q 0)) := by
  unfold vI
  rw [List.getElem?_map, List.getElem?_eq_getElem h, List.getD_eq_getElem?_getD, List.getElem?_eq_getElem h]
  rfl
theorem refs_at {as : List Addr} {i : Nat} {a : Addr} (h : as[i]? = some a) : (as.map V.ref)[i]? = some (.ref a) := by
  rw [List.getElem?_map, h]
  rfl
theorem ixN_of {n j : Nat} (h : j < n) : ixN n (j : Int) = some j := by
  unfold ixN
  rw [if_pos (by omega), if_pos (by omega)]
  rfl
section
variable {P : Program} {w : World} {K : PySem.W.Frag} {mg : Str → Option Value} {base : Heap}
end
end Kn
-- part ULc
set_option maxHeartbeats 4000000
/-! Comprehensions over lists: of numbers, of objects. -/
namespace Kn
open PySem PySem.Spec PyProof.Rows L2 La
def delA (D : Addr) (H : Hp) : Hp := fun b => if b = D then none else H b
theorem del_le {D : Addr} {H : Hp} : Same (delA D H) H := fun b o e => by
  unfold delA at e
  split at e
  · cases e
  · exact e
theorem del_at {D b : Addr} {H : Hp} {o : HO} (e : H b = some o) (n : b ≠ D) : delA D H b = some o := by
  unfold delA
  rw [if_neg n]
  exact e
theorem del_upd {D : Addr} {H : Hp} {o : HO} : delA D (L2.upd H D o) = delA D H := by
  funext b
  unfold delA
  split
  · rfl
  · rename_i n
    rw [upd_ne n]
theorem del_same {D : Addr} {H H' : Hp} (s : Same H H') : Same (delA D H) (delA D H') := fun b o e => by
  unfold delA at e
  split at e
  · cases e
  · rename_i n
    exact del_at (s _ _ e) n
theorem del_new {D : Addr} {H : Hp} (n : H D = none) {H' : Hp} (s : Same H H') : Same H (delA D H') := fun b o e => del_at (s _ _ e) fun z => by rw [z, n] at e; cases e
theorem wipe1 (σ : L2.St) (j : Nat) (x : Option V) : wipe ((wipe σ [j]).set j x) [j] = wipe σ [j] := by
  show (((σ.set j none).set j x).set j none) = σ.set j none
  rw [List.set_set, List.set_set]
/-- [F(n) for n in l], numbers -/
theorem map_lc {K : PySem.W.Frag} {σ : L2.St} {H : Hp} {Q : VK} {i j : Nat} {te : TE} {r : Addr} {l : List Int} (F : Int → Int) (hi : σ[i]? = some (some (.ref r))) (hr : H r = some (.lst (vI l))) (ll : l.length ≤ 900)
    (ht : ∀ n ∈ l, ∀ (H2 : Hp) (R : VK), R (.int (F n)) H2 → te ((wipe σ [j]).set j (some (.int n))) H2 R)
    (q : ∀ p H', Same H H' → H p = none → H' p = some (.lst (vI (l.map F))) → Q (.ref p) H') : tLc (iList K (tVar i)) (gName j) tYes te [j] σ H Q := by
  refine ⟨_, hi, r, rfl, ⟨_, SqL.of hr⟩, fun D nD => lc_list (D := D) (xs := vI l) (fun i H2 => Same H H2 ∧ H2 D = some (.lst (vI ((l.take i).map F)))) ⟨same_new nD, upd_same⟩ (fun i H2 _ p => SqL.of (p.1 _ _ hr)) ?_ ?_⟩
  · rintro i x H2 hx ⟨s2, e2⟩
    rw [List.getElem?_map] at hx
    obtain ⟨n, hn, rfl⟩ := Option.map_eq_some_iff.mp hx
    have li := (List.getElem?_eq_some_iff.mp hn).1
    refine ⟨wipe1 _ _ _, ?_⟩
    dsimp only [tYes]
    rw [if_pos rfl]
    refine ht n (List.mem_of_getElem? hn) _ _ ⟨_, e2, ?_, same_own nD s2, ?_⟩
    · rw [List.length_map, List.length_map, List.length_take]
      exact small1000 (by omega)
    · rw [upd_same, List.take_add_one, hn, List.map_append]
      unfold vI
      rw [List.map_append]
      rfl
  · rintro H2 ⟨s2, e2⟩
    rw [show (vI l).length = l.length from List.length_map .., List.take_length] at e2
    exact q D H2 s2 nD e2
/-- [.. for x in xs], each an object with a fact -/
theorem objs_lc {α : Type} {K : PySem.W.Frag} {σ : L2.St} {H : Hp} {Q : VK} {g : TG} {ti te : TE} {vs : List Nat} {r : Addr} {xs : List V} {bs : List α} (F : Hp → V → α → Prop) (mono : ∀ G G' y b, Same G G' → F G y b → F G' y b)
    (hi : ∀ R : VK, R (.ref r) H → ti σ H R) (hr : SqL K H r xs) (hl : xs.length = bs.length) (ll : xs.length ≤ 900)
    (ht : ∀ (i : Nat) (x : V) (b : α), xs[i]? = some x → bs[i]? = some b → ∀ (H2 : Hp), Same H H2 → ∀ (D : Addr) (hD : ∃ o, H2 D = some o), H D = none → ∀ (R : VK), (∀ y H3, Same H2 H3 → F (delA D H3) y b → R y H3) → g x (wipe σ vs) H2 fun σ2 H3 => wipe σ2 vs = wipe σ vs ∧ te σ2 H3 R)
    (q : ∀ p ys H', Same H H' → H p = none → H' p = some (.lst ys) → Paired (F H') ys bs → Q (.ref p) H') (gm : ∀ x s G (A B : L2.St → Hp → Prop), (∀ s' G', A s' G' → B s' G') → g x s G A → g x s G B) : tLc (iList K ti) g tYes te vs σ H Q := by
  refine hi _ ⟨r, rfl, ⟨_, hr⟩, fun D nD => lc_list (D := D) (xs := xs) (fun i H2 => Same H H2 ∧ ∃ ys, H2 D = some (.lst ys) ∧ Paired (F (delA D H2)) ys (bs.take i) ∧ ys.length = i) ⟨same_new nD, [], upd_same, .nil, rfl⟩ (fun i H2 _ p => ?_) ?_ ?_⟩
  · rcases hr with hr | hr
    · exact .inl (Rd.same hr p.1)
    · exact .inr hr
  · rintro i x H2 hx ⟨s2, ys, e2, p2, l2⟩
    have li := (List.getElem?_eq_some_iff.mp hx).1
    obtain ⟨b, hb⟩ : ∃ b, bs[i]? = some b := ⟨_, List.getElem?_eq_getElem (by omega)⟩
    refine gm _ _ _ _ _ (fun s' G' z => ⟨z.1, ?_⟩) (ht i x b hx hb H2 s2 D ⟨_, e2⟩ nD (fun y H4 => ∃ acc, H4 D = some (HO.lst acc) ∧ acc.length < sizeLine ∧ Same H (L2.upd H4 D (.lst (acc ++ [y]))) ∧ ∃ ys, L2.upd H4 D (.lst (acc ++ [y])) D = some (.lst ys) ∧ Paired (F (delA D (L2.upd H4 D (.lst (acc ++ [y]))))) ys (bs.take (i + 1)) ∧ ys.length = i + 1) fun y H3 s3 f3 => ⟨ys, s3 _ _ e2, small1000 (by omega), same_own nD (s2.trans s3), ys ++ [y], upd_same, ?_, by rw [List.length_append, l2]; rfl⟩)
    · dsimp only [tYes]
      rw [if_pos rfl]
      exact z.2
    · rw [del_upd, List.take_add_one, hb]
      exact paired_snoc f3 (paired_imp (fun a b z => mono _ _ _ _ (del_same s3) z) p2)
  · rintro H2 ⟨s2, ys, e2, p2, l2⟩
    rw [hl, List.take_length] at p2
    exact q D ys H2 s2 nD e2 (paired_imp (fun a b z => mono _ _ _ _ del_le z) p2)
end Kn
-- part ULz
set_option maxHeartbeats 4000000
/-! Comprehensions over two lists side by side, and over a list with places. -/
namespace Kn
open PySem PySem.Spec PyProof.Rows L2 La
theorem wipe2 (σ : L2.St) (i j : Nat) (x y : Option V) : wipe (((wipe σ [i, j]).set i x).set j y) [i, j] = wipe σ [i, j] := by
  show ((((((σ.set j none).set i none).set i x).set j y).set j none).set i none) = (σ.set j none).set i none
  rw [List.set_set, List.set_set]
  by_cases h : i = j
  · subst h
    simp [List.set_set]
  · rw [List.set_comm x none h, List.set_set, List.set_set]
/-- items: pairs of two rows of values, each pair an object with a fact -/
theorem pairs_lc {α : Type} {K : PySem.W.Frag} {σ : L2.St} {H : Hp} {Q : VK} {J : It} {gH : Hp → Prop} {i j n : Nat} {te : TE} {wi : TI} {f1 f2 : Nat → Option V} {bs : List α} (w : Walk J n gH (YPair f1 f2)) (F : Hp → V → α → Prop) (mono : ∀ G G' y b, Same G G' → F G y b → F G' y b)
    (hi : ∀ R : It → Hp → Prop, R J H → wi σ H R) (hG : ∀ H2, Same H H2 → gH H2) (hl : n = bs.length) (ll : n ≤ 900)
    (ht : ∀ (k : Nat) (x y : V) (b : α), f1 k = some x → f2 k = some y → bs[k]? = some b → ∀ (H2 : Hp), Same H H2 → ∀ (D : Addr) (hD : ∃ o, H2 D = some o), H D = none → ∀ (R : VK), (∀ z H3, Same H2 H3 → F (delA D H3) z b → R z H3) → te (((wipe σ [i, j]).set i (some x)).set j (some y)) H2 R)
    (q : ∀ p ys H', Same H H' → H p = none → H' p = some (.lst ys) → Paired (F H') ys bs → Q (.ref p) H') : tLc wi (gTup K 2 (gCons (gName i) (gCons (gName j) gNil))) tYes te [i, j] σ H Q := by
  refine hi _ fun D nD => lc_it (D := D) w (fun k H2 => Same H H2 ∧ ∃ ys, H2 D = some (.lst ys) ∧ Paired (F (delA D H2)) ys (bs.take k) ∧ ys.length = k) ⟨same_new nD, [], upd_same, .nil, rfl⟩ (fun k H2 _ p => hG _ p.1) ?_ ?_
  · rintro k v H2 H3 hk ⟨s2, ys, e2, p2, l2⟩ ⟨T, x, y, rfl, nT, rfl, ex, ey⟩
    obtain ⟨b, hb⟩ : ∃ b, bs[k]? = some b := ⟨_, List.getElem?_eq_getElem (by omega)⟩
    have sT : Same H2 (L2.upd H2 T (.tup [x, y])) := same_new nT
    refine ⟨T, _, rfl, SqT.of upd_same, rfl, _, _, rfl, _, _, rfl, rfl, wipe2 _ _ _ _ _, ?_⟩
    dsimp only [tYes]
    rw [if_pos rfl]
    refine ht k x y b ex ey hb _ (s2.trans sT) D ⟨_, sT _ _ e2⟩ nD _ fun z H4 s4 f4 => ⟨ys, s4 _ _ (sT _ _ e2), small1000 (by omega), same_own nD ((s2.trans sT).trans s4), ys ++ [z], upd_same, ?_, by rw [List.length_append, l2]; rfl⟩
    rw [del_upd, List.take_add_one, hb]
    exact paired_snoc f4 (paired_imp (fun a b z => mono _ _ _ _ (del_same (sT.trans s4)) z) p2)
  · rintro H2 ⟨s2, ys, e2, p2, l2⟩
    rw [hl, List.take_length] at p2
    exact q D ys H2 s2 nD e2 (paired_imp (fun a b z => mono _ _ _ _ del_le z) p2)
theorem ints_paired {ys : List V} {l : List Int} (h : Paired (fun (y : V) (n : Int) => y = V.int n) ys l) : ys = vI l := by
  induction h with
  | nil => rfl
  | cons e _ ih => rw [e, ih]; rfl
/-- [F(x, y) for x, y in zip(l1, l2)], numbers -/
theorem zip_lc {K : PySem.W.Frag} {σ : L2.St} {H : Hp} {Q : VK} {i j : Nat} {te : TE} {ta : TA} {p1 p2 : Addr} {l1 l2 : List Int} (F : Int → Int → Int)
    (hi : ∀ R : List V → Hp → Prop, R [.ref p1, .ref p2] H → ta σ H R) (h1 : H p1 = some (.lst (vI l1))) (h2 : H p2 = some (.lst (vI l2))) (ll : l1.length = l2.length) (l9 : l1.length ≤ 900)
    (ht : ∀ x y, x ∈ l1 → y ∈ l2 → ∀ (H2 : Hp) (R : VK), R (.int (F x y)) H2 → te (((wipe σ [i, j]).set i (some (.int x))).set j (some (.int y))) H2 R)
    (q : ∀ p H', Same H H' → H p = none → H' p = some (.lst (vI (List.zipWith F l1 l2))) → Q (.ref p) H') : tLc (iZip K ta) (gTup K 2 (gCons (gName i) (gCons (gName j) gNil))) tYes te [i, j] σ H Q := by
  refine pairs_lc (bs := List.zipWith F l1 l2) (walk_zip (K := K) (a := p1) (b := p2) (xs := vI l1) (ys := vI l2) (n := l1.length) (by rw [List.length_map, List.length_map, ← ll, Nat.min_self])) (fun _ y n => y = V.int n) (fun _ _ _ _ _ e => e) (fun R h => hi _ ⟨p1, p2, _, _, rfl, SqL.of h1, SqL.of h2, h⟩) (fun H2 s => ⟨SqL.of (s _ _ h1), SqL.of (s _ _ h2)⟩) (by rw [List.length_zipWith, ← ll, Nat.min_self]) l9 (fun k x y b ex ey eb H2 s2 D hD nD R hR => ?_) fun p ys H' s' np ep hp => ?_
  · rw [List.getElem?_map] at ex ey
    obtain ⟨n1, e1, rfl⟩ := Option.map_eq_some_iff.mp ex
    obtain ⟨n2, e2, rfl⟩ := Option.map_eq_some_iff.mp ey
    have z : b = F n1 n2 := by
      rw [List.getElem?_zipWith, e1, e2] at eb
      exact (Option.some.inj eb).symm
    exact ht n1 n2 (List.mem_of_getElem? e1) (List.mem_of_getElem? e2) H2 R (hR _ _ (Same.refl _) (by rw [z]))
  · rw [ints_paired hp] at ep
    exact q p H' s' np ep
end Kn
-- part VLcm
/-! math.lcm; first_place. -/
namespace L2
open PySem PySem.Spec PyProof.Rows
section
variable {X : Cx}
def rLcm : List V → Hp → VK → Prop := fun vs H Q => ∃ a b : Int, vs = [.int a, .int b] ∧ a.natAbs < 2 ^ 13000 ∧ b.natAbs < 2 ^ 13000 ∧ Q (.int ((Nat.lcm a.natAbs b.natAbs : Nat) : Int)) H
theorem lcm_log {n : Nat} (h : n < 2 ^ 13000) : ¬ n.log2 / 30 + 1 > 450 := by
  have z : n.log2 ≤ 12999 := PySem.W.mg_log (k := 12999) h
  omega
theorem cr_lcm : CallR X (.builtin "math.lcm") rLcm := by
  intro pins s σ H vs us Q I r h
  obtain ⟨a, b, rfl, ha, hb, q⟩ := h
  obtain ⟨t, u, rfl⟩ := Vals.int2 r
  have o2 : 1 < 2 ^ 13000 := Nat.lt_of_lt_of_le (show 1 < 2 ^ 1 by decide) (Nat.pow_le_pow_right (by decide) (by decide))
  have e : Nat.lcm 1 a.natAbs = a.natAbs := Nat.lcm_one_left _
  have m1 : max 1 a.natAbs < 2 ^ 13000 := by
    generalize 2 ^ 13000 = z at *
    omega
  have m2 : max a.natAbs b.natAbs < 2 ^ 13000 := by
    generalize 2 ^ 13000 = z at *
    omega
  have m3 : Nat.lcm a.natAbs b.natAbs < 2 ^ 26000 := by
    have z : Nat.lcm a.natAbs b.natAbs ≤ a.natAbs * b.natAbs := Nat.div_le_self _ _
    have y := Nat.mul_lt_mul'' ha hb
    rw [← Nat.pow_add] at y
    exact Nat.lt_of_le_of_lt z y
  have m := PySem.W.mg_run_lcm a t b u (lcm_log m1) (lcm_log m2) (by
    rw [Int.natAbs_natCast, e]
    have z : (Nat.lcm a.natAbs b.natAbs).log2 ≤ 25999 := PySem.W.mg_log (k := 25999) m3
    have y : bitsLine = 134217728 := by decide
    rw [y]
    omega)
  rw [e] at m
  exact call_function_meets PySem.W.MGF.kind_lcm PySem.W.MGF.plain_lcm PySem.W.MGF.entry_lcm (PySem.W.MGF.args_lcm _ _) m.meets ⟨.int _, H, I.tok _, ⟨_, rfl⟩, q⟩
end
end L2
-- part VRank
/-! Rows hang on those ahead of them: the law's rank. -/
namespace La
def colA (vs : List (List Int)) (k : Nat) : List Int := vs.map fun r => r.getD k 0
/-- a row that some of these rows tell, many times over -/
def InSp (vs : List (List Int)) (x : List Int) : Prop := ∃ c : Int, c ≠ 0 ∧ ∃ y : Nat → Int, ∀ k, c * x.getD k 0 = dotN (colA vs k) y
theorem colA_len {vs : List (List Int)} {k : Nat} : (colA vs k).length = vs.length := List.length_map ..
theorem InSp.ext {vs : List (List Int)} {x z : List Int} (h : InSp vs x) (e : ∀ k, z.getD k 0 = x.getD k 0) : InSp vs z := by
  obtain ⟨c, c0, y, hy⟩ := h
  exact ⟨c, c0, y, fun k => by rw [e, hy]⟩
theorem InSp.app {vs ws : List (List Int)} {x : List Int} (h : InSp vs x) : InSp (vs ++ ws) x := by
  obtain ⟨c, c0, y, hy⟩ := h
  refine ⟨c, c0, fun i => if i < vs.length then y i else 0, fun k => ?_⟩
  have e : colA (vs ++ ws) k = colA vs k ++ colA ws k := List.map_append ..
  rw [hy, e, dot_app, dot_zero (r := colA ws k) fun i _ => by rw [colA_len, if_neg (by omega), Int.mul_zero], Int.add_zero]
  exact dot_ext fun i hi => by rw [colA_len] at hi; rw [if_pos hi]
theorem InSp.mem {vs : List (List Int)} {i : Nat} (h : i < vs.length) : InSp vs (vs.getD i []) := by
  refine ⟨1, by decide, fun j => if j = i then 1 else 0, fun k => ?_⟩
  rw [dot_one (i := i) (by rw [colA_len]; exact h) fun j _ ne => by rw [if_neg ne, Int.mul_zero], if_pos rfl, Int.mul_one, Int.one_mul]
  unfold colA
  rw [List.getD_eq_getElem?_getD (l := vs.map _), List.getElem?_map, List.getD_eq_getElem?_getD (l := vs), List.getElem?_eq_getElem h]
  rfl
theorem InSp.lin {vs : List (List Int)} {x z r : List Int} {t d s : Int} (hx : InSp vs x) (hz : InSp vs z) (s0 : s ≠ 0) (e : ∀ k, s * r.getD k 0 = t * x.getD k 0 - d * z.getD k 0) : InSp vs r := by
  obtain ⟨c, c0, y, hy⟩ := hx
  obtain ⟨c', c0', y', hy'⟩ := hz
  refine ⟨c * c' * s, Int.mul_ne_zero (Int.mul_ne_zero c0 c0') s0, fun i => t * c' * y i + -(d * c) * y' i, fun k => ?_⟩
  rw [dot_add, dot_smul, dot_smul, ← hy, ← hy', Int.mul_assoc, e, Int.mul_sub, Int.neg_mul, ← Int.sub_eq_add_neg]
  congr 1
  · rw [show c * c' * (t * x.getD k 0) = t * c' * (c * x.getD k 0) by simp only [Int.mul_assoc, Int.mul_left_comm, Int.mul_comm]]
  · rw [show c * c' * (d * z.getD k 0) = d * c * (c' * z.getD k 0) by simp only [Int.mul_assoc, Int.mul_left_comm, Int.mul_comm]]
theorem InSp.zero {vs : List (List Int)} {x : List Int} (h : ∀ k, x.getD k 0 = 0) : InSp vs x := ⟨1, by decide, fun _ => 0, fun k => by rw [h, Int.mul_zero, dot_zero fun _ _ => Int.mul_zero _]⟩
/-- what those tell that these tell, these tell -/
theorem InSp.trans {vs : List (List Int)} : ∀ {B : List (List Int)} {x : List Int}, (∀ b ∈ B, InSp vs b) → InSp B x → InSp vs x
  | [], x, _, ⟨c, c0, y, hy⟩ => InSp.zero fun k => (Int.mul_eq_zero.mp ((hy k).trans rfl)).resolve_left c0
  | b :: B, x, hB, ⟨c, c0, y, hy⟩ => by
    have hb := hB b (List.mem_cons_self ..)
    -- c x - y0 b
    have n : ∃ r : List Int, ∀ k, r.getD k 0 = c * x.getD k 0 - y 0 * b.getD k 0 := by
      refine ⟨(List.range (max x.length b.length)).map fun k => c * x.getD k 0 - y 0 * b.getD k 0, fun k => ?_⟩
      rw [List.getD_eq_getElem?_getD, List.getElem?_map]
      by_cases h : k < max x.length b.length
      · rw [List.getElem?_range h]; rfl
      · rw [List.getElem?_eq_none (by rw [List.length_range]; omega), List.getD_eq_getElem?_getD (l := x), List.getD_eq_getElem?_getD (l := b), List.getElem?_eq_none (by omega), List.getElem?_eq_none (by omega)]
        simp
    obtain ⟨r, hr⟩ := n
    have ir : InSp vs r := InSp.trans (B := B) (fun a ha => hB a (List.mem_cons_of_mem _ ha)) ⟨1, by decide, fun i => y (i + 1), fun k => by
      have z : c * x.getD k 0 = b.getD k 0 * y 0 + dotN (colA B k) fun i => y (i + 1) := hy k
      rw [hr, z, Int.one_mul, Int.mul_comm (y 0)]
      omega⟩
    refine InSp.lin (t := 1) (d := -(y 0)) (s := c) ir hb c0 fun k => ?_
    rw [hr, Int.neg_mul, Int.one_mul]
    omega
def addF (B : List Brow) (v : List Int) : List Brow := match firstNz (lessF v B) with
  | none => B
  | some s => B ++ [(s, lessF v B)]
def baseF (vs : List (List Int)) : List Brow := vs.foldl addF []
def rankF (vs : List (List Int)) : Nat := (baseF vs).length
structure Ech (n : Nat) (B : List Brow) : Prop where
  len : ∀ b ∈ B, b.2.length = n
  lt : ∀ b ∈ B, b.1 < n
  on : ∀ b ∈ B, b.2.getD b.1 0 ≠ 0
  off : B.Pairwise fun b c => c.2.getD b.1 0 = 0
/-- one step tells the same, given the row it draws -/
theorem step_in {vs : List (List Int)} {f : List Int} {b : Brow} (hl : f.length = b.2.length) (on : b.2.getD b.1 0 ≠ 0) (hb : InSp vs b.2) : InSp vs (lessStep f b) ↔ InSp vs f := by
  unfold lessStep
  split
  · obtain ⟨s, s0, es⟩ := norm_scl (comb (b.2.getD b.1 0) (f.getD b.1 0) f b.2)
    have e : ∀ k, s * (normF (comb (b.2.getD b.1 0) (f.getD b.1 0) f b.2)).getD k 0 = b.2.getD b.1 0 * f.getD k 0 - f.getD b.1 0 * b.2.getD k 0 := fun k => by
      rw [← comb_at hl]
      conv => rhs; rw [es]
      rw [List.getD_eq_getElem?_getD (l := List.map _ _), List.getD_eq_getElem?_getD (l := normF _), List.getElem?_map]
      cases (normF (comb (b.2.getD b.1 0) (f.getD b.1 0) f b.2))[k]? with
      | none => exact Int.mul_zero _
      | some x => rfl
    refine ⟨fun h => InSp.lin (t := s) (d := -(f.getD b.1 0)) h hb on fun k => ?_, fun h => InSp.lin h hb (by omega) e⟩
    rw [e, Int.neg_mul]
    omega
  · exact Iff.rfl
theorem less_in {vs : List (List Int)} {n : Nat} : ∀ {B : List Brow} {f : List Int}, f.length = n → (∀ b ∈ B, b.2.length = n) → (∀ b ∈ B, b.2.getD b.1 0 ≠ 0) → (∀ b ∈ B, InSp vs b.2) → (InSp vs (lessF f B) ↔ InSp vs f)
  | [], _, _, _, _, _ => Iff.rfl
  | b :: B, f, hf, hl, on, hb => by
    have e : f.length = b.2.length := by rw [hf, hl b (List.mem_cons_self ..)]
    have ih := less_in (vs := vs) (B := B) (f := lessStep f b) (by rw [step_len e, hf]) (fun c hc => hl c (List.mem_cons_of_mem _ hc)) (fun c hc => on c (List.mem_cons_of_mem _ hc)) fun c hc => hb c (List.mem_cons_of_mem _ hc)
    exact ih.trans (step_in e (on b (List.mem_cons_self ..)) (hb b (List.mem_cons_self ..)))
theorem lessF_len {n : Nat} : ∀ {B : List Brow} {f : List Int}, f.length = n → (∀ b ∈ B, b.2.length = n) → (lessF f B).length = n
  | [], _, h, _ => h
  | b :: B, f, h, hl => lessF_len (B := B) (f := lessStep f b) (by rw [step_len (by rw [h, hl b (List.mem_cons_self ..)]), h]) fun c hc => hl c (List.mem_cons_of_mem _ hc)
/-- nothing is left at the places of the base -/
theorem less_zero {n : Nat} : ∀ {B : List Brow} {f : List Int} (z : List Nat), f.length = n → (∀ b ∈ B, b.2.length = n) → B.Pairwise (fun b c => c.2.getD b.1 0 = 0) → (∀ q ∈ z, f.getD q 0 = 0) → (∀ q ∈ z, ∀ b ∈ B, b.2.getD q 0 = 0) →
    (∀ q ∈ z, (lessF f B).getD q 0 = 0) ∧ ∀ b ∈ B, (lessF f B).getD b.1 0 = 0
  | [], f, z, _, _, _, h, _ => ⟨h, fun b hb => by cases hb⟩
  | b :: B, f, z, hf, hl, pw, h, hz => by
    have e : f.length = b.2.length := by rw [hf, hl b (List.mem_cons_self ..)]
    obtain ⟨p1, p2⟩ := List.pairwise_cons.mp pw
    have ih := less_zero (n := n) (B := B) (f := lessStep f b) (b.1 :: z) (by rw [step_len e, hf]) (fun c hc => hl c (List.mem_cons_of_mem _ hc)) p2
      (fun q hq => by
        rcases List.mem_cons.mp hq with rfl | hq
        · exact step_own e
        · exact step_keep e (hz q hq b (List.mem_cons_self ..)) (h q hq))
      (fun q hq c hc => by
        rcases List.mem_cons.mp hq with rfl | hq
        · exact p1 c hc
        · exact hz q hq c (List.mem_cons_of_mem _ hc))
    refine ⟨fun q hq => ih.1 q (List.mem_cons_of_mem _ hq), fun c hc => ?_⟩
    rcases List.mem_cons.mp hc with rfl | hc
    · exact ih.1 _ (List.mem_cons_self ..)
    · exact ih.2 c hc
/-- told by the base and nothing at its places: nothing -/
theorem ech_zero : ∀ {B : List Brow} {z : List Int} {c : Int} {y : Nat → Int}, (∀ b ∈ B, b.2.getD b.1 0 ≠ 0) → B.Pairwise (fun b c => c.2.getD b.1 0 = 0) → (∀ b ∈ B, z.getD b.1 0 = 0) → c ≠ 0 → (∀ k, c * z.getD k 0 = dotN (colA (B.map (·.2)) k) y) → ∀ k, z.getD k 0 = 0
  | [], z, c, y, _, _, _, c0, h, k => (Int.mul_eq_zero.mp ((h k).trans rfl)).resolve_left c0
  | b :: B, z, c, y, on, pw, hz, c0, h, k => by
    obtain ⟨p1, p2⟩ := List.pairwise_cons.mp pw
    have h' : ∀ k, c * z.getD k 0 = b.2.getD k 0 * y 0 + dotN (colA (B.map (·.2)) k) fun i => y (i + 1) := h
    have d0 : dotN (colA (B.map (·.2)) b.1) (fun i => y (i + 1)) = 0 := dot_zero fun i hi => by
      have m : (colA (B.map (·.2)) b.1).getD i 0 = 0 := by
        rw [colA_len, List.length_map] at hi
        unfold colA
        rw [List.map_map, List.getD_eq_getElem?_getD, List.getElem?_map, List.getElem?_eq_getElem hi]
        exact p1 _ (List.getElem_mem hi)
      rw [m, Int.zero_mul]
    have y0 : y 0 = 0 := by
      have e := h' b.1
      rw [d0, hz b (List.mem_cons_self ..), Int.mul_zero, Int.add_zero] at e
      exact (Int.mul_eq_zero.mp e.symm).resolve_left (on b (List.mem_cons_self ..))
    refine ech_zero (B := B) (z := z) (c := c) (y := fun i => y (i + 1)) (fun x hx => on x (List.mem_cons_of_mem _ hx)) p2 (fun x hx => hz x (List.mem_cons_of_mem _ hx)) c0 (fun k => ?_) k
    rw [h' k, y0, Int.mul_zero, Int.zero_add]
structure BaseOk (n : Nat) (vs : List (List Int)) (B : List Brow) : Prop where
  ech : Ech n B
  sub : ∀ b ∈ B, InSp vs b.2
  sup : ∀ v ∈ vs, InSp (B.map (·.2)) v
theorem BaseOk.nil {n : Nat} : BaseOk n [] [] := ⟨⟨fun _ h => (List.not_mem_nil h).elim, fun _ h => (List.not_mem_nil h).elim, fun _ h => (List.not_mem_nil h).elim, .nil⟩, fun _ h => (List.not_mem_nil h).elim, fun _ h => (List.not_mem_nil h).elim⟩
/-- what is left is nothing exactly where the row hangs on those -/
theorem BaseOk.left {n : Nat} {vs : List (List Int)} {B : List Brow} {v : List Int} (h : BaseOk n vs B) (hv : v.length = n) : firstNz (lessF v B) = none ↔ InSp vs v := by
  have li := less_in (vs := vs) hv h.ech.len h.ech.on h.sub
  have ll := lessF_len hv h.ech.len
  constructor
  · intro e
    refine li.mp (InSp.zero fun k => ?_)
    by_cases c : k < (lessF v B).length
    · exact first_none e k c
    · rw [List.getD_eq_getElem?_getD, List.getElem?_eq_none (by omega)]; rfl
  · intro hs
    have mB : ∀ b ∈ B, InSp (B.map (·.2)) b.2 := fun b hb => by
      obtain ⟨i, hi, e⟩ := List.getElem_of_mem hb
      have z := InSp.mem (vs := B.map (·.2)) (i := i) (by rw [List.length_map]; exact hi)
      rw [List.getD_eq_getElem?_getD, List.getElem?_map, List.getElem?_eq_getElem hi, e] at z
      exact z
    have ib : InSp (B.map (·.2)) (lessF v B) := (less_in hv h.ech.len h.ech.on mB).mpr (InSp.trans h.sup hs)
    obtain ⟨c, c0, y, hy⟩ := ib
    have zz := ech_zero h.ech.on h.ech.off (less_zero [] hv h.ech.len h.ech.off (fun _ h => (List.not_mem_nil h).elim) fun _ h => (List.not_mem_nil h).elim).2 c0 hy
    cases e : firstNz (lessF v B) with
    | none => rfl
    | some s => exact absurd (zz s) (first_some e).2.1
theorem BaseOk.add {n : Nat} {vs : List (List Int)} {B : List Brow} {v : List Int} (h : BaseOk n vs B) (hv : v.length = n) : BaseOk n (vs ++ [v]) (addF B v) := by
  have li := less_in (vs := vs ++ [v]) hv h.ech.len h.ech.on fun b hb => (h.sub b hb).app
  have ll := lessF_len hv h.ech.len
  unfold addF
  cases e : firstNz (lessF v B) with
  | none =>
    have iv := (h.left hv).mp e
    refine ⟨h.ech, fun b hb => (h.sub b hb).app, fun x hx => ?_⟩
    rcases List.mem_append.mp hx with m | m
    · exact h.sup x m
    · rw [List.mem_singleton.mp m]
      exact InSp.trans h.sup iv
  | some s =>
    obtain ⟨s1, s2, _⟩ := first_some e
    have vz := (less_zero [] hv h.ech.len h.ech.off (fun _ h => (List.not_mem_nil h).elim) fun _ h => (List.not_mem_nil h).elim).2
    have mv : InSp (vs ++ [v]) v := by
      have z := InSp.mem (vs := vs ++ [v]) (i := vs.length) (by rw [List.length_append]; simp)
      rw [List.getD_eq_getElem?_getD, List.getElem?_append_right (Nat.le_refl _), Nat.sub_self] at z
      exact z
    dsimp only
    refine ⟨⟨fun b hb => ?_, fun b hb => ?_, fun b hb => ?_, List.pairwise_append.mpr ⟨h.ech.off, List.pairwise_singleton .., fun b hb c hc => ?_⟩⟩, fun b hb => ?_, fun x hx => ?_⟩
    · rcases List.mem_append.mp hb with m | m
      · exact h.ech.len b m
      · rw [List.mem_singleton.mp m]
        exact ll
    · rcases List.mem_append.mp hb with m | m
      · exact h.ech.lt b m
      · rw [List.mem_singleton.mp m]
        rw [← ll]
        exact s1
    · rcases List.mem_append.mp hb with m | m
      · exact h.ech.on b m
      · rw [List.mem_singleton.mp m]
        exact s2
    · rw [List.mem_singleton.mp hc]
      exact vz b hb
    · rcases List.mem_append.mp hb with m | m
      · exact (h.sub b m).app
      · rw [List.mem_singleton.mp m]
        exact li.mpr mv
    · rw [List.map_append]
      rcases List.mem_append.mp hx with m | m
      · exact (h.sup x m).app
      · rw [List.mem_singleton.mp m]
        have mB : ∀ b ∈ B, InSp (B.map (·.2) ++ [lessF v B]) b.2 := fun b hb => by
          obtain ⟨i, hi, e⟩ := List.getElem_of_mem hb
          have z := InSp.mem (vs := B.map (·.2)) (i := i) (by rw [List.length_map]; exact hi)
          rw [List.getD_eq_getElem?_getD, List.getElem?_map, List.getElem?_eq_getElem hi, e] at z
          exact z.app
        refine (less_in hv h.ech.len h.ech.on mB).mp ?_
        have z := InSp.mem (vs := B.map (·.2) ++ [lessF v B]) (i := (B.map (·.2)).length) (by rw [List.length_append]; simp)
        rw [List.getD_eq_getElem?_getD, List.getElem?_append_right (Nat.le_refl _), Nat.sub_self] at z
        exact z
theorem base_take {vs : List (List Int)} {k : Nat} {r : List Int} (h : vs[k]? = some r) : baseF (vs.take (k + 1)) = addF (baseF (vs.take k)) r := by
  unfold baseF
  rw [List.take_add_one, h, List.foldl_append]
  rfl
theorem base_ok {n : Nat} {vs : List (List Int)} (hl : ∀ r ∈ vs, r.length = n) : ∀ k, k ≤ vs.length → BaseOk n (vs.take k) (baseF (vs.take k))
  | 0, _ => BaseOk.nil
  | k + 1, hk => by
    obtain ⟨r, e⟩ : ∃ r, vs[k]? = some r := ⟨_, List.getElem?_eq_getElem (by omega)⟩
    rw [base_take e, List.take_add_one, e]
    exact (base_ok hl k (by omega)).add (hl r (List.mem_of_getElem? e))
/-- the rank grows by each row that hangs on none ahead of it -/
theorem rank_step {n : Nat} {vs : List (List Int)} (hl : ∀ r ∈ vs, r.length = n) {k : Nat} {r : List Int} (h : vs[k]? = some r) : (InSp (vs.take k) r → rankF (vs.take (k + 1)) = rankF (vs.take k)) ∧ (¬ InSp (vs.take k) r → rankF (vs.take (k + 1)) = rankF (vs.take k) + 1) := by
  have kl := (List.getElem?_eq_some_iff.mp h).1
  have bo := base_ok hl k (by omega)
  have lf := bo.left (hl r (List.mem_of_getElem? h))
  unfold rankF
  rw [base_take h]
  refine ⟨fun i => ?_, fun i => ?_⟩
  · unfold addF
    rw [lf.mpr i]
  · unfold addF
    cases e : firstNz (lessF r (baseF (vs.take k))) with
    | none => exact absurd (lf.mp e) i
    | some s => exact List.length_append ..
theorem rank_le {n : Nat} {vs : List (List Int)} (hl : ∀ r ∈ vs, r.length = n) : ∀ k, k ≤ vs.length → rankF (vs.take k) ≤ k
  | 0, _ => Nat.le_refl _
  | k + 1, hk => by
    obtain ⟨r, e⟩ : ∃ r, vs[k]? = some r := ⟨_, List.getElem?_eq_getElem (by omega)⟩
    have ih := rank_le hl k (by omega)
    obtain ⟨h1, h2⟩ := rank_step hl e
    by_cases c : InSp (vs.take k) r
    · rw [h1 c]; omega
    · rw [h2 c]; omega
/-- numbers, not all nothing, that the rows don't tell apart from nothing -/
def Rel (vs : List (List Int)) (y : Nat → Int) : Prop := ∀ k, dotN (colA vs k) y = 0
theorem rel_of_in {vs : List (List Int)} {k : Nat} {r : List Int} (h : vs[k]? = some r) (i : InSp (vs.take k) r) : ∃ y, Rel vs y ∧ y k ≠ 0 ∧ ∀ j, k < j → y j = 0 := by
  obtain ⟨c, c0, y, hy⟩ := i
  have kl := (List.getElem?_eq_some_iff.mp h).1
  have kt : (vs.take k).length = k := by rw [List.length_take]; omega
  refine ⟨fun i => if i < k then y i else if i = k then -c else 0, fun q => ?_, ?_, fun j hj => ?_⟩
  · have e : vs = vs.take k ++ (r :: vs.drop (k + 1)) := by
      conv => lhs; rw [← List.take_append_drop k vs]
      rw [List.drop_eq_getElem_cons kl, (List.getElem?_eq_some_iff.mp h).2]
    have ec : colA vs q = colA (vs.take k) q ++ (r.getD q 0 :: colA (vs.drop (k + 1)) q) := by
      conv => lhs; rw [e]
      unfold colA
      rw [List.map_append]
      rfl
    rw [ec, dot_app, dot_ext (w := y) fun i hi => by rw [colA_len, kt] at hi; rw [if_pos hi], ← hy, colA_len, kt]
    show _ + (r.getD q 0 * (if k + 0 < k then _ else if k + 0 = k then -c else 0) + dotN _ _) = 0
    rw [if_neg (by omega), if_pos (by omega), dot_zero fun i _ => ?_]
    · rw [Int.add_zero, Int.mul_neg, Int.mul_comm c]
      omega
    · show _ * (if k + (i + 1) < k then _ else if k + (i + 1) = k then -c else 0) = 0
      rw [if_neg (by omega), if_neg (by omega), Int.mul_zero]
  · dsimp only
    rw [if_neg (by omega), if_pos rfl]
    omega
  · dsimp only
    rw [if_neg (by omega), if_neg (by omega)]
theorem in_of_rel {vs : List (List Int)} {k : Nat} {r : List Int} {y : Nat → Int} (h : vs[k]? = some r) (hy : Rel vs y) (n : y k ≠ 0) (z : ∀ j, k < j → y j = 0) : InSp (vs.take k) r := by
  have kl := (List.getElem?_eq_some_iff.mp h).1
  have kt : (vs.take k).length = k := by rw [List.length_take]; omega
  refine ⟨y k, n, fun i => (-1) * y i, fun q => ?_⟩
  have e : vs = vs.take k ++ (r :: vs.drop (k + 1)) := by
    conv => lhs; rw [← List.take_append_drop k vs]
    rw [List.drop_eq_getElem_cons kl, (List.getElem?_eq_some_iff.mp h).2]
  have ec : colA vs q = colA (vs.take k) q ++ (r.getD q 0 :: colA (vs.drop (k + 1)) q) := by
    conv => lhs; rw [e]
    unfold colA
    rw [List.map_append]
    rfl
  have hq := hy q
  rw [ec, dot_app, colA_len, kt] at hq
  have hq2 : dotN (colA (vs.take k) q) y + (r.getD q 0 * y (k + 0) + dotN (colA (vs.drop (k + 1)) q) fun i => y (k + (i + 1))) = 0 := hq
  rw [dot_zero (r := colA (vs.drop (k + 1)) q) fun i _ => by rw [z _ (by omega), Int.mul_zero], Nat.add_zero, Int.add_zero] at hq2
  rw [dot_smul, Int.mul_comm (y k)]
  omega
/-- the last number that isn't nothing -/
theorem top_of {y : Nat → Int} : ∀ (m : Nat), (∃ k, k < m ∧ y k ≠ 0) → ∃ k, k < m ∧ y k ≠ 0 ∧ ∀ j, k < j → j < m → y j = 0
  | 0, ⟨k, h, _⟩ => absurd h (Nat.not_lt_zero _)
  | m + 1, ⟨k, h, n⟩ => by
    by_cases c : y m = 0
    · have km : k ≠ m := fun e => n (by rw [e]; exact c)
      obtain ⟨k', h1, h2, h3⟩ := top_of m ⟨k, by omega, n⟩
      refine ⟨k', by omega, h2, fun j a b => ?_⟩
      by_cases jm : j = m
      · rw [jm]; exact c
      · exact h3 j a (by omega)
    · exact ⟨m, by omega, c, fun j a b => by omega⟩
theorem Rel.cut {vs : List (List Int)} {y : Nat → Int} (h : Rel vs y) : Rel vs fun i => if i < vs.length then y i else 0 := fun k => by
  rw [dot_ext (w := y) fun i hi => by rw [colA_len] at hi; rw [if_pos hi]]
  exact h k
/-- a rank below the number of rows: they hang together -/
theorem rank_lt {n : Nat} {vs : List (List Int)} (hl : ∀ r ∈ vs, r.length = n) : rankF vs < vs.length ↔ ∃ y, Rel vs y ∧ ∃ k, k < vs.length ∧ y k ≠ 0 := by
  constructor
  · intro h
    apply Classical.byContradiction
    intro c
    have all : ∀ k, k ≤ vs.length → rankF (vs.take k) = k := fun k => by
      induction k with
      | zero => intro _; rfl
      | succ k ih =>
        intro hk
        obtain ⟨r, e⟩ : ∃ r, vs[k]? = some r := ⟨_, List.getElem?_eq_getElem (by omega)⟩
        rw [(rank_step hl e).2 fun i => c ?_, ih (by omega)]
        obtain ⟨y, hy, n, _⟩ := rel_of_in e i
        exact ⟨y, hy, k, by omega, n⟩
    have z := all vs.length (Nat.le_refl _)
    rw [List.take_length] at z
    omega
  · rintro ⟨y, hy, k, hk, n⟩
    obtain ⟨k', h1, h2, h3⟩ := top_of vs.length ⟨k, hk, n⟩
    obtain ⟨r, e⟩ : ∃ r, vs[k']? = some r := ⟨_, List.getElem?_eq_getElem h1⟩
    have i := in_of_rel e hy.cut (by rw [if_pos h1]; exact h2) fun j hj => by
      by_cases c : j < vs.length
      · rw [if_pos c, h3 j hj c]
      · rw [if_neg c]
    have s := (rank_step hl e).1 i
    have l1 := rank_le hl k' (by omega)
    have up : ∀ m, k' + 1 + m ≤ vs.length → rankF (vs.take (k' + 1 + m)) ≤ k' + m := fun m => by
      induction m with
      | zero => intro _; rw [Nat.add_zero, s]; exact l1
      | succ m ih =>
        intro hm
        have z := ih (by omega)
        obtain ⟨r2, e2⟩ : ∃ r, vs[k' + 1 + m]? = some r := ⟨_, List.getElem?_eq_getElem (by omega)⟩
        obtain ⟨a1, a2⟩ := rank_step hl e2
        by_cases c : InSp (vs.take (k' + 1 + m)) r2
        · rw [show k' + 1 + (m + 1) = k' + 1 + m + 1 by omega, a1 c]; omega
        · rw [show k' + 1 + (m + 1) = k' + 1 + m + 1 by omega, a2 c]; omega
    have z := up (vs.length - (k' + 1)) (by omega)
    rw [show k' + 1 + (vs.length - (k' + 1)) = vs.length by omega, List.take_length] at z
    omega
end La
-- part VFp
set_option maxHeartbeats 4000000
/-! first_place. -/
namespace Kn
open PySem PySem.Spec PyProof.Rows L2 La
abbrev sFp : Stmt := topS 15
abbrev NFp : List Str := ["row", "at", "number"]
theorem scFp : FnScope NFp ["row"] (defScope sFp) := ⟨rfl, rfl, rfl, by decide +kernel, rfl, by decide +kernel, by decide +kernel⟩
def placeV : Option Nat → V
  | none => .non
  | some i => .int (i : Nat)
def spFp : Sp := fun vs H Q _ => ∃ a r, vs = [.ref a] ∧ H a = some (.lst (vI r)) ∧ ∀ H', Same H H' → Q (placeV (firstNz r)) H'
theorem first_is {r : List Int} {i : Nat} (h : i < r.length) (n : r.getD i 0 ≠ 0) (z : ∀ k, k < i → r.getD k 0 = 0) : firstNz r = some i := by
  cases e : firstNz r with
  | none => exact absurd (first_none e i h) n
  | some s =>
    obtain ⟨s1, s2, s3⟩ := first_some e
    rcases Nat.lt_trichotomy s i with c | c | c
    · exact absurd (z s c) s2
    · rw [c]
    · exact absurd (s3 i c) n
theorem first_isnt {r : List Int} (z : ∀ k, k < r.length → r.getD k 0 = 0) : firstNz r = none := by
  cases e : firstNz r with
  | none => rfl
  | some s => exact absurd (z s (first_some e).1) (first_some e).2.1
section
variable {P : Program} {w : World} {K : PySem.W.Frag} {mg : Str → Option Value} {base : Heap}
theorem ok_first {f : Addr} {fd : FuncData} (F : Fun K "first_place" "first_place" sFp f fd) (me : mg "enumerate" = none) : FnOk P w K mg base CX0 1 f fd ["row"] spFp := by
  have S := scFp
  refine F.ok S (fun vs H Q E h => ?_) (fun cdv A outer s H vs Q E hr h => ?_)
  · obtain ⟨a, r, rfl, _⟩ := h
    rfl
  · obtain ⟨a, r, rfl, ha, q⟩ := h
    refine ⟨_, (pss_cons (ps_for PassesOwn.never rfl (pi_enum (by rfl) me (pa_cons (pv 0) pa_nil)) (pg_tup rfl (pgs_cons (pg_name (i := 1) S.nd rfl (.inl rfl)) (pgs_cons (pg_name (i := 2) S.nd rfl (.inl rfl)) pgs_nil)))
        (pss_one (ps_if (pt_cmpR op_ne (pv 2) pe_int (nomark _)) (pss_one (ps_ret (pv 1))) pss_nil)))
      (pss_one (ps_ret pe_non))), ?_⟩
    refine ⟨_, rfl, a, _, rfl, SqL.of ha, for_it (walk_enum (K := K) (a := a) (xs := vI r)) (fun i σ H' => (∃ y1 y2, σ = [some (.ref a), y1, y2]) ∧ Same H H' ∧ ∀ k, k < i → r.getD k 0 = 0) ⟨⟨none, none, rfl⟩, Same.refl _, fun k hk => absurd hk (Nat.not_lt_zero _)⟩ (fun i σ H' _ p => SqL.of (p.2.1 _ _ ha)) ?_ ?_⟩
    · rintro i x σ H1 H2 hi ⟨⟨y1, y2, rfl⟩, s1, z⟩ ⟨T, u, v, rfl, nT, rfl, e1, e2⟩
      cases e1
      have e2 : (vI r)[i]? = some v := e2
      rw [List.getElem?_map] at e2
      obtain ⟨n, hn, rfl⟩ := Option.map_eq_some_iff.mp e2
      have s2 : Same H (L2.upd H1 T (.tup [.int (i : Nat), .int n])) := s1.trans (same_new nT)
      have gd : r.getD i 0 = n := by rw [List.getD_eq_getElem?_getD, hn]; rfl
      have il := (List.getElem?_eq_some_iff.mp hn).1
      refine ⟨T, _, rfl, SqT.of upd_same, rfl, _, _, rfl, _, _, rfl, rfl, _, rfl, rfl, !decide (V.int n = V.int 0), rfl, ?_⟩
      by_cases c : n = 0
      · rw [decide_eq_true (by rw [c])]
        refine iteF ⟨⟨_, _, rfl⟩, s2, fun k hk => ?_⟩
        by_cases e : k = i
        · rw [e, gd, c]
        · exact z k (by omega)
      · rw [decide_eq_false (fun y => c (V.int.inj y))]
        refine iteT ⟨_, rfl, ?_⟩
        have y := q _ s2
        rw [first_is il (by rw [gd]; exact c) z] at y
        exact y
    · rintro σ H1 ⟨⟨y1, y2, rfl⟩, s1, z⟩
      have y := q _ s1
      rw [List.length_map] at z
      rw [first_isnt z] at y
      exact y
theorem ok_firstT {f : Addr} {fd : FuncData} (F : Fun K "first_place" "first_place" sFp f fd) (me : mg "enumerate" = none) : FnOk P w K mg base CX0 1 f fd ["row"] (fun vs H Q E => ∃ a r, vs = [.ref a] ∧ Row H (.ref a) r ∧ ∀ H', Same H H' → Q (placeV (firstNz r)) H') := by
  have S := scFp
  refine F.ok S (fun vs H Q E h => ?_) (fun cdv A outer s H vs Q E hr h => ?_)
  · obtain ⟨a, r, rfl, _⟩ := h
    rfl
  · obtain ⟨a, r, rfl, ⟨a', ea, ha, _⟩, q⟩ := h
    cases ea
    refine ⟨_, (pss_cons (ps_for PassesOwn.never rfl (pi_enumT (by rfl) me (pa_cons (pv 0) pa_nil)) (pg_tup rfl (pgs_cons (pg_name (i := 1) S.nd rfl (.inl rfl)) (pgs_cons (pg_name (i := 2) S.nd rfl (.inl rfl)) pgs_nil)))
        (pss_one (ps_if (pt_cmpR op_ne (pv 2) pe_int (nomark _)) (pss_one (ps_ret (pv 1))) pss_nil)))
      (pss_one (ps_ret pe_non))), ?_⟩
    refine ⟨_, rfl, a, _, rfl, .inl ha, for_it (walk_enumT (K := K) (a := a) (xs := vI r)) (fun i σ H' => (∃ y1 y2, σ = [some (.ref a), y1, y2]) ∧ Same H H' ∧ ∀ k, k < i → r.getD k 0 = 0) ⟨⟨none, none, rfl⟩, Same.refl _, fun k hk => absurd hk (Nat.not_lt_zero _)⟩ (fun i σ H' _ p => .inl (Rd.same ha p.2.1)) ?_ ?_⟩
    · rintro i x σ H1 H2 hi ⟨⟨y1, y2, rfl⟩, s1, z⟩ ⟨T, u, v, rfl, nT, rfl, e1, e2⟩
      cases e1
      have e2 : (vI r)[i]? = some v := e2
      rw [List.getElem?_map] at e2
      obtain ⟨n, hn, rfl⟩ := Option.map_eq_some_iff.mp e2
      have s2 : Same H (L2.upd H1 T (.tup [.int (i : Nat), .int n])) := s1.trans (same_new nT)
      have gd : r.getD i 0 = n := by rw [List.getD_eq_getElem?_getD, hn]; rfl
      have il := (List.getElem?_eq_some_iff.mp hn).1
      refine ⟨T, _, rfl, SqT.of upd_same, rfl, _, _, rfl, _, _, rfl, rfl, _, rfl, rfl, !decide (V.int n = V.int 0), rfl, ?_⟩
      by_cases c : n = 0
      · rw [decide_eq_true (by rw [c])]
        refine iteF ⟨⟨_, _, rfl⟩, s2, fun k hk => ?_⟩
        by_cases e : k = i
        · rw [e, gd, c]
        · exact z k (by omega)
      · rw [decide_eq_false (fun y => c (V.int.inj y))]
        refine iteT ⟨_, rfl, ?_⟩
        have y := q _ s2
        rw [first_is il (by rw [gd]; exact c) z] at y
        exact y
    · rintro σ H1 ⟨⟨y1, y2, rfl⟩, s1, z⟩
      have y := q _ s1
      rw [List.length_map] at z
      rw [first_isnt z] at y
      exact y
end
end Kn
-- part VWf
set_option maxHeartbeats 4000000
/-! A comprehension with a test, over anything walked. -/
namespace Kn
open PySem PySem.Spec PyProof.Rows L2 La
theorem fm_take {α : Type} {bs : List (Option α)} {k : Nat} {b : Option α} (h : bs[k]? = some b) : (bs.take (k + 1)).filterMap id = (bs.take k).filterMap id ++ b.toList := by
  rw [List.take_add_one, h, List.filterMap_append]
  cases b <;> rfl
theorem fm_le {α : Type} (bs : List (Option α)) : (bs.filterMap id).length ≤ bs.length := List.length_filterMap_le _ _
theorem wf_lc {α : Type} {σ : L2.St} {H : Hp} {Q : VK} {J : It} {gH : Hp → Prop} {Y : Nat → Hp → V → Hp → Prop} {n : Nat} {g : TG} {tt : TT} {te : TE} {wi : TI} {vs : List Nat} {bs : List (Option α)} (w : Walk J n gH Y) (F : Hp → V → α → Prop) (mono : ∀ G G' y b, Same G G' → F G y b → F G' y b)
    (hi : ∀ R : It → Hp → Prop, R J H → wi σ H R) (hG : ∀ H2, Same H H2 → gH H2) (hl : n = bs.length) (ll : n ≤ 900)
    (ht : ∀ (k : Nat) (x : V) (H2 H3 : Hp) (b : Option α), bs[k]? = some b → Same H H2 → Y k H2 x H3 → ∀ (D : Addr), (∃ o, H2 D = some o) → H D = none → ∀ (R : VK) (Z : Hp → Prop), (∀ c y H4, b = some c → Same H2 H4 → F (delA D H4) y c → R y H4) → (∀ H4, b = none → Same H2 H4 → Z H4) →
      g x (wipe σ vs) H3 fun σ2 H4 => wipe σ2 vs = wipe σ vs ∧ tt σ2 H4 fun bb H5 => if bb = true then te σ2 H5 R else Z H5)
    (q : ∀ p ys H', Same H H' → H p = none → H' p = some (.lst ys) → Paired (F H') ys (bs.filterMap id) → Q (.ref p) H') : tLc wi g tt te vs σ H Q := by
  refine hi _ fun D nD => lc_it (D := D) w (fun k H2 => Same H H2 ∧ ∃ ys, H2 D = some (.lst ys) ∧ Paired (F (delA D H2)) ys ((bs.take k).filterMap id)) ⟨same_new nD, [], upd_same, .nil⟩ (fun k H2 _ p => hG _ p.1) ?_ ?_
  · rintro k x H2 H3 hk ⟨s2, ys, e2, p2⟩ y
    obtain ⟨b, hb⟩ : ∃ b, bs[k]? = some b := ⟨_, List.getElem?_eq_getElem (by omega)⟩
    have z := fm_le (bs.take k)
    rw [List.length_take] at z
    have ly := paired_len p2
    refine ht k x H2 H3 b hb s2 y D ⟨_, e2⟩ nD (fun v H4 => ∃ acc, H4 D = some (.lst acc) ∧ acc.length < sizeLine ∧ (Same H (L2.upd H4 D (.lst (acc ++ [v]))) ∧ ∃ ys', (L2.upd H4 D (.lst (acc ++ [v]))) D = some (.lst ys') ∧ Paired (F (delA D (L2.upd H4 D (.lst (acc ++ [v]))))) ys' ((bs.take (k + 1)).filterMap id))) (fun H4 => Same H H4 ∧ ∃ ys', H4 D = some (.lst ys') ∧ Paired (F (delA D H4)) ys' ((bs.take (k + 1)).filterMap id)) (fun c v H4 eb s4 f4 => ?_) fun H4 eb s4 => ?_
    · refine ⟨_, s4 _ _ e2, small1000 (by omega), same_own nD (s2.trans s4), _, upd_same, ?_⟩
      rw [fm_take hb, eb, del_upd]
      exact paired_snoc f4 (paired_imp (fun _ _ h => mono _ _ _ _ (del_same s4) h) p2)
    · refine ⟨s2.trans s4, _, s4 _ _ e2, ?_⟩
      rw [fm_take hb, eb]
      show Paired _ _ (_ ++ [])
      rw [List.append_nil]
      exact paired_imp (fun _ _ h => mono _ _ _ _ (del_same s4) h) p2
  · rintro H3 ⟨s3, ys, e3, p3⟩
    rw [hl, List.take_length] at p3
    exact q D ys H3 s3 nD e3 (paired_imp (fun _ _ h => mono _ _ _ _ del_le h) p3)
/-- the same where the walk's head makes things first -/
theorem wf_lcH {α : Type} {σ : L2.St} {H : Hp} {Q : VK} {Y : Nat → Hp → V → Hp → Prop} {n : Nat} {g : TG} {tt : TT} {te : TE} {wi : TI} {vs : List Nat} {bs : List (Option α)} (F : Hp → V → α → Prop) (mono : ∀ G G' y b, Same G G' → F G y b → F G' y b)
    (hi : ∀ R : It → Hp → Prop, (∀ (J : It) (gH : Hp → Prop) (H0 : Hp), Same H H0 → Walk J n gH Y → (∀ H2, Same H0 H2 → gH H2) → R J H0) → wi σ H R) (hl : n = bs.length) (ll : n ≤ 900)
    (ht : ∀ (k : Nat) (x : V) (H2 H3 : Hp) (b : Option α), bs[k]? = some b → Same H H2 → Y k H2 x H3 → ∀ (D : Addr), (∃ o, H2 D = some o) → H D = none → ∀ (R : VK) (Z : Hp → Prop), (∀ c y H4, b = some c → Same H2 H4 → F (delA D H4) y c → R y H4) → (∀ H4, b = none → Same H2 H4 → Z H4) →
      g x (wipe σ vs) H3 fun σ2 H4 => wipe σ2 vs = wipe σ vs ∧ tt σ2 H4 fun bb H5 => if bb = true then te σ2 H5 R else Z H5)
    (q : ∀ p ys H', Same H H' → H p = none → H' p = some (.lst ys) → Paired (F H') ys (bs.filterMap id) → Q (.ref p) H') : tLc wi g tt te vs σ H Q := by
  refine hi _ fun J gH H0 s0 w hG D nD => ?_
  have z : tLc (fun _ H R => R J H) g tt te vs σ H0 Q := wf_lc w F mono (fun R h => h) hG hl ll (fun k x H2 H3 b hb s2 y D hD nD => ht k x H2 H3 b hb (s0.trans s2) y D hD (s0.free nD)) fun p ys H' s np => q p ys H' (s0.trans s) (s0.free np)
  exact z D nD
/-- numbers out of numbers, the heap read -/
theorem map_lcS {K : PySem.W.Frag} {σ : L2.St} {H : Hp} {Q : VK} {i j : Nat} {te : TE} {r : Addr} {l : List Int} (F : Int → Int) (hi : σ[i]? = some (some (.ref r))) (hr : H r = some (.lst (vI l))) (ll : l.length ≤ 900)
    (ht : ∀ n ∈ l, ∀ H2 : Hp, Same H H2 → ∀ R : VK, R (.int (F n)) H2 → te ((wipe σ [j]).set j (some (.int n))) H2 R)
    (q : ∀ p H', Same H H' → H p = none → H' p = some (.lst (vI (l.map F))) → Q (.ref p) H') : tLc (iList K (tVar i)) (gName j) tYes te [j] σ H Q := by
  refine wf_lc (bs := (l.map F).map some) (walk_list (K := K) (a := r) (xs := vI l)) (fun _ y n => y = V.int n) (fun _ _ _ _ _ e => e) (fun R hR => ⟨_, hi, r, rfl, ⟨_, SqL.of hr⟩, hR⟩) (fun H2 s => SqL.of (s _ _ hr)) (by rw [List.length_map, List.length_map, List.length_map]) (by rw [List.length_map]; exact ll) (fun k x H2 H3 b hb s2 y D hD nD R Z hR hZ => ?_) fun p ys H2 s2 np ep hp => ?_
  · obtain ⟨rfl, hx⟩ := y
    rw [List.getElem?_map] at hx
    obtain ⟨n, hn, rfl⟩ := Option.map_eq_some_iff.mp hx
    rw [List.getElem?_map, List.getElem?_map, hn] at hb
    cases hb
    refine ⟨wipe1 _ _ _, ?_⟩
    dsimp only [tYes]
    rw [if_pos rfl]
    exact ht n (List.mem_of_getElem? hn) _ s2 _ (hR _ _ _ rfl (Same.refl _) rfl)
  · rw [List.filterMap_map, show (id ∘ some : Int → Option Int) = some from rfl, List.filterMap_some] at hp
    refine q p H2 s2 np ?_
    rw [ep, ints_paired hp]
end Kn
-- part VSpA
/-! A span of rows: what is left of a row; a row taken in. -/
namespace La
/-- how many times a row must be taken for one line's draw to come out even -/
def quo (row : List Int) (b : Brow) : Nat := (b.2.getD b.1 0).natAbs / Nat.gcd (b.2.getD b.1 0).natAbs (row.getD b.1 0).natAbs
def timesF (row : List Int) (ds : List Brow) : Nat := ds.foldl (fun t b => Nat.lcm t (quo row b)) 1
def drawsF (L : List Brow) (row : List Int) : List Brow := L.filter fun b => decide (row.getD b.1 0 ≠ 0)
def drawN (T : Nat) (row : List Int) (b : Brow) : Int := (T : Int) * row.getD b.1 0 / b.2.getD b.1 0
def leftG (T : Nat) (row : List Int) (ds : List Brow) (f : List Int) : List Int := ds.foldl (fun f b => comb 1 (drawN T row b) f b.2) f
def leftF (L : List Brow) (row : List Int) : List Int := leftG (timesF row (drawsF L row)) row (drawsF L row) (row.map fun x => ((timesF row (drawsF L row) : Nat) : Int) * x)
def restF (L : List Brow) (row : List Int) : List Int := smallF (leftF L row)
def flipF (r : List Int) (q : Nat) : List Int := if r.getD q 0 < 0 then r.map fun x => -x else r
def lowF (q : Nat) (f : List Int) (b : Brow) : Brow :=
  if b.2.getD q 0 ≠ 0 then (b.1, smallF (comb (f.getD q 0 / ((Nat.gcd (f.getD q 0).natAbs (b.2.getD q 0).natAbs : Nat) : Int)) (b.2.getD q 0 / ((Nat.gcd (f.getD q 0).natAbs (b.2.getD q 0).natAbs : Nat) : Int)) b.2 f)) else b
def takeF (L : List Brow) (row : List Int) : List Brow := match firstNz (restF L row) with
  | none => L
  | some q => L.map (lowF q (flipF (restF L row) q)) ++ [(q, flipF (restF L row) q)]
structure SpI (w : Nat) (L : List Brow) (D : Int) (E : Nat) : Prop where
  len : ∀ b ∈ L, b.2.length = w
  lt : ∀ b ∈ L, b.1 < w
  pos : ∀ b ∈ L, 0 < b.2.getD b.1 0
  off : ∀ b ∈ L, ∀ c ∈ L, b.1 ≠ c.1 → b.2.getD c.1 0 = 0
  nd : (L.map (·.1)).Nodup
  dp : 0 < D
  de : D.natAbs ≤ E
  dv : ∀ b ∈ L, ∃ c : Int, 0 < c ∧ c * b.2.getD b.1 0 = D ∧ ∀ k, (c * b.2.getD k 0).natAbs ≤ E
theorem SpI.nil {w : Nat} : SpI w [] 1 1 := ⟨fun _ h => (List.not_mem_nil h).elim, fun _ h => (List.not_mem_nil h).elim, fun _ h => (List.not_mem_nil h).elim, fun _ h => (List.not_mem_nil h).elim, List.nodup_nil, by decide, by decide, fun _ h => (List.not_mem_nil h).elim⟩
theorem SpI.mono {w : Nat} {L : List Brow} {D : Int} {E E' : Nat} (h : SpI w L D E) (e : E ≤ E') : SpI w L D E' :=
  ⟨h.len, h.lt, h.pos, h.off, h.nd, h.dp, Nat.le_trans h.de e, fun b hb => by
    obtain ⟨c, h1, h2, h3⟩ := h.dv b hb
    exact ⟨c, h1, h2, fun k => Nat.le_trans (h3 k) e⟩⟩
theorem nodup_lt : ∀ (w : Nat) (l : List Nat), l.Nodup → (∀ x ∈ l, x < w) → l.length ≤ w
  | 0, [], _, _ => Nat.le_refl _
  | 0, x :: _, _, h => absurd (h x (List.mem_cons_self ..)) (Nat.not_lt_zero _)
  | w + 1, l, nd, h => by
    have ih := nodup_lt w (l.erase w) (nd.erase w) fun x hx => by
      have z := (List.Nodup.mem_erase_iff nd).mp hx
      have y := h x z.2
      omega
    by_cases m : w ∈ l
    · rw [List.length_erase_of_mem m] at ih
      omega
    · rw [List.erase_of_not_mem m] at ih
      omega
theorem SpI.many {w : Nat} {L : List Brow} {D : Int} {E : Nat} (h : SpI w L D E) : L.length ≤ w := by
  have z := nodup_lt w (L.map (·.1)) h.nd fun x hx => by
    obtain ⟨b, hb, rfl⟩ := List.mem_map.mp hx
    exact h.lt b hb
  rwa [List.length_map] at z
theorem lcm_fold : ∀ (ds : List Brow) (t : Nat) (row : List Int), (t ∣ ds.foldl (fun t b => Nat.lcm t (quo row b)) t) ∧ (∀ b ∈ ds, quo row b ∣ ds.foldl (fun t b => Nat.lcm t (quo row b)) t) ∧
    ∀ n, t ∣ n → (∀ b ∈ ds, quo row b ∣ n) → ds.foldl (fun t b => Nat.lcm t (quo row b)) t ∣ n
  | [], t, row => ⟨Nat.dvd_refl _, fun b hb => (by cases hb), fun n h _ => h⟩
  | b :: ds, t, row => by
    obtain ⟨h1, h2, h3⟩ := lcm_fold ds (Nat.lcm t (quo row b)) row
    refine ⟨Nat.dvd_trans (Nat.dvd_lcm_left _ _) h1, fun c hc => ?_, fun n hn hd => h3 n (Nat.lcm_dvd hn (hd b (List.mem_cons_self ..))) fun c hc => hd c (List.mem_cons_of_mem _ hc)⟩
    rcases List.mem_cons.mp hc with rfl | hc
    · exact Nat.dvd_trans (Nat.dvd_lcm_right _ _) h1
    · exact h2 c hc
theorem quo_dvd {row : List Int} {b : Brow} : ((quo row b : Nat) : Int) ∣ b.2.getD b.1 0 := Int.ofNat_dvd_left.mpr (Nat.div_dvd_of_dvd (Nat.gcd_dvd_left _ _))
/-- the draw comes out even -/
theorem quo_ok {row : List Int} {b : Brow} {T : Nat} (h : quo row b ∣ T) (p : 0 < b.2.getD b.1 0) : b.2.getD b.1 0 ∣ (T : Int) * row.getD b.1 0 := by
  generalize ea : b.2.getD b.1 0 = a at p
  generalize er : row.getD b.1 0 = r
  have g0 : 0 < Nat.gcd a.natAbs r.natAbs := Nat.gcd_pos_of_pos_left _ (by omega)
  obtain ⟨k, hk⟩ := h
  unfold quo at hk
  rw [ea, er] at hk
  obtain ⟨m, hm⟩ := Nat.gcd_dvd_left a.natAbs r.natAbs
  obtain ⟨n, hn⟩ := Nat.gcd_dvd_right a.natAbs r.natAbs
  have e1 : a.natAbs / Nat.gcd a.natAbs r.natAbs = m := by
    conv => lhs; lhs; rw [hm]
    exact Nat.mul_div_cancel_left _ g0
  rw [e1] at hk
  apply Int.natAbs_dvd_natAbs.mp
  rw [Int.natAbs_mul, Int.natAbs_natCast, hk]
  refine ⟨k * n, ?_⟩
  conv => lhs; rw [hn]
  conv => rhs; rw [hm]
  rw [Nat.mul_assoc, Nat.mul_assoc, Nat.mul_left_comm k, Nat.mul_left_comm m]
def sumB (f : Brow → Int) : List Brow → Int
  | [] => 0
  | b :: ds => f b + sumB f ds
theorem sumB_zero {f : Brow → Int} : ∀ {ds : List Brow}, (∀ b ∈ ds, f b = 0) → sumB f ds = 0
  | [], _ => rfl
  | b :: ds, h => by
    show f b + sumB f ds = 0
    rw [h b (List.mem_cons_self ..), sumB_zero fun c hc => h c (List.mem_cons_of_mem _ hc)]
    rfl
theorem sumB_one {f : Brow → Int} {b : Brow} : ∀ {ds : List Brow}, (ds.map (·.1)).Nodup → b ∈ ds → (∀ c ∈ ds, c.1 ≠ b.1 → f c = 0) → sumB f ds = f b
  | [], _, h, _ => by cases h
  | c :: ds, nd, h, z => by
    show f c + sumB f ds = f b
    have nd' := List.nodup_cons.mp nd
    rcases List.mem_cons.mp h with rfl | h
    · rw [sumB_zero fun d hd => z d (List.mem_cons_of_mem _ hd) fun e => nd'.1 (List.mem_map.mpr ⟨d, hd, e⟩), Int.add_zero]
    · rw [z c (List.mem_cons_self ..) fun e => nd'.1 (List.mem_map.mpr ⟨b, h, e.symm⟩), Int.zero_add]
      exact sumB_one nd'.2 h fun d hd => z d (List.mem_cons_of_mem _ hd)
theorem sumB_le {f : Brow → Int} {B : Nat} : ∀ {ds : List Brow}, (∀ b ∈ ds, (f b).natAbs ≤ B) → (sumB f ds).natAbs ≤ ds.length * B
  | [], _ => Nat.zero_le _
  | b :: ds, h => by
    show (f b + sumB f ds).natAbs ≤ (ds.length + 1) * B
    have h1 := h b (List.mem_cons_self ..)
    have h2 := sumB_le (ds := ds) fun c hc => h c (List.mem_cons_of_mem _ hc)
    have h3 := Int.natAbs_add_le (f b) (sumB f ds)
    rw [Nat.succ_mul]
    omega
theorem left_len {T : Nat} {row : List Int} {w : Nat} : ∀ {ds : List Brow} {f : List Int}, f.length = w → (∀ b ∈ ds, b.2.length = w) → (leftG T row ds f).length = w
  | [], _, h, _ => h
  | b :: ds, f, h, hl => left_len (ds := ds) (f := comb 1 (drawN T row b) f b.2) (by rw [comb_len (by rw [h, hl b (List.mem_cons_self ..)]), h]) fun c hc => hl c (List.mem_cons_of_mem _ hc)
theorem left_at {T : Nat} {row : List Int} {w k : Nat} : ∀ {ds : List Brow} {f : List Int}, f.length = w → (∀ b ∈ ds, b.2.length = w) → (leftG T row ds f).getD k 0 = f.getD k 0 - sumB (fun b => drawN T row b * b.2.getD k 0) ds
  | [], _, h, _ => (Int.sub_zero _).symm
  | b :: ds, f, h, hl => by
    have e0 : f.length = b.2.length := by rw [h, hl b (List.mem_cons_self ..)]
    have ih := left_at (T := T) (row := row) (k := k) (ds := ds) (f := comb 1 (drawN T row b) f b.2) (by rw [comb_len e0, h]) fun c hc => hl c (List.mem_cons_of_mem _ hc)
    show (leftG T row ds (comb 1 (drawN T row b) f b.2)).getD k 0 = _
    rw [ih, comb_at e0, Int.one_mul]
    show f.getD k 0 - drawN T row b * b.2.getD k 0 - sumB _ ds = f.getD k 0 - (drawN T row b * b.2.getD k 0 + sumB _ ds)
    omega
theorem left_dot {T : Nat} {row : List Int} {w : Nat} {v : Nat → Int} : ∀ {ds : List Brow} {f : List Int}, f.length = w → (∀ b ∈ ds, b.2.length = w) → (∀ b ∈ ds, dotN b.2 v = 0) → dotN (leftG T row ds f) v = dotN f v
  | [], _, _, _, _ => rfl
  | b :: ds, f, h, hl, hz => by
    have e0 : f.length = b.2.length := by rw [h, hl b (List.mem_cons_self ..)]
    have ih := left_dot (T := T) (row := row) (v := v) (ds := ds) (f := comb 1 (drawN T row b) f b.2) (by rw [comb_len e0, h]) (fun c hc => hl c (List.mem_cons_of_mem _ hc)) fun c hc => hz c (List.mem_cons_of_mem _ hc)
    refine ih.trans ?_
    rw [dot_comb e0, hz b (List.mem_cons_self ..), Int.mul_zero, Int.sub_zero, Int.one_mul]
theorem getD_map0 {r : List Int} {f : Int → Int} {k : Nat} (h : f 0 = 0) : (r.map f).getD k 0 = f (r.getD k 0) := by
  rw [List.getD_eq_getElem?_getD, List.getD_eq_getElem?_getD, List.getElem?_map]
  cases r[k]? with
  | none => exact h.symm
  | some x => rfl
structure LeftOk (w : Nat) (L : List Brow) (row f : List Int) (B : Nat) : Prop where
  len : f.length = w
  own : ∀ b ∈ L, f.getD b.1 0 = 0
  dot : ∀ v, Solb L v → (dotN f v = 0 ↔ dotN row v = 0)
  le : ∀ k, (f.getD k 0).natAbs ≤ B
theorem times_facts {w : Nat} {L : List Brow} {D : Int} {E : Nat} (h : SpI w L D E) (row : List Int) : 0 < timesF row (drawsF L row) ∧ ((timesF row (drawsF L row) : Nat) : Int) ∣ D ∧ ∀ b ∈ drawsF L row, b.2.getD b.1 0 ∣ ((timesF row (drawsF L row) : Nat) : Int) * row.getD b.1 0 := by
  obtain ⟨_, h2, h3⟩ := lcm_fold (drawsF L row) 1 row
  have hd : timesF row (drawsF L row) ∣ D.natAbs := h3 D.natAbs (Nat.one_dvd _) fun b hb => by
    obtain ⟨c, _, e, _⟩ := h.dv b (List.mem_filter.mp hb).1
    exact Int.ofNat_dvd_left.mp (Int.dvd_trans quo_dvd ⟨c, by rw [Int.mul_comm, e]⟩)
  have dp := h.dp
  refine ⟨Nat.pos_of_dvd_of_pos hd (by omega), Int.ofNat_dvd_left.mpr hd, fun b hb => quo_ok (h2 b hb) (h.pos b (List.mem_filter.mp hb).1)⟩
theorem left_ok {w M : Nat} {L : List Brow} {D : Int} {E : Nat} {row : List Int} (h : SpI w L D E) (hl : row.length = w) (hM : ∀ k, (row.getD k 0).natAbs ≤ M) : LeftOk w L row (leftF L row) ((L.length + 1) * (M * E)) := by
  obtain ⟨t0, ⟨t, ht⟩, hd⟩ := times_facts h row
  have dsl : ∀ b ∈ drawsF L row, b.2.length = w := fun b hb => h.len b (List.mem_filter.mp hb).1
  have nd : ((drawsF L row).map (·.1)).Nodup := h.nd.sublist (List.Sublist.map _ (List.filter_sublist ..))
  have dl : (drawsF L row).length ≤ L.length := List.length_filter_le ..
  generalize eT : timesF row (drawsF L row) = T at *
  have lm : (row.map fun x => ((T : Nat) : Int) * x).length = w := by rw [List.length_map, hl]
  have dp := h.dp
  have tp : 0 < t := by
    apply Classical.byContradiction
    intro c
    have z : ((T : Nat) : Int) * t ≤ 0 := Int.mul_nonpos_of_nonneg_of_nonpos (by omega) (by omega)
    omega
  have at_ : ∀ k, (leftF L row).getD k 0 = (T : Int) * row.getD k 0 - sumB (fun b => drawN T row b * b.2.getD k 0) (drawsF L row) := fun k => by
    unfold leftF
    rw [eT, left_at lm dsl, getD_map0 (Int.mul_zero _)]
  refine ⟨?_, fun b hb => ?_, fun v hv => ?_, fun k => ?_⟩
  · unfold leftF
    rw [eT]
    exact left_len lm dsl
  · rw [at_]
    by_cases c : row.getD b.1 0 = 0
    · rw [c, Int.mul_zero, sumB_zero fun x hx => ?_, Int.sub_zero]
      have mx := List.mem_filter.mp hx
      have ne : x.1 ≠ b.1 := fun e => (of_decide_eq_true mx.2) (by rw [e]; exact c)
      rw [h.off x mx.1 b hb ne, Int.mul_zero]
    · have mb : b ∈ drawsF L row := List.mem_filter.mpr ⟨hb, decide_eq_true c⟩
      rw [sumB_one nd mb fun x hx ne => by rw [h.off x (List.mem_filter.mp hx).1 b hb ne, Int.mul_zero]]
      show _ - (T : Int) * row.getD b.1 0 / b.2.getD b.1 0 * b.2.getD b.1 0 = 0
      rw [Int.ediv_mul_cancel (hd b mb), Int.sub_self]
  · have e : dotN (leftF L row) v = (T : Int) * dotN row v := by
      unfold leftF
      rw [eT, left_dot lm dsl fun b hb => hv b (List.mem_filter.mp hb).1, dot_scale]
    rw [e]
    exact ⟨fun z => (Int.mul_eq_zero.mp z).resolve_left (by omega), fun z => by rw [z, Int.mul_zero]⟩
  · have Tle : T ≤ E := by
      have z : T ≤ D.natAbs := by
        have : (T : Int) ≤ D := by
          rw [ht]
          have y : ((T : Nat) : Int) * 1 ≤ ((T : Nat) : Int) * t := Int.mul_le_mul_of_nonneg_left tp (by omega)
          omega
        omega
      exact Nat.le_trans z h.de
    have h1 : ((T : Int) * row.getD k 0).natAbs ≤ M * E := by
      rw [Int.natAbs_mul, Int.natAbs_natCast, Nat.mul_comm]
      exact Nat.mul_le_mul (hM k) Tle
    have h2 : (sumB (fun b => drawN T row b * b.2.getD k 0) (drawsF L row)).natAbs ≤ (drawsF L row).length * (M * E) := sumB_le fun b hb => by
      obtain ⟨c, c0, c1, c2⟩ := h.dv b (List.mem_filter.mp hb).1
      have e1 : drawN T row b * b.2.getD b.1 0 = (T : Int) * row.getD b.1 0 := Int.ediv_mul_cancel (hd b hb)
      have p := h.pos b (List.mem_filter.mp hb).1
      have e2 : drawN T row b * t = row.getD b.1 0 * c := by
        have z : (drawN T row b * t) * b.2.getD b.1 0 = (row.getD b.1 0 * c) * b.2.getD b.1 0 := by
          rw [Int.mul_right_comm, e1, Int.mul_assoc (row.getD b.1 0), c1, ht, Int.mul_comm (T : Int) (row.getD b.1 0), Int.mul_assoc]
        exact Int.eq_of_mul_eq_mul_right (by omega) z
      have e3 : (drawN T row b * b.2.getD k 0).natAbs * t.natAbs ≤ M * E := by
        rw [← Int.natAbs_mul, Int.mul_right_comm, e2, Int.mul_assoc, Int.natAbs_mul]
        exact Nat.mul_le_mul (hM _) (c2 k)
      have t1 : 1 ≤ t.natAbs := by omega
      exact Nat.le_trans (Nat.le_mul_of_pos_right _ t1) e3
    have h3 := Int.natAbs_sub_le ((T : Int) * row.getD k 0) (sumB (fun b => drawN T row b * b.2.getD k 0) (drawsF L row))
    rw [at_]
    have h4 : (drawsF L row).length * (M * E) ≤ L.length * (M * E) := Nat.mul_le_mul_right _ dl
    rw [Nat.succ_mul]
    omega
end La
-- part VSpB
/-! A row taken into a span. -/
namespace La
theorem small_le (r : List Int) (k : Nat) : ((smallF r).getD k 0).natAbs ≤ (r.getD k 0).natAbs := by
  obtain ⟨c, hc, e⟩ := small_scl r
  have e2 : r.getD k 0 = c * (smallF r).getD k 0 := by
    conv => lhs; rw [e]
    exact getD_map0 (Int.mul_zero c)
  rw [e2, Int.natAbs_mul]
  exact Nat.le_mul_of_pos_left _ (by omega)
theorem small_at (r : List Int) : ∃ c : Int, 0 < c ∧ ∀ k, r.getD k 0 = c * (smallF r).getD k 0 := by
  obtain ⟨c, hc, e⟩ := small_scl r
  refine ⟨c, hc, fun k => ?_⟩
  conv => lhs; rw [e]
  exact getD_map0 (Int.mul_zero c)
theorem rest_ok {w M : Nat} {L : List Brow} {D : Int} {E : Nat} {row : List Int} (h : SpI w L D E) (hl : row.length = w) (hM : ∀ k, (row.getD k 0).natAbs ≤ M) : LeftOk w L row (restF L row) ((L.length + 1) * (M * E)) := by
  have z := left_ok h hl hM
  have s := small_scl (leftF L row)
  exact ⟨s.len.trans z.len, fun b hb => (s.at0 _).mpr (z.own b hb), fun v hv => (s.dot v).trans (z.dot v hv), fun k => Nat.le_trans (small_le _ _) (z.le k)⟩
theorem flip_ok {w B q : Nat} {L : List Brow} {row f : List Int} (h : LeftOk w L row f B) (n : f.getD q 0 ≠ 0) : LeftOk w L row (flipF f q) B ∧ 0 < (flipF f q).getD q 0 := by
  unfold flipF
  split
  · rename_i c
    have at_ : ∀ k, (f.map fun x => -x).getD k 0 = -f.getD k 0 := fun k => getD_map0 (by decide)
    have dt : ∀ v, dotN (f.map fun x => -x) v = -dotN f v := fun v => by
      have e : (f.map fun x => -x) = f.map fun x => (-1) * x := List.map_congr_left fun x _ => by omega
      rw [e, dot_scale]
      omega
    refine ⟨⟨by rw [List.length_map]; exact h.len, fun b hb => by rw [at_, h.own b hb]; rfl, fun v hv => ?_, fun k => by rw [at_, Int.natAbs_neg]; exact h.le k⟩, by rw [at_]; omega⟩
    rw [dt, ← h.dot v hv]
    omega
  · exact ⟨h, by omega⟩
theorem take_ok {w M q : Nat} {L : List Brow} {D : Int} {E : Nat} {row : List Int} (h : SpI w L D E) (hl : row.length = w) (hM : ∀ k, (row.getD k 0).natAbs ≤ M) (e : firstNz (restF L row) = some q) :
    ∃ D', SpI w (takeF L row) D' (2 * (E * ((L.length + 1) * (M * E)))) ∧ (∀ v, Solb (takeF L row) v ↔ Solb L v ∧ dotN row v = 0) ∧ (takeF L row).length = L.length + 1 := by
  have r0 := rest_ok h hl hM
  obtain ⟨q1, q2, _⟩ := first_some e
  obtain ⟨r1, fp⟩ := flip_ok r0 q2
  have et : takeF L row = L.map (lowF q (flipF (restF L row) q)) ++ [(q, flipF (restF L row) q)] := by
    unfold takeF
    rw [e]
  rw [et]
  rw [r0.len] at q1
  generalize flipF (restF L row) q = f at *
  generalize (L.length + 1) * (M * E) = B at *
  clear r0 q2 e et
  have dp := h.dp
  -- a line made low
  have low : ∀ b ∈ L, (lowF q f b).1 = b.1 ∧ (lowF q f b).2.length = w ∧ 0 < (lowF q f b).2.getD b.1 0 ∧ (∀ c ∈ L, b.1 ≠ c.1 → (lowF q f b).2.getD c.1 0 = 0) ∧ (lowF q f b).2.getD q 0 = 0 ∧
      (∃ c : Int, 0 < c ∧ c * (lowF q f b).2.getD b.1 0 = D * f.getD q 0 ∧ ∀ k, (c * (lowF q f b).2.getD k 0).natAbs ≤ 2 * (E * B)) ∧ (∀ v, dotN f v = 0 → (dotN (lowF q f b).2 v = 0 ↔ dotN b.2 v = 0)) := fun b hb => by
    obtain ⟨c, c0, c1, c2⟩ := h.dv b hb
    have hp := h.pos b hb
    unfold lowF
    split
    · rename_i n
      generalize hg : Nat.gcd (f.getD q 0).natAbs (b.2.getD q 0).natAbs = g
      have g0 : 0 < g := by rw [← hg]; exact Nat.gcd_pos_of_pos_left _ (by omega)
      have d1 : ((g : Nat) : Int) ∣ f.getD q 0 := by rw [← hg]; exact Int.ofNat_dvd_left.mpr (Nat.gcd_dvd_left _ _)
      have d2 : ((g : Nat) : Int) ∣ b.2.getD q 0 := by rw [← hg]; exact Int.ofNat_dvd_left.mpr (Nat.gcd_dvd_right _ _)
      have m1 : (g : Int) * (f.getD q 0 / (g : Int)) = f.getD q 0 := Int.mul_ediv_cancel' d1
      have m2 : (g : Int) * (b.2.getD q 0 / (g : Int)) = b.2.getD q 0 := Int.mul_ediv_cancel' d2
      generalize f.getD q 0 / (g : Int) = t at m1
      generalize b.2.getD q 0 / (g : Int) = d at m2
      have t0 : 0 < t := by
        apply Classical.byContradiction
        intro x
        have z : (g : Int) * t ≤ 0 := Int.mul_nonpos_of_nonneg_of_nonpos (by omega) (by omega)
        omega
      have ll : b.2.length = f.length := by rw [h.len b hb, r1.len]
      have at_ : ∀ k, (comb t d b.2 f).getD k 0 = t * b.2.getD k 0 - d * f.getD k 0 := fun k => comb_at ll
      obtain ⟨s, s0, sat⟩ := small_at (comb t d b.2 f)
      have sc := small_scl (comb t d b.2 f)
      generalize hr : smallF (comb t d b.2 f) = r at *
      have pe : s * r.getD b.1 0 = t * b.2.getD b.1 0 := by
        rw [← sat, at_, r1.own b hb, Int.mul_zero, Int.sub_zero]
      have zero : ∀ k, t * b.2.getD k 0 - d * f.getD k 0 = 0 → r.getD k 0 = 0 := fun k z => by
        have y := sat k
        rw [at_, z] at y
        exact (Int.mul_eq_zero.mp y.symm).resolve_left (by omega)
      dsimp only
      refine ⟨rfl, by rw [sc.len, comb_len ll, h.len b hb], ?_, fun c hc ne => zero _ (by rw [h.off b hb c hc ne, r1.own c hc, Int.mul_zero, Int.mul_zero, Int.sub_zero]), zero _ ?_, ⟨c * g * s, Int.mul_pos (Int.mul_pos c0 (by omega)) s0, ?_, fun k => ?_⟩, fun v hv => ?_⟩
      · have y : 0 < t * b.2.getD b.1 0 := Int.mul_pos t0 hp
        rw [← pe] at y
        exact Int.pos_of_mul_pos_left (by rw [Int.mul_comm]; exact y) s0
      · have z : (g : Int) * (t * b.2.getD q 0 - d * f.getD q 0) = 0 := by
          rw [Int.mul_sub, ← Int.mul_assoc, m1, ← Int.mul_assoc, m2, Int.mul_comm (f.getD q 0), Int.sub_self]
        exact (Int.mul_eq_zero.mp z).resolve_left (by omega)
      · rw [Int.mul_assoc, pe, Int.mul_assoc, ← Int.mul_assoc (g : Int), m1, Int.mul_comm (f.getD q 0), ← Int.mul_assoc, c1]
      · have y : c * g * s * r.getD k 0 = f.getD q 0 * (c * b.2.getD k 0) - (c * b.2.getD q 0) * f.getD k 0 := by
          rw [Int.mul_assoc, ← sat, at_, Int.mul_assoc, Int.mul_sub, ← Int.mul_assoc (g : Int) t, m1, ← Int.mul_assoc (g : Int) d, m2, Int.mul_sub, Int.mul_left_comm, Int.mul_assoc c]
        rw [y]
        have a1 : (f.getD q 0 * (c * b.2.getD k 0)).natAbs ≤ B * E := by
          rw [Int.natAbs_mul]
          exact Nat.mul_le_mul (r1.le q) (c2 k)
        have a2 : ((c * b.2.getD q 0) * f.getD k 0).natAbs ≤ E * B := by
          rw [Int.natAbs_mul]
          exact Nat.mul_le_mul (c2 q) (r1.le k)
        have a3 := Int.natAbs_sub_le (f.getD q 0 * (c * b.2.getD k 0)) ((c * b.2.getD q 0) * f.getD k 0)
        rw [Nat.mul_comm B E] at a1
        omega
      · rw [sc.dot v, dot_comb ll, hv, Int.mul_zero, Int.sub_zero]
        exact ⟨fun z => (Int.mul_eq_zero.mp z).resolve_left (by omega), fun z => by rw [z, Int.mul_zero]⟩
    · rename_i n
      have n0 : b.2.getD q 0 = 0 := Classical.byContradiction n
      refine ⟨rfl, h.len b hb, hp, h.off b hb, n0, ⟨c * f.getD q 0, Int.mul_pos c0 fp, by rw [Int.mul_right_comm, c1], fun k => ?_⟩, fun v _ => Iff.rfl⟩
      rw [Int.mul_right_comm, Int.natAbs_mul]
      have z := Nat.mul_le_mul (c2 k) (r1.le q)
      omega
  have qn : ∀ b ∈ L, b.1 ≠ q := fun b hb x => by
    have y := r1.own b hb
    rw [x] at y
    omega
  refine ⟨D * f.getD q 0, ⟨fun b hb => ?_, fun b hb => ?_, fun b hb => ?_, fun b hb c hc ne => ?_, ?_, Int.mul_pos dp fp, ?_, fun b hb => ?_⟩, fun v => ⟨fun z => ?_, fun z b hb => ?_⟩, by rw [List.length_append, List.length_map]; rfl⟩
  · rcases List.mem_append.mp hb with m | m
    · obtain ⟨b0, m0, rfl⟩ := List.mem_map.mp m
      exact (low b0 m0).2.1
    · rw [List.mem_singleton.mp m]
      exact r1.len
  · rcases List.mem_append.mp hb with m | m
    · obtain ⟨b0, m0, rfl⟩ := List.mem_map.mp m
      rw [(low b0 m0).1]
      exact h.lt b0 m0
    · rw [List.mem_singleton.mp m]
      exact q1
  · rcases List.mem_append.mp hb with m | m
    · obtain ⟨b0, m0, rfl⟩ := List.mem_map.mp m
      rw [(low b0 m0).1]
      exact (low b0 m0).2.2.1
    · rw [List.mem_singleton.mp m]
      exact fp
  · rcases List.mem_append.mp hb with m | m
    · obtain ⟨b0, m0, rfl⟩ := List.mem_map.mp m
      rcases List.mem_append.mp hc with n | n
      · obtain ⟨c0, n0, rfl⟩ := List.mem_map.mp n
        rw [(low c0 n0).1]
        rw [(low b0 m0).1, (low c0 n0).1] at ne
        exact (low b0 m0).2.2.2.1 c0 n0 ne
      · rw [List.mem_singleton.mp n]
        exact (low b0 m0).2.2.2.2.1
    · rw [List.mem_singleton.mp m] at ne ⊢
      rcases List.mem_append.mp hc with n | n
      · obtain ⟨c0, n0, rfl⟩ := List.mem_map.mp n
        rw [(low c0 n0).1]
        exact r1.own c0 n0
      · rw [List.mem_singleton.mp n] at ne
        exact absurd rfl ne
  · rw [List.map_append, List.map_map, List.map_congr_left (f := (fun x : Brow => x.1) ∘ lowF q f) (g := fun b : Brow => b.1) fun b hb => (low b hb).1]
    refine List.nodup_append.mpr ⟨h.nd, List.nodup_cons.mpr ⟨List.not_mem_nil, List.nodup_nil⟩, fun x hx y hy => ?_⟩
    obtain ⟨b, hb, rfl⟩ := List.mem_map.mp hx
    rw [List.mem_singleton.mp hy]
    exact qn b hb
  · rw [Int.natAbs_mul]
    have z := Nat.mul_le_mul h.de (r1.le q)
    omega
  · rcases List.mem_append.mp hb with m | m
    · obtain ⟨b0, m0, rfl⟩ := List.mem_map.mp m
      rw [(low b0 m0).1]
      exact (low b0 m0).2.2.2.2.2.1
    · rw [List.mem_singleton.mp m]
      refine ⟨D, dp, rfl, fun k => ?_⟩
      rw [Int.natAbs_mul]
      have z := Nat.mul_le_mul h.de (r1.le k)
      show D.natAbs * (f.getD k 0).natAbs ≤ _
      omega
  · have fz : dotN f v = 0 := z (q, f) (List.mem_append_right _ (List.mem_cons_self ..))
    have lz : Solb L v := fun b hb => ((low b hb).2.2.2.2.2.2 v fz).mp (z _ (List.mem_append_left _ (List.mem_map_of_mem hb)))
    exact ⟨lz, (r1.dot v lz).mp fz⟩
  · have fz : dotN f v = 0 := (r1.dot v z.1).mpr z.2
    rcases List.mem_append.mp hb with m | m
    · obtain ⟨b0, m0, rfl⟩ := List.mem_map.mp m
      exact ((low b0 m0).2.2.2.2.2.2 v fz).mpr (z.1 b0 m0)
    · rw [List.mem_singleton.mp m]
      exact fz
theorem take_none {w M : Nat} {L : List Brow} {D : Int} {E : Nat} {row : List Int} (h : SpI w L D E) (hl : row.length = w) (hM : ∀ k, (row.getD k 0).natAbs ≤ M) (e : firstNz (restF L row) = none) : takeF L row = L ∧ ∀ v, Solb L v → dotN row v = 0 := by
  have r0 := rest_ok h hl hM
  refine ⟨by unfold takeF; rw [e], fun v hv => (r0.dot v hv).mp (dot_zero fun k hk => by rw [first_none e k hk, Int.zero_mul])⟩
end La
-- part VSee
/-! Numbers that a span does not see. -/
namespace La
def pivT (L : List Brow) : Nat := L.foldl (fun t b => Nat.lcm t (b.2.getD b.1 0).natAbs) 1
def freeP (w : Nat) (L : List Brow) : List Nat := (List.range w).filter fun p => decide (p ∉ L.map (·.1))
def numG (T f0 : Nat) (ns : List Int) (b : Brow) : List Int := ns.set b.1 (-((T : Int) / b.2.getD b.1 0) * b.2.getD f0 0)
def unseenF (w : Nat) (L : List Brow) : Option (List Int) := match freeP w L with
  | [] => none
  | f0 :: _ => some (L.foldl (numG (pivT L) f0) ((List.replicate w (0 : Int)).set f0 ((pivT L : Nat) : Int)))
theorem pivT_fold : ∀ (ds : List Brow) (t : Nat), (t ∣ ds.foldl (fun t b => Nat.lcm t (b.2.getD b.1 0).natAbs) t) ∧ (∀ b ∈ ds, (b.2.getD b.1 0).natAbs ∣ ds.foldl (fun t b => Nat.lcm t (b.2.getD b.1 0).natAbs) t) ∧
    ∀ n, t ∣ n → (∀ b ∈ ds, (b.2.getD b.1 0).natAbs ∣ n) → ds.foldl (fun t b => Nat.lcm t (b.2.getD b.1 0).natAbs) t ∣ n
  | [], t => ⟨Nat.dvd_refl _, fun b hb => (by cases hb), fun n h _ => h⟩
  | b :: ds, t => by
    obtain ⟨h1, h2, h3⟩ := pivT_fold ds (Nat.lcm t (b.2.getD b.1 0).natAbs)
    refine ⟨Nat.dvd_trans (Nat.dvd_lcm_left _ _) h1, fun c hc => ?_, fun n hn hd => h3 n (Nat.lcm_dvd hn (hd b (List.mem_cons_self ..))) fun c hc => hd c (List.mem_cons_of_mem _ hc)⟩
    rcases List.mem_cons.mp hc with rfl | hc
    · exact Nat.dvd_trans (Nat.dvd_lcm_right _ _) h1
    · exact h2 c hc
theorem set_at {ns : List Int} {i k : Nat} {x : Int} (hi : i < ns.length) : (ns.set i x).getD k 0 = if k = i then x else ns.getD k 0 := by
  rw [List.getD_eq_getElem?_getD, List.getD_eq_getElem?_getD, List.getElem?_set]
  by_cases c : i = k
  · rw [if_pos c, if_pos (by omega), if_pos c.symm]; rfl
  · rw [if_neg c, if_neg (fun z => c z.symm)]
theorem num_len {T f0 : Nat} : ∀ (L : List Brow) (ns : List Int), (L.foldl (numG T f0) ns).length = ns.length
  | [], _ => rfl
  | b :: L, ns => (num_len L _).trans (List.length_set ..)
theorem num_other {T f0 k : Nat} : ∀ (L : List Brow) (ns : List Int), (∀ b ∈ L, b.1 < ns.length) → (∀ b ∈ L, b.1 ≠ k) → (L.foldl (numG T f0) ns).getD k 0 = ns.getD k 0
  | [], _, _, _ => rfl
  | b :: L, ns, hl, hk => by
    refine (num_other L (numG T f0 ns b) (fun c hc => by rw [numG, List.length_set]; exact hl c (List.mem_cons_of_mem _ hc)) fun c hc => hk c (List.mem_cons_of_mem _ hc)).trans ?_
    unfold numG
    rw [set_at (hl b (List.mem_cons_self ..)), if_neg fun e => hk b (List.mem_cons_self ..) e.symm]
theorem num_own {T f0 : Nat} {b : Brow} : ∀ (L : List Brow) (ns : List Int), (∀ b ∈ L, b.1 < ns.length) → (L.map (·.1)).Nodup → b ∈ L → (L.foldl (numG T f0) ns).getD b.1 0 = -((T : Int) / b.2.getD b.1 0) * b.2.getD f0 0
  | [], _, _, _, h => by cases h
  | c :: L, ns, hl, nd, h => by
    have nd' := List.nodup_cons.mp nd
    have hl' : ∀ b ∈ L, b.1 < (numG T f0 ns c).length := fun x hx => by rw [numG, List.length_set]; exact hl x (List.mem_cons_of_mem _ hx)
    rcases List.mem_cons.mp h with rfl | h
    · refine (num_other L (numG T f0 ns b) hl' fun x hx e => nd'.1 (List.mem_map.mpr ⟨x, hx, e⟩)).trans ?_
      unfold numG
      rw [set_at (hl b (List.mem_cons_self ..)), if_pos rfl]
    · exact num_own L (numG T f0 ns c) hl' nd'.2 h
theorem free_mem {w : Nat} {L : List Brow} {p : Nat} : p ∈ freeP w L ↔ p < w ∧ ∀ b ∈ L, b.1 ≠ p := by
  unfold freeP
  rw [List.mem_filter, List.mem_range, decide_eq_true_iff]
  refine and_congr_right fun _ => ⟨fun h b hb e => h (List.mem_map.mpr ⟨b, hb, e⟩), fun h m => ?_⟩
  obtain ⟨b, hb, e⟩ := List.mem_map.mp m
  exact h b hb e
theorem unseen_none {w : Nat} {L : List Brow} {D : Int} {E : Nat} (h : SpI w L D E) (e : unseenF w L = none) {v : Nat → Int} (hv : Solb L v) : ∀ k, k < w → v k = 0 := fun k hk => by
  have fe : freeP w L = [] := by
    unfold unseenF at e
    cases c : freeP w L with
    | nil => rfl
    | cons a l => rw [c] at e; cases e
  have all : ∀ p, p < w → ∃ b ∈ L, b.1 = p := fun p hp => by
    apply Classical.byContradiction
    intro c
    have m : p ∈ freeP w L := free_mem.mpr ⟨hp, fun b hb e => c ⟨b, hb, e⟩⟩
    rw [fe] at m
    cases m
  obtain ⟨b, hb, rfl⟩ := all k hk
  have z := hv b hb
  rw [dot_one (i := b.1) (by rw [h.len b hb]; exact hk) fun j hj ne => ?_] at z
  · have p := h.pos b hb
    exact (Int.mul_eq_zero.mp z).resolve_left (by omega)
  · rw [h.len b hb] at hj
    obtain ⟨c, hc, rfl⟩ := all j hj
    rw [h.off b hb c hc (Ne.symm ne), Int.zero_mul]
structure Unseen (w : Nat) (L : List Brow) (E : Nat) (ns : List Int) : Prop where
  len : ns.length = w
  sol : Solb L fun k => ns.getD k 0
  some : ∃ k, k < w ∧ ns.getD k 0 ≠ 0
theorem unseen_some {w : Nat} {L : List Brow} {D : Int} {E : Nat} (h : SpI w L D E) {ns : List Int} (e : unseenF w L = some ns) : Unseen w L E ns := by
  unfold unseenF at e
  cases c : freeP w L with
  | nil => rw [c] at e; cases e
  | cons f0 l =>
    rw [c] at e
    have e := Option.some.inj e
    obtain ⟨fw, fn⟩ := free_mem.mp (show f0 ∈ freeP w L by rw [c]; exact List.mem_cons_self ..)
    obtain ⟨_, t1, t2⟩ := pivT_fold L 1
    have td : pivT L ∣ D.natAbs := t2 D.natAbs (Nat.one_dvd _) fun b hb => by
      obtain ⟨x, _, e2, _⟩ := h.dv b hb
      exact Int.natAbs_dvd_natAbs.mpr ⟨x, by rw [Int.mul_comm, e2]⟩
    have dp := h.dp
    have tp : 0 < pivT L := Nat.pos_of_dvd_of_pos td (by omega)
    have tb : ∀ b ∈ L, b.2.getD b.1 0 ∣ ((pivT L : Nat) : Int) := fun b hb => Int.natAbs_dvd_natAbs.mp (by rw [Int.natAbs_natCast]; exact t1 b hb)
    generalize pivT L = T at *
    have l0 : ((List.replicate w (0 : Int)).set f0 ((T : Nat) : Int)).length = w := by rw [List.length_set, List.length_replicate]
    have lt0 : ∀ b ∈ L, b.1 < ((List.replicate w (0 : Int)).set f0 ((T : Nat) : Int)).length := fun b hb => by rw [l0]; exact h.lt b hb
    have at0 : ∀ k, (∀ b ∈ L, b.1 ≠ k) → ns.getD k 0 = if k = f0 then (T : Int) else 0 := fun k hk => by
      rw [← e, num_other L _ lt0 hk, set_at (by rw [List.length_replicate]; exact fw)]
      by_cases y : k = f0
      · rw [if_pos y, if_pos y]
      · rw [if_neg y, if_neg y, List.getD_eq_getElem?_getD, List.getElem?_replicate]
        split <;> rfl
    have at1 : ∀ b ∈ L, ns.getD b.1 0 = -((T : Int) / b.2.getD b.1 0) * b.2.getD f0 0 := fun b hb => by
      rw [← e]
      exact num_own L _ lt0 h.nd hb
    refine ⟨by rw [← e, num_len, l0], fun b hb => ?_, f0, fw, by rw [at0 f0 fn, if_pos rfl]; omega⟩
    have lb := h.len b hb
    have bw := h.lt b hb
    rw [dot_two (i := b.1) (p := f0) (by omega) (by omega) (fn b hb) fun k hk n1 n2 => ?_]
    · rw [at1 b hb, at0 f0 fn, if_pos rfl, Int.neg_mul, Int.mul_neg, ← Int.mul_assoc, Int.mul_ediv_cancel' (tb b hb), Int.mul_comm (T : Int)]
      omega
    · by_cases y : ∃ c ∈ L, c.1 = k
      · obtain ⟨c, hc, rfl⟩ := y
        rw [h.off b hb c hc (Ne.symm n1), Int.zero_mul]
      · rw [at0 k (fun c hc e => y ⟨c, hc, e⟩), if_neg n2, Int.mul_zero]
/-- all that is computed is bounded -/
theorem piv_le {w : Nat} {L : List Brow} {D : Int} {E : Nat} (h : SpI w L D E) : 0 < pivT L ∧ pivT L ≤ E ∧ (∀ b ∈ L, b.2.getD b.1 0 ∣ ((pivT L : Nat) : Int)) := by
  obtain ⟨_, t1, t2⟩ := pivT_fold L 1
  have td : pivT L ∣ D.natAbs := t2 D.natAbs (Nat.one_dvd _) fun b hb => by
    obtain ⟨x, _, e2, _⟩ := h.dv b hb
    exact Int.natAbs_dvd_natAbs.mpr ⟨x, by rw [Int.mul_comm, e2]⟩
  have dp := h.dp
  refine ⟨Nat.pos_of_dvd_of_pos td (by omega), Nat.le_trans (Nat.le_of_dvd (by omega) td) h.de, fun b hb => Int.natAbs_dvd_natAbs.mp (by rw [Int.natAbs_natCast]; exact t1 b hb)⟩
theorem piv_pre {w : Nat} {L L1 L2 : List Brow} {D : Int} {E : Nat} (h : SpI w L D E) (e : L = L1 ++ L2) : 0 < pivT L1 ∧ pivT L1 ≤ E := by
  obtain ⟨_, t1, t2⟩ := pivT_fold L1 1
  have td : pivT L1 ∣ D.natAbs := t2 D.natAbs (Nat.one_dvd _) fun b hb => by
    obtain ⟨x, _, e2, _⟩ := h.dv b (by rw [e]; exact List.mem_append_left _ hb)
    exact Int.natAbs_dvd_natAbs.mpr ⟨x, by rw [Int.mul_comm, e2]⟩
  have dp := h.dp
  exact ⟨Nat.pos_of_dvd_of_pos td (by omega), Nat.le_trans (Nat.le_of_dvd (by omega) td) h.de⟩
theorem line_le {w : Nat} {L : List Brow} {D : Int} {E : Nat} (h : SpI w L D E) {b : Brow} (hb : b ∈ L) (k : Nat) : (b.2.getD k 0).natAbs ≤ E := by
  obtain ⟨c, c0, _, c2⟩ := h.dv b hb
  have z := c2 k
  rw [Int.natAbs_mul] at z
  exact Nat.le_trans (Nat.le_mul_of_pos_left _ (by omega)) z
end La
-- part VSpan
set_option maxHeartbeats 8000000
/-! A span in the heap; Span.rest. -/
namespace Kn
open PySem PySem.Spec PyProof.Rows L2 La
abbrev sCls : Stmt := topS 17
abbrev sInit : Stmt := inClass sCls 0
abbrev sRest : Stmt := inClass sCls 1
abbrev sSTake : Stmt := inClass sCls 2
abbrev NRe : List Str := ["self", "row", "draws", "times", "left", "draw", "place", "line", "x", "y"]
theorem scRe : FnScope NRe ["self", "row"] (defScope sRest) := ⟨rfl, rfl, rfl, by decide +kernel, rfl, by decide +kernel, by decide +kernel⟩
structure STxt (K : PySem.W.Frag) (C : Addr) : Prop where
  cl : Cls K C
  nW : NoAttr K C "width"
  nL : NoAttr K C "lines"
def LnH (H : Hp) (as : List Addr) (L : List Brow) : Prop := Paired (fun (a : Addr) (b : Brow) => H a = some (.lst (vI b.2))) as L
theorem LnH.same {H H' : Hp} {as : List Addr} {L : List Brow} (h : LnH H as L) (s : Same H H') : LnH H' as L := paired_imp (fun _ _ e => s _ _ e) h
def kvB (as : List Addr) (L : List Brow) : List (Key × V) := List.zipWith (fun (a : Addr) (b : Brow) => ((Sum.inl ((b.1 : Nat) : Int) : Key), V.ref a)) as L
theorem kvB_at {as : List Addr} {L : List Brow} {i : Nat} {a : Addr} {b : Brow} (ha : as[i]? = some a) (hb : L[i]? = some b) : (kvB as L)[i]? = some (.inl ((b.1 : Nat) : Int), .ref a) := by
  unfold kvB
  rw [List.getElem?_zipWith, ha, hb]
theorem kvB_keys {as : List Addr} {L : List Brow} (h : as.length = L.length) : (kvB as L).map (·.1) = L.map fun b => (Sum.inl ((b.1 : Nat) : Int) : Key) := by
  unfold kvB
  rw [List.map_zipWith]
  induction L generalizing as with
  | nil => cases as <;> rfl
  | cons b L ih =>
    cases as with
    | nil => cases h
    | cons a as =>
      show _ :: _ = _ :: _
      rw [ih (by simpa using h)]
theorem kvB_len {as : List Addr} {L : List Brow} (h : as.length = L.length) : (kvB as L).length = L.length := by
  unfold kvB
  rw [List.length_zipWith]; omega
theorem nodup_key {l : List Brow} (h : (l.map (·.1)).Nodup) : (l.map fun b => (Sum.inl ((b.1 : Nat) : Int) : Key)).Nodup := by
  rw [List.nodup_iff_pairwise_ne, List.pairwise_map] at h ⊢
  exact h.imp fun ne e => ne (by have z := Sum.inl.inj e; omega)
theorem valK_at {κ : Type} [DecidableEq κ] : ∀ {kvs : List (κ × V)} {i : Nat} {k : κ} {v : V}, (kvs.map (·.1)).Nodup → kvs[i]? = some (k, v) → valV kvs k = some v
  | [], i, _, _, _, e => by cases i <;> cases e
  | p :: r, 0, k, v, _, e => by cases e; exact valV_pos rfl
  | p :: r, i + 1, k, v, nd, e => by
    rw [List.map_cons, List.nodup_cons] at nd
    have m : k ∈ r.map (·.1) := List.mem_map.mpr ⟨(k, v), List.mem_of_getElem? (show r[i]? = some (k, v) from e), rfl⟩
    rw [valV_neg fun z => nd.1 (by rw [z]; exact m)]
    exact valK_at nd.2 (show r[i]? = some (k, v) from e)
structure SpanAt (C : Addr) (H : Hp) (o d : Addr) (as : List Addr) (L : List Brow) : Prop where
  ex : ∃ dx, H o = some (.ins C dx [("width", .non), ("lines", .ref d)])
  dic : H d = some (.dK (kvB as L))
  ln : LnH H as L
theorem SpanAt.same {C : Addr} {H H' : Hp} {o d : Addr} {as : List Addr} {L : List Brow} (h : SpanAt C H o d as L) (s : Same H H') : SpanAt C H' o d as L := ⟨by
  obtain ⟨dx, e⟩ := h.ex
  exact ⟨dx, s _ _ e⟩, s _ _ h.dic, h.ln.same s⟩
/-- how large all is -/
structure SzOk (w : Nat) (L : List Brow) (e : Nat) : Prop where
  ex : ∃ D E, SpI w L D E ∧ E < 2 ^ e
  w45 : w ≤ 45
  e0 : 0 < e
def spRest (C : Addr) : Sp := fun vs H Q _ => ∃ o d as L r row, ∃ w m e : Nat, vs = [.ref o, .ref r] ∧ SpanAt C H o d as L ∧ H r = some (.lst (vI row)) ∧ SzOk w L e ∧ row.length = w ∧ Bt m row ∧ 0 < m ∧ m + e + 6 ≤ 8000 ∧
  ∀ b H', Same H H' → H' b = some (.lst (vI (restF L row))) → Q (.ref b) H'
theorem draws_fm (L : List Brow) (row : List Int) : (L.map fun b => if row.getD b.1 0 ≠ 0 then some b else none).filterMap id = drawsF L row := by
  unfold drawsF
  induction L with
  | nil => rfl
  | cons b L ih =>
    rw [List.map_cons, List.filterMap_cons, List.filter_cons]
    by_cases c : row.getD b.1 0 ≠ 0
    · rw [if_pos c, decide_eq_true c, if_pos rfl]
      show b :: _ = _
      rw [ih]
    · rw [if_neg c, decide_eq_false c]
      exact ih
theorem quo_int {row : List Int} {b : Brow} (p : 0 < b.2.getD b.1 0) : b.2.getD b.1 0 / ((Nat.gcd (b.2.getD b.1 0).natAbs (row.getD b.1 0).natAbs : Nat) : Int) = ((quo row b : Nat) : Int) := by
  unfold quo
  have e : b.2.getD b.1 0 = (((b.2.getD b.1 0).natAbs : Nat) : Int) := by omega
  conv => lhs; lhs; rw [e]
  rfl
theorem bt_getD {b : Nat} {r : List Int} (h : Bt b r) (k : Nat) : (r.getD k 0).natAbs < 2 ^ b := by
  rw [List.getD_eq_getElem?_getD]
  cases e : r[k]? with
  | none => exact Nat.two_pow_pos b
  | some x => exact h x (List.mem_of_getElem? e)
theorem left_take {T : Nat} {row f : List Int} {ds : List Brow} {i : Nat} {b : Brow} (h : ds[i]? = some b) : leftG T row (ds.take (i + 1)) f = comb 1 (drawN T row b) (leftG T row (ds.take i) f) b.2 := by
  unfold leftG
  rw [List.take_add_one, h, List.foldl_append]
  rfl
theorem times_take {row : List Int} {ds : List Brow} {i : Nat} {b : Brow} (h : ds[i]? = some b) : timesF row (ds.take (i + 1)) = Nat.lcm (timesF row (ds.take i)) (quo row b) := by
  unfold timesF
  rw [List.take_add_one, h, List.foldl_append]
  rfl
theorem times_pre {w : Nat} {L : List Brow} {D : Int} {E : Nat} (h : SpI w L D E) (row : List Int) (i : Nat) : timesF row ((drawsF L row).take i) ≤ E := by
  obtain ⟨_, h2, h3⟩ := lcm_fold ((drawsF L row).take i) 1 row
  have hd : timesF row ((drawsF L row).take i) ∣ D.natAbs := h3 D.natAbs (Nat.one_dvd _) fun b hb => by
    obtain ⟨c, _, e, _⟩ := h.dv b (List.mem_filter.mp (List.mem_of_mem_take hb)).1
    exact Int.ofNat_dvd_left.mp (Int.dvd_trans quo_dvd ⟨c, by rw [Int.mul_comm, e]⟩)
  have dp := h.dp
  exact Nat.le_trans (Nat.le_of_dvd (by omega) hd) h.de
theorem comb_one {d : Int} : ∀ (f p : List Int), List.zipWith (fun x y => x - d * y) f p = comb 1 d f p
  | [], _ => rfl
  | _ :: _, [] => rfl
  | x :: f, y :: p => by
    show (x - d * y) :: List.zipWith (fun x y => x - d * y) f p = (1 * x - d * y) :: comb 1 d f p
    rw [comb_one f p, Int.one_mul]
section
variable {P : Program} {w : World} {K : PySem.W.Frag} {mg : Str → Option Value} {base : Heap}
theorem ok_rest {f fM C : Addr} {fd fdM : FuncData} (F : Fun K "rest" "Span.rest" sRest f fd) (T : STxt K C) (GM : FnOk P w K mg base CX0 1 fM fdM ["row"] spMade) (kM : PySem.W.keepIn K (.ref fM) = true) (bM : Binds K fdM ["row"] []) (gM : mg "made_small" = some (.ref fM))
    (gG : mg "gcd" = some (.builtin "math.gcd")) (gL : mg "lcm" = some (.builtin "math.lcm")) (mz : mg "zip" = none) : FnOk P w K mg base CX0 2 f fd ["self", "row"] (spRest C) := by
  have S := scRe
  refine F.ok S (fun vs H Q E h => ?_) (fun cdv A outer s H vs Q E hr h => ?_)
  · obtain ⟨o, d, as, L, r, row, w, m, e, rfl, _⟩ := h
    rfl
  · obtain ⟨o, d, as, L, r, row, wd, m, e, rfl, hs, hrow, sz, lrow, bm, m0, me, q⟩ := h
    have hu := hu_of hr
    refine ⟨_, (pss_cons (ps_lock (ps_setLc (i := 2) (own := [("place", 6)]) (g := gName 6) rfl S.nd rfl rfl (sw_true rfl rfl rfl (by decide +kernel)) (pi_keys (pe_fld (pv 0) rfl)) (blkOk_by (N := NRe) (sc := defScope sRest) (by decide +kernel)) (fun _ _ _ _ _ => (pg_name (i := 6) S.nd rfl (.inl rfl))) (fun _ _ _ _ _ => (pts_one (pt_cmpR op_ne (pe_ix (show IxR _ (rIxL K) from ix_list) (pv 1) (pv 6) (fun _ _ => rfl)) pe_int (nomark _)))) (fun _ _ _ _ _ => (pe_tup (pa_cons (pv 6) (pa_cons (pe_dget hu (show PE _ _ (tFld K (tVar 0) "lines") from pe_fld (pv 0) rfl) (pv 6) (fun _ _ => rfl)) pa_nil))))))
      (pss_cons (ps_set (i := 3) S.nd rfl (.inr rfl) pe_int)
      (pss_cons (ps_for PassesOwn.never rfl (pi_list (pv 2)) (pg_tup rfl (pgs_cons (pg_name (i := 6) S.nd rfl (.inl rfl)) (pgs_cons (pg_name (i := 7) S.nd rfl (.inl rfl)) pgs_nil)))
        (pss_one (ps_set (i := 3) S.nd rfl (.inr rfl) (pe_callBfun (show CallR _ (.builtin "math.lcm") rLcm from cr_lcm) (by rfl) gL (pa_cons (pv 3) (pa_cons (pe_op op_fdivX (pe_ix (show IxR _ (rIxL K) from ix_list) (pv 7) (pv 6) (fun _ _ => rfl)) (pe_callBfun (show CallR _ (.builtin "math.gcd") rGcd from cr_gcd) (by rfl) gG (pa_cons (pe_ix (show IxR _ (rIxL K) from ix_list) (pv 7) (pv 6) (fun _ _ => rfl)) (pa_cons (pe_ix (show IxR _ (rIxL K) from ix_list) (pv 1) (pv 6) (fun _ _ => rfl)) pa_nil)))) pa_nil))))))
      (pss_cons (ps_setLc (i := 4) (own := [("x", 8)]) (g := gName 8) rfl S.nd rfl rfl (sw_true rfl rfl rfl (by decide +kernel)) (pi_list (pv 1)) (blkOk_by (N := NRe) (sc := defScope sRest) (by decide +kernel)) (fun _ _ _ _ _ => (pg_name (i := 8) S.nd rfl (.inl rfl))) (fun _ _ _ _ _ => pts_nil) (fun _ _ _ _ _ => (pe_op op_mulW (pv 3) (pv 8))))
      (pss_cons (ps_for PassesOwn.never rfl (pi_list (pv 2)) (pg_tup rfl (pgs_cons (pg_name (i := 6) S.nd rfl (.inl rfl)) (pgs_cons (pg_name (i := 7) S.nd rfl (.inl rfl)) pgs_nil)))
        (pss_cons (ps_set (i := 5) S.nd rfl (.inr rfl) (pe_op op_fdivX (pe_op op_mulW (pv 3) (pe_ix (show IxR _ (rIxL K) from ix_list) (pv 1) (pv 6) (fun _ _ => rfl))) (pe_ix (show IxR _ (rIxL K) from ix_list) (pv 7) (pv 6) (fun _ _ => rfl))))
        (pss_one (ps_setLc (i := 4) (own := [("x", 8), ("y", 9)]) (g := gTup K 2 (gCons (gName 8) (gCons (gName 9) gNil))) rfl S.nd rfl rfl (sw_true rfl rfl rfl (by decide +kernel)) (pi_zip (by rfl) mz (pa_cons (pv 4) (pa_cons (pv 7) pa_nil))) (blkOk_by (N := NRe) (sc := defScope sRest) (by decide +kernel)) (fun _ _ _ _ _ => (pg_tup rfl (pgs_cons (pg_name (i := 8) S.nd rfl (.inl rfl)) (pgs_cons (pg_name (i := 9) S.nd rfl (.inl rfl)) pgs_nil)))) (fun _ _ _ _ _ => pts_nil) (fun _ _ _ _ _ => (pe_op op_sub (pv 8) (pe_op op_mulW (pv 5) (pv 9))))))))
      (pss_one (ps_ret (pe_call GM hr (by rfl) gM kM bM .nil pass0 (pa_cons (pv 4) pa_nil))))))))), ?_⟩
    obtain ⟨dx, eo⟩ := hs.ex
    obtain ⟨⟨D, E, spi, Ee⟩, w45, e0⟩ := sz
    have las : as.length = L.length := paired_len hs.ln
    have Lw := spi.many
    have nd := nodup_key spi.nd
    have one : 1 < 2 ^ e := Nat.one_lt_two_pow (by omega)
    dsimp only [tSeq]
    refine ⟨d, _, hs.dic, trivial, fun od => ?_⟩
    have od_ne : o ≠ d := fun z => by rw [z, hs.dic] at eo; cases eo
    have rd_ne : r ≠ d := fun z => by rw [z, hs.dic] at hrow; cases hrow
    generalize eH0 : L2.upd H d (.frz od (.dK (kvB as L))) = H0
    have o0 : H0 o = some (.ins C dx [("width", .non), ("lines", .ref d)]) := by rw [← eH0, upd_ne od_ne]; exact eo
    have r0 : H0 r = some (.lst (vI row)) := by rw [← eH0, upd_ne rd_ne]; exact hrow
    have d0 : H0 d = some (.frz od (.dK (kvB as L))) := by rw [← eH0, upd_same]
    have ln0 : LnH H0 as L := paired_imp (fun a b h => by
      rw [← eH0, upd_ne fun z => by rw [z, hs.dic] at h; cases h]
      exact h) hs.ln
    dsimp only [tAsg]
    refine wf_lc (bs := L.map fun b => if row.getD b.1 0 ≠ 0 then some b else none) (walk_keys (d := d) (o := od) (kvs := kvB as L)) (fun G y b => ∃ t r2, y = V.ref t ∧ G t = some (.tup [.int ((b.1 : Nat) : Int), .ref r2]) ∧ G r2 = some (.lst (vI b.2))) (fun G G' y b s ⟨t, r2, h1, h2, h3⟩ => ⟨t, r2, h1, s _ _ h2, s _ _ h3⟩)
      (fun R hR => ⟨_, rfl, o, C, dx, _, _, rfl, o0, T.cl, T.nL, rfl, d, od, rfl, .inl ⟨_, d0, hR⟩⟩) (fun H2 s => s _ _ d0) (by rw [kvB_len las, List.length_map]) (by rw [kvB_len las]; omega) (fun k x H2 H3 bb hb s2 y Dl hD nD R Z hR hZ => ?_) (fun ds ys H1 s1 nds eds pds => ?_)
    · obtain ⟨rfl, key, v, hkv, rfl⟩ := y
      rw [List.getElem?_map] at hb
      obtain ⟨b, hbL, rfl⟩ := Option.map_eq_some_iff.mp hb
      obtain ⟨a, ea, hla⟩ := paired_at ln0 hbL
      rw [kvB_at ea hbL] at hkv
      cases hkv
      have mb := List.mem_of_getElem? hbL
      have blt := spi.lt b mb
      refine ⟨rfl, _, rfl, _, rfl, r, _, _, _, rfl, rfl, SqL.of (s2 _ _ r0), at_of rfl (row_at (by omega)), rfl, !decide (V.int (row.getD b.1 0) = V.int 0), rfl, ?_⟩
      by_cases c : row.getD b.1 0 = 0
      · rw [decide_eq_true (by rw [c])]
        exact iteF (hZ _ (by rw [if_neg (fun n => n c)]) (Same.refl _))
      · rw [decide_eq_false (fun z => c (V.int.inj z))]
        refine iteT ⟨_, rfl, _, rfl, o, C, dx, _, _, rfl, s2 _ _ o0, T.cl, T.nL, rfl, _, rfl, d, .ref a, rfl, .inl ⟨_, .inl ((b.1 : Nat) : Int), .inr ⟨od, s2 _ _ d0⟩, rfl, (valK_at (by rw [kvB_keys las]; exact nd) (kvB_at ea hbL)).symm⟩, by show 2 ≤ sizeLine; decide, fun t nt => ?_⟩
        refine hR b _ _ (by rw [if_pos c]) (same_new nt) ⟨t, a, rfl, del_at upd_same ?_, del_at (same_new nt _ _ (s2 _ _ hla)) ?_⟩
        · obtain ⟨ob, ehd⟩ := hD
          intro z
          rw [z, ehd] at nt
          cases nt
        · intro z
          rw [z, nD] at hla
          cases hla
    rw [draws_fm] at pds
    -- the dict free again
    have dfr : H1 d = some (.frz od (.dK (kvB as L))) := s1 _ _ d0
    refine ⟨dfr, ?_⟩
    have s01 : Same H (L2.upd H1 d (.dK (kvB as L))) := fun b ob eb => by
      by_cases z : b = d
      · subst z
        rw [upd_same, ← eb, hs.dic]
      · rw [upd_ne z]
        refine s1 _ _ ?_
        rw [← eH0, upd_ne z]
        exact eb
    have pds2 : Paired (fun (y : V) (b : Brow) => ∃ t r2, y = V.ref t ∧ (L2.upd H1 d (.dK (kvB as L))) t = some (.tup [.int ((b.1 : Nat) : Int), .ref r2]) ∧ (L2.upd H1 d (.dK (kvB as L))) r2 = some (.lst (vI b.2))) ys (drawsF L row) := paired_imp (fun y b ⟨t, r2, h1, h2, h3⟩ => ⟨t, r2, h1, by
        rw [upd_ne fun z => by rw [z, dfr] at h2; cases h2]; exact h2, by
        rw [upd_ne fun z => by rw [z, dfr] at h3; cases h3]; exact h3⟩) pds
    have eds2 : (L2.upd H1 d (.dK (kvB as L))) ds = some (.lst ys) := by
      rw [upd_ne fun z => by rw [z, dfr] at eds; cases eds]
      exact eds
    clear pds eds dfr s1
    generalize L2.upd H1 d (.dK (kvB as L)) = H2 at s01 pds2 eds2 ⊢
    have r2 := s01 _ _ hrow
    obtain ⟨t0, td, thd⟩ := times_facts spi row
    have tE := times_pre spi row
    have dsm : ∀ b ∈ drawsF L row, b ∈ L := fun b hb => (List.mem_filter.mp hb).1
    have lo := left_ok (M := 2 ^ m) spi lrow fun k => Nat.le_of_lt (bt_getD bm k)
    have lys := paired_len pds2
    have ldl : (drawsF L row).length ≤ L.length := List.length_filter_le ..
    generalize hds : drawsF L row = dsl at pds2 t0 td thd tE dsm lys ldl
    refine ⟨_, rfl, ds, rfl, ⟨_, SqL.of eds2⟩, for_list (xs := ys) (fun i σ H3 => ∃ y6 y7, σ = [some (.ref o), some (.ref r), some (.ref ds), some (.int ((timesF row (dsl.take i) : Nat) : Int)), none, none, y6, y7, none, none] ∧ H3 = H2) ⟨none, none, rfl, rfl⟩ (fun i σ H3 _ ⟨_, _, _, z⟩ => by rw [z]; exact SqL.of eds2) ?_ ?_⟩
    · rintro i x σ H3 hx ⟨y6, y7, rfl, rfl⟩
      have li := (List.getElem?_eq_some_iff.mp hx).1
      obtain ⟨b, hb⟩ : ∃ b, dsl[i]? = some b := ⟨_, List.getElem?_eq_getElem (by omega)⟩
      obtain ⟨x2, ex2, t, rl, rfl, et, er⟩ := paired_at pds2 hb
      rw [hx] at ex2
      cases ex2
      have mb := dsm b (List.mem_of_getElem? hb)
      have lb := spi.len b mb
      have blt := spi.lt b mb
      have bp := spi.pos b mb
      have bE := line_le spi mb b.1
      have gcd0 : 0 < Nat.gcd (b.2.getD b.1 0).natAbs (row.getD b.1 0).natAbs := Nat.gcd_pos_of_pos_left _ (by omega)
      have gle : Nat.gcd (b.2.getD b.1 0).natAbs (row.getD b.1 0).natAbs ≤ (b.2.getD b.1 0).natAbs := Nat.le_of_dvd (by omega) (Nat.gcd_dvd_left _ _)
      refine ⟨t, _, rfl, SqT.of et, rfl, _, _, rfl, _, _, rfl, rfl, ?_⟩
      refine ⟨_, rfl, _, rfl, _, rfl, rl, _, _, _, rfl, rfl, SqL.of er, at_of rfl (row_at (by omega)), _, rfl, _, rfl, rl, _, _, _, rfl, rfl, SqL.of er, at_of rfl (row_at (by omega)), _, rfl, _, rfl, r, _, _, _, rfl, rfl, SqL.of r2, at_of rfl (row_at (by omega)), _, _, rfl, ?_⟩
      refine ⟨_, _, rfl, rfl, ⟨by omega, ?_, Int.ofNat_dvd_left.mpr (Nat.gcd_dvd_left _ _)⟩, _, _, rfl, ?_, ?_, ?_⟩
      · rw [Int.natAbs_natCast]
        exact Nat.lt_of_lt_of_le (PySem.Flt.log2_lt_of (k := e) e0 (by omega)) (by omega)
      · rw [Int.natAbs_natCast]
        exact Nat.lt_of_le_of_lt (tE i) (Nat.lt_of_lt_of_le Ee (Nat.pow_le_pow_right (by decide) (by omega)))
      · rw [quo_int bp, Int.natAbs_natCast]
        have z : quo row b ≤ (b.2.getD b.1 0).natAbs := Nat.div_le_self _ _
        exact Nat.lt_of_le_of_lt (Nat.le_trans z bE) (Nat.lt_of_lt_of_le Ee (Nat.pow_le_pow_right (by decide) (by omega)))
      · rw [quo_int bp, Int.natAbs_natCast, Int.natAbs_natCast, ← times_take hb]
        exact ⟨_, _, rfl, rfl⟩
    rintro σ H3 ⟨y6, y7, rfl, rfl⟩
    rw [lys, List.take_length]
    have tEe : timesF row dsl < 2 ^ e := by
      have z := tE dsl.length
      rw [List.take_length] at z
      omega
    generalize hT : timesF row dsl = Tm at t0 td thd tEe
    change tSeq _ _ _ _ _
    dsimp only [tSeq, tAsg, List.set]
    refine map_lc (i := 1) (fun x => (Tm : Int) * x) rfl r2 (by omega) (fun n hn H4 R hR => ⟨_, rfl, _, rfl, _, _, rfl, rfl, wide_mul (a := e) (b := m) (by rw [Int.natAbs_natCast]; exact tEe) (bm n hn) e0 m0 (by omega), hR⟩) fun fl H4 s4 nfl efl => ?_
    have lefE : leftF L row = leftG Tm row dsl (row.map fun x => (Tm : Int) * x) := by
      unfold leftF
      rw [hds, hT]
    have lm : (row.map fun x => ((Tm : Nat) : Int) * x).length = wd := by rw [List.length_map, lrow]
    refine ⟨_, rfl, ds, rfl, ⟨_, SqL.of (s4 _ _ eds2)⟩, for_list (xs := ys) (fun i σ H5 => ∃ fl2 y5 y6 y7 y8 y9, σ = [some (.ref o), some (.ref r), some (.ref ds), some (.int ((Tm : Nat) : Int)), some (.ref fl2), y5, y6, y7, y8, y9] ∧ Same H3 H5 ∧ H5 fl2 = some (.lst (vI (leftG Tm row (dsl.take i) (row.map fun x => (Tm : Int) * x))))) ⟨fl, none, y6, y7, none, none, rfl, s4, efl⟩ (fun i σ H5 _ ⟨_, _, _, _, _, _, _, z, _⟩ => SqL.of (z _ _ eds2)) ?_ ?_⟩
    · rintro i x σ H5 hx ⟨fl2, y5, y6', y7', y8, y9, rfl, s5, e5⟩
      have li := (List.getElem?_eq_some_iff.mp hx).1
      obtain ⟨b, hb⟩ : ∃ b, dsl[i]? = some b := ⟨_, List.getElem?_eq_getElem (by omega)⟩
      obtain ⟨x2, ex2, t, rl, rfl, et, er⟩ := paired_at pds2 hb
      rw [hx] at ex2
      cases ex2
      have mb := dsm b (List.mem_of_getElem? hb)
      have lb := spi.len b mb
      have blt := spi.lt b mb
      have bp := spi.pos b mb
      have bE := line_le spi mb b.1
      have lf5 : (leftG Tm row (dsl.take i) (row.map fun x => ((Tm : Nat) : Int) * x)).length = wd := left_len lm fun c hc => spi.len c (dsm c (List.mem_of_mem_take hc))
      have mT : ((Tm : Int) * row.getD b.1 0).natAbs < 2 ^ (e + m) := wide_lt (by rw [Int.natAbs_natCast]; exact tEe) (bt_getD bm _)
      refine ⟨t, _, rfl, SqT.of (s5 _ _ et), rfl, _, _, rfl, _, _, rfl, rfl, ?_⟩
      refine ⟨_, rfl, _, rfl, _, rfl, r, _, _, _, rfl, rfl, SqL.of (s5 _ _ r2), at_of rfl (row_at (by omega)), _, _, rfl, rfl, wide_mul (a := e) (b := m) (by rw [Int.natAbs_natCast]; exact tEe) (bt_getD bm _) e0 m0 (by omega), _, rfl, _, rfl, rl, _, _, _, rfl, rfl, SqL.of (s5 _ _ er), at_of rfl (row_at (by omega)), _, _, rfl, rfl, ⟨by omega, ?_, thd b (List.mem_of_getElem? hb)⟩, ?_⟩
      · exact Nat.lt_of_lt_of_le (PySem.Flt.log2_lt_of (k := e) e0 (by omega)) (by omega)
      dsimp only [List.set]
      unfold gName
      dsimp only [tAsg, List.set, List.map]
      refine zip_lc (i := 8) (j := 9) (fun x y => x - drawN Tm row b * y) (fun R hR => ⟨_, rfl, _, rfl, hR⟩) e5 (s5 _ _ er) (by rw [lf5, lb]) (by rw [lf5]; omega) (fun x y hx hy H6 R hR => ⟨_, rfl, _, rfl, _, rfl, _, _, rfl, rfl, wide_mul (a := e + m) (b := e) ?_ ?_ (by omega) e0 (by omega), _, _, rfl, rfl, hR⟩) fun fl3 H6 s6 nfl3 e6 => ⟨fl3, _, _, _, _, _, rfl, s5.trans s6, ?_⟩
      · exact Nat.lt_of_le_of_lt (Int.natAbs_ediv_le_natAbs _ _) mT
      · obtain ⟨k, hk, rfl⟩ := List.getElem_of_mem hy
        have z := line_le spi mb k
        rw [List.getD_eq_getElem?_getD, List.getElem?_eq_getElem hk] at z
        exact Nat.lt_of_le_of_lt z Ee
      · rw [e6, left_take hb, comb_one]
    · rintro σ H5 ⟨fl2, y5, y6', y7', y8, y9, rfl, s5, e5⟩
      rw [lys, List.take_length, ← lefE] at e5
      refine ⟨_, rfl, fl2, leftF L row, rfl, e5, by rw [lo.len]; omega, fun x hx => ?_, fun b H6 s6 e6 => q b H6 ((s01.trans s5).trans s6) e6⟩
      obtain ⟨k, hk, rfl⟩ := List.getElem_of_mem hx
      have z := lo.le k
      rw [List.getD_eq_getElem?_getD, List.getElem?_eq_getElem hk] at z
      refine Nat.lt_of_le_of_lt z ?_
      have l64 : L.length + 1 ≤ 2 ^ 6 := by
        have : 2 ^ 6 = 64 := by decide
        omega
      have y1 : (L.length + 1) * (2 ^ m * E) < 2 ^ 6 * (2 ^ m * 2 ^ e) := by
        have z1 : 2 ^ m * E < 2 ^ m * 2 ^ e := Nat.mul_lt_mul_of_pos_left Ee (Nat.pow_pos (by decide))
        exact Nat.lt_of_le_of_lt (Nat.mul_le_mul_right _ l64) (Nat.mul_lt_mul_of_pos_left z1 (by decide))
      rw [← Nat.pow_add, ← Nat.pow_add] at y1
      exact Nat.lt_of_lt_of_le y1 (Nat.pow_le_pow_right (by decide) (by omega))
end
end Kn
-- part VTake
set_option maxHeartbeats 8000000
/-! Span.take. -/
namespace Kn
open PySem PySem.Spec PyProof.Rows L2 La
abbrev NTk : List Str := ["self", "row", "left", "place", "other", "line", "common", "times", "draw", "x", "y"]
theorem scTk : FnScope NTk ["self", "row"] (defScope sSTake) := ⟨rfl, rfl, rfl, by decide +kernel, rfl, by decide +kernel, by decide +kernel⟩
/-- all but the dict at d stands -/
def ButD1 (d : Addr) (H H' : Hp) : Prop := ∀ b ob, H b = some ob → b ≠ d → H' b = some ob
theorem ButD1.of {d : Addr} {H H' : Hp} (s : Same H H') : ButD1 d H H' := fun b ob e _ => s b ob e
theorem ButD1.trans {d : Addr} {H H1 H2 : Hp} (a : ButD1 d H H1) (b : ButD1 d H1 H2) : ButD1 d H H2 := fun x ob e n => b x ob (a x ob e n) n
theorem ButD1.upd {d : Addr} {H : Hp} {u : HO} : ButD1 d H (L2.upd H d u) := fun b ob e n => by rw [upd_ne n]; exact e
/-- ahead of the loop: the row's sign set -/
def PTk (C : Addr) (H : Hp) (o d r : Addr) (L : List Brow) (row : List Int) : TS := fun D σ H3 => ∃ p fl, firstNz (restF L row) = some p ∧ σ = [some (.ref o), some (.ref r), some (.ref fl), some (.int (p : Nat)), none, none, none, none, none, none, none] ∧ Same H H3 ∧ H3 fl = some (.lst (vI (flipF (restF L row) p))) ∧
  ∀ as' H', ButD1 d H H' → SpanAt C H' o d as' (takeF L row) → D.rt (.bl true) H'
def spSTake (C : Addr) : Sp := fun vs H Q _ => ∃ o d as L r row, ∃ w m e : Nat, vs = [.ref o, .ref r] ∧ SpanAt C H o d as L ∧ H r = some (.lst (vI row)) ∧ SzOk w L e ∧ row.length = w ∧ Bt m row ∧ 0 < m ∧ m + 2 * e + 7 ≤ 8000 ∧
  ∀ as' H', ButD1 d H H' → SpanAt C H' o d as' (takeF L row) → Q (.bl (firstNz (restF L row)).isSome) H'
/-- the lines made low, up to the i-th -/
def lowI (L : List Brow) (q : Nat) (f : List Int) (i : Nat) : List Brow := (L.take i).map (lowF q f) ++ L.drop i
theorem lowF_1 {q : Nat} {f : List Int} {b : Brow} : (lowF q f b).1 = b.1 := by
  unfold lowF
  split <;> rfl
theorem lowI_len {L : List Brow} {q : Nat} {f : List Int} {i : Nat} : (lowI L q f i).length = L.length := by
  unfold lowI
  rw [List.length_append, List.length_map, List.length_take, List.length_drop]; omega
theorem lowI_at {L : List Brow} {q : Nat} {f : List Int} {i : Nat} {b : Brow} (h : L[i]? = some b) : (lowI L q f i)[i]? = some b := by
  have li := (List.getElem?_eq_some_iff.mp h).1
  unfold lowI
  rw [List.getElem?_append_right (by rw [List.length_map, List.length_take]; omega), List.length_map, List.length_take, List.getElem?_drop, show i + (i - min i L.length) = i by omega]
  exact h
theorem lowI_set {L : List Brow} {q : Nat} {f : List Int} {i : Nat} {b : Brow} (h : L[i]? = some b) : (lowI L q f i).set i (lowF q f b) = lowI L q f (i + 1) := by
  obtain ⟨li, e⟩ := List.getElem?_eq_some_iff.mp h
  have lt : ((L.take i).map (lowF q f)).length = i := by rw [List.length_map, List.length_take]; omega
  unfold lowI
  rw [List.set_append_right _ _ (by omega), lt, Nat.sub_self, List.drop_eq_getElem_cons li, e, List.take_add_one, h]
  simp
theorem lowI_skip {L : List Brow} {q : Nat} {f : List Int} {i : Nat} {b : Brow} (h : L[i]? = some b) (z : b.2.getD q 0 = 0) : lowI L q f (i + 1) = lowI L q f i := by
  have e : lowF q f b = b := by
    unfold lowF
    rw [if_neg fun n => n z]
  rw [← lowI_set h, e]
  obtain ⟨li, e2⟩ := List.getElem?_eq_some_iff.mp (lowI_at (q := q) (f := f) h)
  rw [← e2]
  exact List.set_getElem_self li
theorem lowI_keys {L : List Brow} {q : Nat} {f : List Int} {i : Nat} : (lowI L q f i).map (·.1) = L.map (·.1) := by
  unfold lowI
  rw [List.map_append, List.map_map, List.map_congr_left (f := (fun x : Brow => x.1) ∘ lowF q f) (g := fun b : Brow => b.1) fun b _ => lowF_1, ← List.map_append, List.take_append_drop]
theorem lowI_all {L : List Brow} {q : Nat} {f : List Int} : lowI L q f L.length = L.map (lowF q f) := by
  unfold lowI
  rw [List.take_length, List.drop_length, List.append_nil]
/-- a line put anew -/
theorem kvB_set {as : List Addr} {L : List Brow} {i : Nat} {b : Brow} {r : List Int} {a : Addr} (nd : (L.map (·.1)).Nodup) (l : as.length = L.length) (h : L[i]? = some b) : putK (kvB as L) (.inl ((b.1 : Nat) : Int)) (.ref a) = kvB (as.set i a) (L.set i (b.1, r)) := by
  have li := (List.getElem?_eq_some_iff.mp h).1
  obtain ⟨a0, ea⟩ : ∃ a0, as[i]? = some a0 := ⟨_, List.getElem?_eq_getElem (by omega)⟩
  have hk := kvB_at ea h
  have lk := kvB_len l
  unfold putK
  rw [if_pos (List.any_eq_true.mpr ⟨_, List.mem_of_getElem? hk, decide_eq_true rfl⟩)]
  refine List.ext_getElem? fun j => ?_
  rw [List.getElem?_map]
  by_cases c : j < L.length
  · obtain ⟨bj, hb⟩ : ∃ bj, L[j]? = some bj := ⟨_, List.getElem?_eq_getElem c⟩
    obtain ⟨aj, ha⟩ : ∃ aj, as[j]? = some aj := ⟨_, List.getElem?_eq_getElem (by omega)⟩
    rw [kvB_at ha hb]
    by_cases e : i = j
    · subst e
      rw [h] at hb
      cases hb
      have z := kvB_at (as := as.set i a) (L := L.set i (b.1, r)) (i := i) (a := a) (b := (b.1, r)) (by rw [List.getElem?_set_self (by omega)]) (by rw [List.getElem?_set_self li])
      rw [z]
      show some (if ((Sum.inl ((b.1 : Nat) : Int) : Key) = Sum.inl ((b.1 : Nat) : Int)) then _ else _) = _
      rw [if_pos rfl]
    · have z := kvB_at (as := as.set i a) (L := L.set i (b.1, r)) (i := j) (a := aj) (b := bj) (by rw [List.getElem?_set_ne e]; exact ha) (by rw [List.getElem?_set_ne e]; exact hb)
      rw [z]
      show some (if ((Sum.inl ((bj.1 : Nat) : Int) : Key) = Sum.inl ((b.1 : Nat) : Int)) then _ else _) = _
      rw [if_neg]
      intro y2
      have y3 : bj.1 = b.1 := by have y4 := Sum.inl.inj y2; omega
      have p := List.pairwise_iff_getElem.mp (List.nodup_iff_pairwise_ne.mp nd)
      have g1 : (L.map (·.1))[i]'(by rw [List.length_map]; exact li) = b.1 := by rw [List.getElem_map, (List.getElem?_eq_some_iff.mp h).2]
      have g2 : (L.map (·.1))[j]'(by rw [List.length_map]; exact c) = bj.1 := by rw [List.getElem_map, (List.getElem?_eq_some_iff.mp hb).2]
      rcases Nat.lt_or_gt_of_ne e with x | x
      · exact p i j (by rw [List.length_map]; exact li) (by rw [List.length_map]; exact c) x (by rw [g1, g2, y3])
      · exact p j i (by rw [List.length_map]; exact c) (by rw [List.length_map]; exact li) x (by rw [g1, g2, y3])
  · rw [List.getElem?_eq_none (by omega), List.getElem?_eq_none (by
      rw [kvB_len (by rw [List.length_set, List.length_set]; exact l), List.length_set]; omega)]
    rfl
theorem kvB_new {as : List Addr} {L : List Brow} {q : Nat} {f : List Int} {a : Addr} (l : as.length = L.length) (h : ∀ b ∈ L, b.1 ≠ q) : putK (kvB as L) (.inl ((q : Nat) : Int)) (.ref a) = kvB (as ++ [a]) (L ++ [(q, f)]) := by
  unfold putK
  rw [if_neg]
  · unfold kvB
    rw [List.zipWith_append l]
    rfl
  · intro y
    obtain ⟨kv, hm, e⟩ := List.any_eq_true.mp y
    have e2 := of_decide_eq_true e
    have m : kv.1 ∈ (kvB as L).map (·.1) := List.mem_map_of_mem hm
    rw [kvB_keys l] at m
    obtain ⟨b, hb, e3⟩ := List.mem_map.mp m
    rw [← e3] at e2
    exact h b hb (by have z := Sum.inl.inj e2; omega)
section
variable {P : Program} {w : World} {K : PySem.W.Frag} {mg : Str → Option Value} {base : Heap}
theorem ok_stake {f fR fM fF C : Addr} {fd fdR fdM fdF : FuncData} (F : Fun K "take" "Span.take" sSTake f fd) (T : STxt K C) (mR : Meth K C "rest" fR) (GR : FnOk P w K mg base CX0 2 fR fdR ["self", "row"] (spRest C)) (bR : Binds K fdR ["self", "row"] [])
    (GM : FnOk P w K mg base CX0 1 fM fdM ["row"] spMade) (kM : PySem.W.keepIn K (.ref fM) = true) (bM : Binds K fdM ["row"] []) (gM : mg "made_small" = some (.ref fM))
    (GF : FnOk P w K mg base CX0 1 fF fdF ["row"] spFp) (kF : PySem.W.keepIn K (.ref fF) = true) (bF : Binds K fdF ["row"] []) (gF : mg "first_place" = some (.ref fF))
    (gG : mg "gcd" = some (.builtin "math.gcd")) (mz : mg "zip" = none) (ml : mg "list" = none) : FnOk P w K mg base CX0 3 f fd ["self", "row"] (spSTake C) := by
  have S := scTk
  refine F.ok S (fun vs H Q E h => ?_) (fun cdv A outer s H vs Q E hr h => ?_)
  · obtain ⟨o, d, as, L, r, row, w, m, e, rfl, _⟩ := h
    rfl
  · obtain ⟨o, d, as, L, r, row, wd, m, e, rfl, hs, hrow, sz, lrow, bm, m0, me, q⟩ := h
    have hu := hu_of hr
    have hr1 := hr.mono (show 1 ≤ 2 by decide)
    obtain ⟨dx, eo⟩ := hs.ex
    obtain ⟨⟨D, E, spi, Ee⟩, w45, e0⟩ := id sz
    have las : as.length = L.length := paired_len hs.ln
    have Lw := spi.many
    have nd := nodup_key spi.nd
    have one : 1 < 2 ^ e := Nat.one_lt_two_pow (by omega)
    have lo := rest_ok (M := 2 ^ m) spi lrow fun k => Nat.le_of_lt (bt_getD bm k)
    have lb : ∀ k, ((restF L row).getD k 0).natAbs < 2 ^ (m + e + 6) := fun k => by
      refine Nat.lt_of_le_of_lt (lo.le k) ?_
      have l64 : L.length + 1 ≤ 2 ^ 6 := by
        have : 2 ^ 6 = 64 := by decide
        omega
      have z1 : 2 ^ m * E < 2 ^ m * 2 ^ e := Nat.mul_lt_mul_of_pos_left Ee (Nat.pow_pos (by decide))
      have y1 : (L.length + 1) * (2 ^ m * E) < 2 ^ 6 * (2 ^ m * 2 ^ e) := Nat.lt_of_le_of_lt (Nat.mul_le_mul_right _ l64) (Nat.mul_lt_mul_of_pos_left z1 (by decide))
      rw [← Nat.pow_add, ← Nat.pow_add, show 6 + (m + e) = m + e + 6 by omega] at y1
      exact y1
    refine ⟨_, (pss_cons (ps_set (i := 2) S.nd rfl (.inl rfl) (pe_meth (pv 0) T.cl mR GR hr bR .nil pass0 (pa_cons (pv 1) pa_nil)))
      (pss_cons (ps_set (i := 3) S.nd rfl (.inl rfl) (pe_call GF hr1 (by rfl) gF kF bF .nil pass0 (pa_cons (pe_ifExp (pt_cmpR op_isN (pe_fld (pv 0) rfl) pe_non (nomark _)) (pv 2) (pe_slice (show L2.SlR _ (rSlL K) from sl_list) (pv 2) po_none (po_some (pe_fld (pv 0) rfl)))) pa_nil)))
      (pss_cons (ps_if (pt_cmpR op_isN (pv 3) pe_non (nomark _)) (pss_one (ps_ret pe_bl)) pss_nil)
      (pss_cons (ps_if (pt_cmpR op_lt (pe_ix (show IxR _ (rIxL K) from ix_list) (pv 2) (pv 3) (fun _ _ => rfl)) pe_int (nomark _)) (pss_one (ps_setLc (i := 2) (own := [("x", 9)]) (g := gName 9) rfl S.nd rfl rfl (sw_true rfl rfl rfl (by decide +kernel)) (pi_list (pv 2)) (blkOk_by (N := NTk) (sc := defScope sSTake) (by decide +kernel)) (fun _ _ _ _ _ => (pg_name (i := 9) S.nd rfl (.inl rfl))) (fun _ _ _ _ _ => pts_nil) (fun _ _ _ _ _ => (pe_un un_neg (pv 9))))) pss_nil)
      (PSs.pre (PTk C H o d r L row) (pss_cons (ps_for PassesOwn.never rfl (pi_list (pe_callTy (show CallR _ (.type "list") rListD from call_list_dK rfl) (by rfl) ml (by decide +kernel) (pa_cons (show PE _ _ (tFld K (tVar 0) "lines") from pe_fld (pv 0) rfl) pa_nil))) (pg_name (i := 4) S.nd rfl (.inl rfl))
        (pss_cons (ps_set (i := 5) S.nd rfl (.inl rfl) (pe_dget hu (show PE _ _ (tFld K (tVar 0) "lines") from pe_fld (pv 0) rfl) (pv 4) (fun _ _ => rfl)))
        (pss_one (ps_if (pt_cmpR op_ne (pe_ix (show IxR _ (rIxL K) from ix_list) (pv 5) (pv 3) (fun _ _ => rfl)) pe_int (nomark _)) (pss_cons (ps_set (i := 6) S.nd rfl (.inl rfl) (pe_callBfun (show CallR _ (.builtin "math.gcd") rGcd from cr_gcd) (by rfl) gG (pa_cons (pe_ix (show IxR _ (rIxL K) from ix_list) (pv 2) (pv 3) (fun _ _ => rfl)) (pa_cons (pe_ix (show IxR _ (rIxL K) from ix_list) (pv 5) (pv 3) (fun _ _ => rfl)) pa_nil))))
          (pss_cons (ps_asg (pe_tup (pa_cons (pe_op op_fdivX (pe_ix (show IxR _ (rIxL K) from ix_list) (pv 2) (pv 3) (fun _ _ => rfl)) (pv 6)) (pa_cons (pe_op op_fdivX (pe_ix (show IxR _ (rIxL K) from ix_list) (pv 5) (pv 3) (fun _ _ => rfl)) (pv 6)) pa_nil))) (pg_tup rfl (pgs_cons (pg_name (i := 7) S.nd rfl (.inr rfl)) (pgs_cons (pg_name (i := 8) S.nd rfl (.inr rfl)) pgs_nil))))
          (pss_one (ps_dput hu (show PE _ _ (tFld K (tVar 0) "lines") from pe_fld (pv 0) rfl) (pv 4) (pe_call GM hr1 (by rfl) gM kM bM .nil pass0 (pa_cons (pe_lc (own := [("x", 9), ("y", 10)]) (g := gTup K 2 (gCons (gName 9) (gCons (gName 10) gNil))) rfl S.nd (pi_zip (by rfl) mz (pa_cons (pv 5) (pa_cons (pv 2) pa_nil))) (blkOk_by (N := NTk) (sc := defScope sSTake) (by decide +kernel)) (fun _ _ _ _ _ => (pg_tup rfl (pgs_cons (pg_name (i := 9) S.nd rfl (.inl rfl)) (pgs_cons (pg_name (i := 10) S.nd rfl (.inl rfl)) pgs_nil)))) (fun _ _ _ _ _ => pts_nil) (fun _ _ _ _ _ => (pe_op op_sub (pe_op op_mulW (pv 7) (pv 9)) (pe_op op_mulW (pv 8) (pv 10))))) pa_nil)) rfl)))) pss_nil))))
      (pss_cons (ps_dput hu (show PE _ _ (tFld K (tVar 0) "lines") from pe_fld (pv 0) rfl) (pv 3) (pv 2) rfl)
      (pss_one (ps_ret pe_bl)))) ?tail))))), ?_⟩
    case tail =>
      rintro D3 σ H3 ⟨p, fl, fe, rfl, s3, e3, qq⟩
      obtain ⟨p1, p2, _⟩ := first_some fe
      rw [lo.len] at p1
      have etk : takeF L row = L.map (lowF p (flipF (restF L row) p)) ++ [(p, flipF (restF L row) p)] := by
        unfold takeF
        rw [fe]
      obtain ⟨lf, fp⟩ := flip_ok lo p2
      have fb : ∀ k, ((flipF (restF L row) p).getD k 0).natAbs < 2 ^ (m + e + 6) := fun k => by
        unfold flipF
        split
        · rw [getD_map0 (by decide), Int.natAbs_neg]
          exact lb k
        · exact lb k
      rw [etk] at qq
      generalize flipF (restF L row) p = g at *
      have hs3 := hs.same s3
      obtain ⟨_, eo3⟩ := hs3.ex
      have qn : ∀ b ∈ L, b.1 ≠ p := fun b hb x => by
        have y := lf.own b hb
        rw [x] at y
        omega
      dsimp only [tSeq]
      refine ⟨_, rfl, o, C, _, _, _, rfl, eo3, T.cl, T.nL, rfl, d, _, rfl, hs3.dic, fun kl nkl => ?_⟩
      have s4 : Same H3 (L2.upd H3 kl (.lst ((kvB as L).map fun kv => kV kv.1))) := same_new nkl
      have ekl : (L2.upd H3 kl (.lst ((kvB as L).map fun kv => kV kv.1))) kl = some (.lst ((kvB as L).map fun kv => kV kv.1)) := upd_same
      generalize L2.upd H3 kl (.lst ((kvB as L).map fun kv => kV kv.1)) = H4 at s4 ekl ⊢
      have hs4 := hs3.same s4
      have ne : ∀ a r0, H4 a = some (.lst r0) → a ≠ d := fun a r0 ha z => by rw [z, hs4.dic] at ha; cases ha
      have e4 := s4 _ _ e3
      refine ⟨kl, rfl, ⟨_, SqL.of ekl⟩, for_list (xs := (kvB as L).map fun kv => kV kv.1) (fun i σ H5 => ∃ as5 y4 y5 y6 y7 y8, σ = [some (.ref o), some (.ref r), some (.ref fl), some (.int (p : Nat)), y4, y5, y6, y7, y8, none, none] ∧ ButD1 d H4 H5 ∧ SpanAt C H5 o d as5 (lowI L p g i)) ⟨as, none, none, none, none, none, rfl, .of (Same.refl _), hs4⟩ (fun i σ H5 _ ⟨_, _, _, _, _, _, _, z, _⟩ => SqL.of (z _ _ ekl (ne _ _ ekl))) ?_ ?_⟩
      · rintro i x σ H5 hx ⟨as5, y4, y5, y6, y7, y8, rfl, b5, hs5⟩
        rw [List.getElem?_map] at hx
        obtain ⟨kv, hkv, rfl⟩ := Option.map_eq_some_iff.mp hx
        have li : i < L.length := by
          have z := (List.getElem?_eq_some_iff.mp hkv).1
          rw [kvB_len las] at z
          exact z
        obtain ⟨b, hb⟩ : ∃ b, L[i]? = some b := ⟨_, List.getElem?_eq_getElem li⟩
        obtain ⟨a0, ea0⟩ : ∃ a0, as[i]? = some a0 := ⟨_, List.getElem?_eq_getElem (by omega)⟩
        rw [kvB_at ea0 hb] at hkv
        cases hkv
        have hbi := lowI_at (q := p) (f := g) hb
        have l5 : as5.length = (lowI L p g i).length := paired_len hs5.ln
        have nd5 : ((lowI L p g i).map (·.1)).Nodup := by rw [lowI_keys]; exact spi.nd
        obtain ⟨a, ea, ha⟩ := paired_at hs5.ln hbi
        obtain ⟨_, eo5⟩ := hs5.ex
        have e5 := b5 _ _ e4 (ne _ _ e4)
        have mb := List.mem_of_getElem? hb
        have lbb := spi.len b mb
        have bE := line_le spi mb
        refine ⟨_, rfl, o, C, _, _, _, rfl, eo5, T.cl, T.nL, rfl, _, rfl, d, .ref a, rfl, .inl ⟨_, .inl ((b.1 : Nat) : Int), .inl hs5.dic, rfl, (valK_at (by rw [kvB_keys l5]; exact nodup_key nd5) (kvB_at ea hbi)).symm⟩, ?_⟩
        refine ⟨_, rfl, _, rfl, a, _, _, _, rfl, rfl, SqL.of ha, at_of rfl (row_at (by omega)), rfl, !decide (V.int (b.2.getD p 0) = V.int 0), rfl, ?_⟩
        by_cases c : b.2.getD p 0 = 0
        · rw [decide_eq_true (by rw [c])]
          refine iteF ⟨as5, _, _, _, _, _, rfl, b5, ?_⟩
          rw [lowI_skip hb c]
          exact hs5
        rw [decide_eq_false (fun z => c (V.int.inj z))]
        have lowE : lowF p g b = (b.1, smallF (comb (g.getD p 0 / ((Nat.gcd (g.getD p 0).natAbs (b.2.getD p 0).natAbs : Nat) : Int)) (b.2.getD p 0 / ((Nat.gcd (g.getD p 0).natAbs (b.2.getD p 0).natAbs : Nat) : Int)) b.2 g)) := by
          unfold lowF
          rw [if_pos c]
        have gc0 : 0 < Nat.gcd (g.getD p 0).natAbs (b.2.getD p 0).natAbs := Nat.gcd_pos_of_pos_left _ (by omega)
        have gle : Nat.gcd (g.getD p 0).natAbs (b.2.getD p 0).natAbs ≤ (g.getD p 0).natAbs := Nat.le_of_dvd (by omega) (Nat.gcd_dvd_left _ _)
        have gd1 : ((Nat.gcd (g.getD p 0).natAbs (b.2.getD p 0).natAbs : Nat) : Int) ∣ g.getD p 0 := Int.ofNat_dvd_left.mpr (Nat.gcd_dvd_left _ _)
        have gd2 : ((Nat.gcd (g.getD p 0).natAbs (b.2.getD p 0).natAbs : Nat) : Int) ∣ b.2.getD p 0 := Int.ofNat_dvd_left.mpr (Nat.gcd_dvd_right _ _)
        have tb : (g.getD p 0 / ((Nat.gcd (g.getD p 0).natAbs (b.2.getD p 0).natAbs : Nat) : Int)).natAbs < 2 ^ (m + e + 6) := Nat.lt_of_le_of_lt (Int.natAbs_ediv_le_natAbs _ _) (fb p)
        have db : (b.2.getD p 0 / ((Nat.gcd (g.getD p 0).natAbs (b.2.getD p 0).natAbs : Nat) : Int)).natAbs < 2 ^ e := Nat.lt_of_le_of_lt (Int.natAbs_ediv_le_natAbs _ _) (Nat.lt_of_le_of_lt (bE p) Ee)
        have gl : (((Nat.gcd (g.getD p 0).natAbs (b.2.getD p 0).natAbs : Nat) : Int)).natAbs.log2 < 9000 := by
          rw [Int.natAbs_natCast]
          exact Nat.lt_of_lt_of_le (PySem.Flt.log2_lt_of (k := m + e + 6) (by omega) (Nat.lt_of_le_of_lt gle (fb p))) (by omega)
        refine iteT ⟨_, rfl, _, rfl, fl, _, _, _, rfl, rfl, SqL.of e5, at_of rfl (row_at (by rw [lf.len]; exact p1)), _, rfl, _, rfl, a, _, _, _, rfl, rfl, SqL.of ha, at_of rfl (row_at (by omega)), _, _, rfl, ?_⟩
        generalize hg : Nat.gcd (g.getD p 0).natAbs (b.2.getD p 0).natAbs = cm at gc0 gle gd1 gd2 tb db gl lowE
        refine ⟨_, rfl, _, rfl, fl, _, _, _, rfl, rfl, SqL.of e5, at_of rfl (row_at (by rw [lf.len]; exact p1)), _, rfl, _, _, rfl, rfl, ⟨by omega, gl, gd1⟩, _, rfl, _, rfl, a, _, _, _, rfl, rfl, SqL.of ha, at_of rfl (row_at (by omega)), _, rfl, _, _, rfl, rfl, ⟨by omega, gl, gd2⟩, by show 2 ≤ sizeLine; decide, fun t nt => ⟨t, _, rfl, SqT.of upd_same, rfl, _, _, rfl, _, _, rfl, rfl, ?_⟩⟩
        dsimp only [List.set, sDPut, tCall, tCons, List.map]
        generalize g.getD p 0 / ((cm : Nat) : Int) = tms at tb lowE ⊢
        generalize b.2.getD p 0 / ((cm : Nat) : Int) = drw at db lowE ⊢
        have s6 : Same H5 (L2.upd H5 t (.tup [.int tms, .int drw])) := same_new nt
        generalize L2.upd H5 t (.tup [.int tms, .int drw]) = H6 at s6 ⊢
        have ha6 := s6 _ _ ha
        have e6 := s6 _ _ e5
        have lcm1 : (comb tms drw b.2 g).length = wd := by rw [comb_len (by rw [lbb, lf.len]), lbb]
        refine zip_lc (i := 9) (j := 10) (fun x y => tms * x - drw * y) (fun R hR => ⟨_, rfl, _, rfl, hR⟩) ha6 e6 (by rw [lbb, lf.len]) (by rw [lbb]; omega) (fun x y hx hy H7 R hR => ⟨_, rfl, _, rfl, _, _, rfl, rfl, wide_mul (a := m + e + 6) (b := e) tb ?_ (by omega) e0 (by omega), _, rfl, _, rfl, _, _, rfl, rfl, wide_mul (a := e) (b := m + e + 6) db ?_ e0 (by omega) (by omega), _, _, rfl, rfl, hR⟩) fun cl H7 s7 ncl e7 => ?_
        · obtain ⟨k, hk, rfl⟩ := List.getElem_of_mem hx
          have z := bE k
          rw [List.getD_eq_getElem?_getD, List.getElem?_eq_getElem hk] at z
          exact Nat.lt_of_le_of_lt z Ee
        · obtain ⟨k, hk, rfl⟩ := List.getElem_of_mem hy
          have z := fb k
          rw [List.getD_eq_getElem?_getD, List.getElem?_eq_getElem hk] at z
          exact z
        refine ⟨cl, comb tms drw b.2 g, rfl, e7, by omega, fun x hx => ?_, fun na H8 s8 e8 => ?_⟩
        · obtain ⟨k, hk, rfl⟩ := List.getElem_of_mem hx
          have z : (comb tms drw b.2 g).getD k 0 = (comb tms drw b.2 g)[k] := by rw [List.getD_eq_getElem?_getD, List.getElem?_eq_getElem hk]; rfl
          rw [← z, comb_at (by rw [lbb, lf.len])]
          have h1 : (tms * b.2.getD k 0).natAbs < 2 ^ (m + e + 6 + e) := wide_lt tb (Nat.lt_of_le_of_lt (bE k) Ee)
          have h2 : (drw * g.getD k 0).natAbs < 2 ^ (e + (m + e + 6)) := wide_lt db (fb k)
          have h3 := Int.natAbs_sub_le (tms * b.2.getD k 0) (drw * g.getD k 0)
          rw [Nat.add_comm e] at h2
          refine Nat.lt_of_lt_of_le (m := 2 ^ (m + e + 6 + e + 1)) ?_ (Nat.pow_le_pow_right (by decide) (by omega))
          rw [Nat.pow_succ]
          omega
        have s58 : Same H5 H8 := (s6.trans s7).trans s8
        have hs8 := hs5.same s58
        obtain ⟨_, eo8⟩ := hs8.ex
        have lk : (kvB as5 (lowI L p g i)).length < sizeLine := by
          rw [kvB_len l5, lowI_len]
          exact small1000 (by omega)
        refine ⟨_, rfl, o, C, _, _, _, rfl, eo8, T.cl, T.nL, rfl, _, rfl, d, _, rfl, .inl ⟨_, .inl ((b.1 : Nat) : Int), hs8.dic, rfl, lk, rfl⟩, as5.set i na, _, _, _, _, _, rfl, (b5.trans (.of s58)).trans .upd, ?_⟩
        have od_ne : o ≠ d := fun z => by rw [z, hs8.dic] at eo8; cases eo8
        refine ⟨⟨_, by rw [upd_ne od_ne]; exact eo8⟩, ?_, ?_⟩
        · rw [upd_same, kvB_set (a := na) (r := smallF (comb tms drw b.2 g)) nd5 l5 hbi, ← lowI_set hb, lowE]
        · rw [← lowI_set hb, lowE]
          have nn : ∀ x r0, H8 x = some (.lst r0) → x ≠ d := fun x r0 hx z => by rw [z, hs8.dic] at hx; cases hx
          exact paired_set (F := fun (a : Addr) (b : Brow) => (L2.upd H8 d _) a = some (.lst (vI b.2))) (by rw [upd_ne (nn _ _ e8)]; exact e8) (paired_imp (fun a b h => by rw [upd_ne (nn _ _ h)]; exact h) hs8.ln)
      · rintro σ H5 ⟨as5, y4, y5, y6, y7, y8, rfl, b5, hs5⟩
        rw [List.length_map, kvB_len las, lowI_all] at hs5
        have l5 : as5.length = (L.map (lowF p g)).length := paired_len hs5.ln
        obtain ⟨_, eo5⟩ := hs5.ex
        have e5 := b5 _ _ e4 (ne _ _ e4)
        have lk : (kvB as5 (L.map (lowF p g))).length < sizeLine := by
          rw [kvB_len l5, List.length_map]
          exact small1000 (by omega)
        have od_ne : o ≠ d := fun z => by rw [z, hs5.dic] at eo5; cases eo5
        refine ⟨_, rfl, _, rfl, o, C, _, _, _, rfl, eo5, T.cl, T.nL, rfl, _, rfl, d, _, rfl, .inl ⟨_, .inl ((p : Nat) : Int), hs5.dic, rfl, lk, rfl⟩, ?_⟩
        refine qq (as5 ++ [fl]) _ (((ButD1.of (s3.trans s4)).trans b5).trans .upd) ⟨⟨_, by rw [upd_ne od_ne]; exact eo5⟩, ?_, ?_⟩
        · rw [upd_same, kvB_new (a := fl) (f := g) l5 fun b hb => ?_]
          obtain ⟨b0, m0, rfl⟩ := List.mem_map.mp hb
          rw [lowF_1]
          exact qn b0 m0
        · have nn : ∀ x r0, H5 x = some (.lst r0) → x ≠ d := fun x r0 hx z => by rw [z, hs5.dic] at hx; cases hx
          exact paired_snoc (by rw [upd_ne (nn _ _ e5)]; exact e5) (paired_imp (fun a b h => by rw [upd_ne (nn _ _ h)]; exact h) hs5.ln)
    have tk : ∀ H1 al, Same H H1 → H1 al = some (.lst (vI (restF L row))) → firstNz (restF L row) = none → Q (.bl false) H1 := fun H1 al s1 e1 en => by
      have z := q as H1 (.of s1) (by
        have y : takeF L row = L := by unfold takeF; rw [en]
        rw [y]
        exact hs.same s1)
      rw [en] at z
      exact z
    refine ⟨_, rfl, o, dx, _, rfl, eo, rfl, _, rfl, o, d, as, L, r, row, wd, m, e, rfl, hs, hrow, sz, lrow, bm, m0, by omega, fun al H1 s1 e1 => ?_⟩
    have hs1 := hs.same s1
    obtain ⟨_, eo1⟩ := hs1.ex
    refine ⟨_, rfl, o, C, _, _, _, rfl, eo1, T.cl, T.nW, rfl, rfl, _, rfl, ?_⟩
    rw [decide_eq_true rfl]
    refine iteT ⟨_, rfl, al, restF L row, rfl, e1, fun H2 s2 => ?_⟩
    have e2 := s2 _ _ e1
    have hs2 := hs1.same s2
    refine ⟨_, rfl, rfl, _, rfl, ?_⟩
    cases fe : firstNz (restF L row) with
    | none =>
      rw [show decide (placeV none = V.non) = true from decide_eq_true rfl]
      exact iteT (tk H2 al (s1.trans s2) e2 fe)
    | some p =>
      rw [show decide (placeV (some p) = V.non) = false from decide_eq_false (fun z => by cases z)]
      refine iteF ?_
      obtain ⟨p1, p2, _⟩ := first_some fe
      rw [lo.len] at p1
      have etk : takeF L row = L.map (lowF p (flipF (restF L row) p)) ++ [(p, flipF (restF L row) p)] := by
        unfold takeF
        rw [fe]
      obtain ⟨lf, fp⟩ := flip_ok lo p2
      have sfin : ∀ as' H', ButD1 d H H' → SpanAt C H' o d as' (takeF L row) → Q (.bl true) H' := fun as' H' b1 b2 => by
        have z := q as' H' b1 b2
        rw [fe] at z
        exact z
      refine ⟨_, rfl, _, rfl, al, _, _, _, rfl, rfl, SqL.of e2, at_of rfl (row_at (by rw [lo.len]; exact p1)), _, _, rfl, rfl, decide ((restF L row).getD p 0 < 0), rfl, ?_⟩
      by_cases ng : (restF L row).getD p 0 < 0
      · rw [decide_eq_true ng]
        refine iteT ?_
        dsimp only [tAsg, List.set]
        refine map_lc (i := 2) (fun x => -x) rfl e2 (by rw [lo.len]; omega) (fun n hn H4 R hR => ⟨_, rfl, _, rfl, hR⟩) fun fl H3 s3 nfl e3 => ⟨p, fl, fe, rfl, (s1.trans s2).trans s3, ?_, sfin⟩
        rw [e3]
        unfold flipF
        rw [if_pos ng]
      · rw [decide_eq_false ng]
        refine iteF ⟨p, al, fe, rfl, s1.trans s2, ?_, sfin⟩
        rw [e2]
        unfold flipF
        rw [if_neg ng]
end
end Kn
-- part VInit
set_option maxHeartbeats 8000000
/-! Span.__init__. -/
namespace Kn
open PySem PySem.Spec PyProof.Rows L2 La
abbrev NSi : List Str := ["self", "width"]
theorem scSi : FnScope NSi ["self", "width"] (defScope sInit) := ⟨rfl, rfl, rfl, by decide +kernel, rfl, by decide +kernel, by decide +kernel⟩
def spSInit (C : Addr) : Sp := fun vs H Q _ => ∃ o dx, vs = [.ref o, .non] ∧ H o = some (.ins C dx []) ∧ ∀ d H', (∀ b ob, H b = some ob → b ≠ o → H' b = some ob) → H d = none → SpanAt C H' o d [] [] → Q .non H'
section
variable {P : Program} {w : World} {K : PySem.W.Frag} {mg : Str → Option Value} {base : Heap}
theorem ok_sinit {f C : Addr} {fd : FuncData} {params : Arguments} {dvs : List V} {kws : List (Str × V)} (F : FunD K "__init__" "Span.__init__" params (defBody sInit) (defScope sInit) dvs kws f fd) (T : STxt K C) : FnOk P w K mg base CX0 1 f fd ["self", "width"] (spSInit C) := by
  have S := scSi
  refine F.ok S (fun vs H Q E h => ?_) (fun cdv A outer s H vs Q E hr h => ?_)
  · obtain ⟨o, dx, rfl, _⟩ := h
    rfl
  · obtain ⟨o, dx, rfl, eo, q⟩ := h
    refine ⟨_, (pss_cons (ps_fld (pv 0) (pv 1) rfl) (pss_one (ps_fld (pv 0) pe_dnewK rfl))), ?_⟩
    refine ⟨_, rfl, _, rfl, o, C, dx, _, rfl, eo, T.cl, T.nW, by decide, fun d nd => ⟨_, rfl, o, C, dx, [("width", .non)], rfl, ?_, T.cl, T.nL, by decide, ?_⟩⟩
    · rw [upd_ne (fun z => (by rw [← z, upd_same] at nd; cases nd)), upd_same]
      rfl
    · have od : o ≠ d := fun z => by rw [← z, upd_same] at nd; cases nd
      refine q d _ (fun b ob e n => ?_) ?_ ⟨⟨dx, by rw [upd_same]; rfl⟩, ?_, .nil⟩
      · have bd : b ≠ d := fun z => by rw [← z, upd_ne n, e] at nd; cases nd
        rw [upd_ne n, upd_ne bd, upd_ne n]
        exact e
      · rw [upd_ne (Ne.symm od)] at nd
        exact nd
      · rw [upd_ne (Ne.symm od), upd_same]
        rfl
/-- what Span() gives -/
theorem span_made {C : Addr} {σ : L2.St} {H : Hp} {Q : VK} {E : XK} (h : ∀ o d H', Same H H' → H o = none → H d = none → SpanAt C H' o d [] [] → Q (.ref o) H') : tMake C (spSInit C) [.non] E tNil σ H Q := by
  intro x dx nx ndx ne
  refine ⟨x, dx, rfl, upd_same, fun d H' b nd sp => ⟨rfl, h x d H' (fun a ob e => ?_) nx ?_ sp⟩⟩
  · have ax : a ≠ x := fun z => by rw [z, nx] at e; cases e
    have adx : a ≠ dx := fun z => by rw [z, ndx] at e; cases e
    exact b a ob (by rw [upd_ne ax, upd_ne adx]; exact e) ax
  · have dn : d ≠ x := fun z => by rw [z, upd_same] at nd; cases nd
    rw [upd_ne dn] at nd
    have dn2 : d ≠ dx := fun z => by rw [z, upd_same] at nd; cases nd
    rw [upd_ne dn2] at nd
    exact nd
end
end Kn
-- part VShares
set_option maxHeartbeats 8000000
/-! shares_of. -/
namespace Kn
open PySem PySem.Spec PyProof.Rows L2 La
abbrev sShares : Stmt := topS 33
abbrev NSh : List Str := ["seats", "width", "scheme", "lost", "places", "at", "seat", "more", "shares", "place"]
theorem scSh : FnScope NSh ["seats", "width", "scheme", "lost"] (defScope sShares) := ⟨rfl, rfl, rfl, by decide +kernel, rfl, by decide +kernel, by decide +kernel⟩
/-- the scope of a comprehension, where one stands -/
def lcSc : Expr → Scope
  | .ListComp _ _ sc _ => sc
  | _ => defScope (topS 14)
def stV : Stmt → Expr
  | .Assign _ e _ => e
  | .Return (some e) _ => e
  | _ => .Constant .none 0 ⟨0, 0, 0, 0⟩
abbrev bodyAt (s : Stmt) (i : Nat) : Stmt := (defBody s).getD i (.Pass ⟨0, 0, 0, 0⟩)
/-- a comprehension's scope inside another's -/
def relab (sc outer : Scope) : Scope := { sc with names := sc.names.map fun (n, k) => if (k == NameKind.free && outer.kind == .function && outer.names.lookup n == some .cell) then (n, NameKind.cell) else (n, k) }
abbrev scH1 : Scope := relab (lcSc (stV (bodyAt sShares 1))) (defScope sShares)
theorem pi_both {X : Cx} {tg e : Expr} {t u : L2.TI} (h1 : PI X tg e t) (h2 : PI X tg e u) : PI X tg e (fun σ H R => t σ H R ∨ u σ H R) := ⟨fun pins s σ H R I h => by
  rcases h with h | h
  · exact h1.run pins s σ H R I h
  · exact h2.run pins s σ H R I h⟩
def lostI (seats lost : List Int) : List Nat := (List.range seats.length).filter fun i => decide (seats.getD i 0 ∈ lost)
def lostN (seats lost : List Int) (i : Nat) : List Nat := (List.range i).filter fun i => decide (seats.getD i 0 ∈ lost)
def plF (w : Nat) (is : List Nat) : List Nat := is.flatMap fun i => (List.range w).map fun m => i * w + m
def sharesF (seats lost : List Int) (w : Nat) (rows : List (List Int)) : List (List Int) := rows.map fun r => (plF w (lostI seats lost)).map fun p => r.getD p 0
/-- a list or a tuple of rows -/
def SchH (H : Hp) (sc : Addr) (rows : List (List Int)) : Prop := ∃ xs, (H sc = some (.lst xs) ∨ Rd H sc (.tup xs)) ∧ RowsL H xs rows
theorem SchH.same {H H' : Hp} {sc : Addr} {rows : List (List Int)} (h : SchH H sc rows) (s : Same H H') : SchH H' sc rows := by
  obtain ⟨xs, h1, h2⟩ := h
  exact ⟨xs, h1.imp (fun e => s _ _ e) (fun e => Rd.same e s), h2.same s⟩
theorem inV_ints {x : Int} : ∀ {l : List Int}, inV (.int x) (vI l) = decide (x ∈ l)
  | [] => rfl
  | y :: l => by
    have ih := inV_ints (x := x) (l := l)
    unfold inV at ih ⊢
    show (eqV (V.int y) (V.int x) || (vI l).any fun z => eqV z (V.int x)) = _
    rw [ih]
    have e : eqV (V.int y) (V.int x) = decide (y = x) := rfl
    rw [e]
    by_cases c : y = x
    · subst c
      rw [decide_eq_true rfl, decide_eq_true (List.mem_cons_self ..)]; rfl
    · rw [decide_eq_false c, Bool.false_or]
      refine decide_eq_decide.mpr ⟨fun h => List.mem_cons_of_mem _ h, fun h => ?_⟩
      rcases List.mem_cons.mp h with z | z
      · exact absurd z.symm c
      · exact z
theorem flat_ints (l : List Int) : (vI l).all flatV = true := by
  rw [List.all_map]
  exact List.all_eq_true.mpr fun _ _ => rfl
theorem lostN_succ {seats lost : List Int} {i : Nat} : lostN seats lost (i + 1) = lostN seats lost i ++ if seats.getD i 0 ∈ lost then [i] else [] := by
  unfold lostN
  rw [List.range_succ, List.filter_append, List.filter_cons]
  by_cases c : seats.getD i 0 ∈ lost
  · rw [if_pos c, decide_eq_true c]; rfl
  · rw [if_neg c, decide_eq_false c]; rfl
theorem plF_app {w : Nat} {a b : List Nat} : plF w (a ++ b) = plF w a ++ plF w b := List.flatMap_append
theorem plF_len {w : Nat} : ∀ (is : List Nat), (plF w is).length = is.length * w
  | [] => (Nat.zero_mul w).symm
  | i :: is => by
    show ((List.range w).map (fun m => i * w + m) ++ plF w is).length = (is.length + 1) * w
    rw [List.length_append, plF_len is, List.length_map, List.length_range, Nat.succ_mul, Nat.add_comm]
theorem lostN_len {seats lost : List Int} {i : Nat} : (lostN seats lost i).length ≤ i := by
  have z := List.length_filter_le (fun i => decide (seats.getD i 0 ∈ lost)) (List.range i)
  rw [List.length_range] at z
  exact z
theorem plF_lt {w : Nat} {seats lost : List Int} {p : Nat} (h : p ∈ plF w (lostI seats lost)) : p < seats.length * w := by
  obtain ⟨i, hi, hp⟩ := List.mem_flatMap.mp h
  obtain ⟨m, hm, rfl⟩ := List.mem_map.mp hp
  have z := List.mem_range.mp (List.mem_filter.mp hi).1
  have y := List.mem_range.mp hm
  have x := Nat.mul_le_mul_right w (show i + 1 ≤ seats.length from z)
  rw [Nat.succ_mul] at x
  omega
abbrev vN (l : List Nat) : List V := vI (l.map fun n => ((n : Nat) : Int))
theorem vN_app (a b : List Nat) : vN (a ++ b) = vN a ++ vN b := by
  show vI _ = _
  rw [List.map_append]
  exact List.map_append
theorem seq_wf {α : Type} {K : PySem.W.Frag} {σ : L2.St} {H : Hp} {Q : VK} {a : Addr} {xs : List V} {j : Nat} {g : TG} {tt : TT} {te : TE} {vs : List Nat} {bs : List (Option α)} (h0 : σ[j]? = some (some (.ref a))) (h : H a = some (.lst xs) ∨ Rd H a (.tup xs)) (F : Hp → V → α → Prop) (mono : ∀ G G' y b, Same G G' → F G y b → F G' y b)
    (hl : xs.length = bs.length) (ll : xs.length ≤ 900)
    (ht : ∀ (k : Nat) (x : V) (H2 H3 : Hp) (b : Option α), bs[k]? = some b → Same H H2 → YAt xs k H2 x H3 → ∀ (D : Addr), (∃ o, H2 D = some o) → H D = none → ∀ (R : VK) (Z : Hp → Prop), (∀ c y H4, b = some c → Same H2 H4 → F (delA D H4) y c → R y H4) → (∀ H4, b = none → Same H2 H4 → Z H4) →
      g x (wipe σ vs) H3 fun σ2 H4 => wipe σ2 vs = wipe σ vs ∧ tt σ2 H4 fun bb H5 => if bb = true then te σ2 H5 R else Z H5)
    (q : ∀ p ys H', Same H H' → H p = none → H' p = some (.lst ys) → Paired (F H') ys (bs.filterMap id) → Q (.ref p) H') : tLc (fun σ H R => iList K (tVar j) σ H R ∨ iTup K (tVar j) σ H R) g tt te vs σ H Q := by
  rcases h with h | h
  · exact wf_lc (walk_list (K := K) (a := a)) F mono (fun R hR => .inl ⟨_, h0, a, rfl, ⟨_, SqL.of h⟩, hR⟩) (fun H2 s => SqL.of (s _ _ h)) hl ll ht q
  · exact wf_lc (walk_tup (K := K) (a := a)) F mono (fun R hR => .inr ⟨_, h0, a, rfl, ⟨_, .inl h⟩, hR⟩) (fun H2 s => .inl (Rd.same h s)) hl ll ht q
def spSh : Sp := fun vs H Q _ => ∃ sv sc lv seats lost rows, ∃ w : Nat, vs = [sv, .int w, .ref sc, lv] ∧ Row H sv seats ∧ Row H lv lost ∧ SchH H sc rows ∧ seats.length * w ≤ 45 ∧ w ≤ 45 ∧ (∀ r ∈ rows, r.length = seats.length * w) ∧ rows.length ≤ 45 ∧
  ∀ p ps H', Same H H' → H' p = some (.lst (ps.map V.ref)) → MatH H' ps (sharesF seats lost w rows) → Q (.ref p) H'
section
variable {P : Program} {w : World} {K : PySem.W.Frag} {mg : Str → Option Value} {base : Heap}
theorem ok_shares {f : Addr} {fd : FuncData} (F : Fun K "shares_of" "shares_of" sShares f fd) (me : mg "enumerate" = none) (mr : mg "range" = none) : FnOk P w K mg base CX0 1 f fd ["seats", "width", "scheme", "lost"] spSh := by
  have S := scSh
  refine F.ok S (fun vs H Q E h => ?_) (fun cdv A outer s H vs Q E hr h => ?_)
  · obtain ⟨sv, sc, lv, seats, lost, rows, w, rfl, _⟩ := h
    rfl
  · obtain ⟨sv, sc, lv, seats, lost, rows, wd, rfl, hsv, hlv, hsc, sz, w45, rl, r45, q⟩ := h
    refine ⟨_, (pss_cons (ps_set (i := 4) S.nd rfl (.inr rfl) (pe_lc2 (own := [("at", 5), ("seat", 6), ("more", 7)]) (vs1 := [7]) (g := gTup K 2 (gCons (gName 5) (gCons (gName 6) gNil))) (g1 := gName 7) rfl S.nd (pi_enumT (by rfl) me (pa_cons (pv 0) pa_nil)) (blkOk_by (N := NSh) (sc := defScope sShares) (by decide +kernel)) (by decide) (fun _ _ _ _ _ => (pg_tup rfl (pgs_cons (pg_name (i := 5) S.nd rfl (.inl rfl)) (pgs_cons (pg_name (i := 6) S.nd rfl (.inl rfl)) pgs_nil)))) (fun _ _ _ _ _ => (pts_one (pt_cmpR (show OpR _ (compareOp .In) (rIn K false) from op_in_seq) (pv 6) (pv 3) (by rfl)))) (fun _ _ _ _ _ => pi_range1 (by rfl) mr (pa_cons (pv 1) pa_nil)) (fun _ _ _ _ _ => (pg_name (i := 7) S.nd rfl (.inl rfl))) (fun _ _ _ _ _ => pts_nil) (fun _ _ _ _ _ => (pe_op op_add (pe_op op_mulW (pv 5) (pv 1)) (pv 7)))))
      (pss_one (ps_ret (pe_lc (own := [("shares", 8)]) (g := gName 8) rfl S.nd (pi_both (pi_list (pv 2)) (pi_tup (pv 2))) (blkOk_by (N := NSh) (sc := defScope sShares) (by decide +kernel)) (fun _ _ _ _ _ => (pg_name (i := 8) S.nd rfl (.inr rfl))) (fun _ _ _ _ _ => pts_nil) (fun _ _ _ _ _ => (pe_lc (own := [("place", 9)]) (g := gName 9) rfl S.nd (show PI _ _ _ (iList K (tVar 4)) from pi_list (pv 4)) (blkOk_by (N := NSh) (sc := scH1) (by decide +kernel)) (fun _ _ _ _ _ => (pg_name (i := 9) S.nd rfl (.inl rfl))) (fun _ _ _ _ _ => pts_nil) (fun _ _ _ _ _ => (pe_ix (show IxR _ (rIxT K) from ix_tup) (pv 8) (pv 9) (fun _ _ => rfl))))))))), ?_⟩
    obtain ⟨sa, rfl, rs, ls⟩ := hsv
    obtain ⟨la, rfl, rl2, ll⟩ := hlv
    dsimp only [tSeq, tAsg]
    refine ⟨_, rfl, sa, vI seats, rfl, .inl rs, fun D nD => ?_⟩
    have lsv : (vI seats).length = seats.length := List.length_map ..
    refine ⟨fun i m H' => m = seats.length - i ∧ i ≤ seats.length ∧ Same H H' ∧ H' D = some (.lst (vN (plF wd (lostN seats lost i)))), ⟨seats.length, by simp, Nat.zero_le _, same_new nD, upd_same⟩, ?_⟩
    have W := walk_enumT (K := K) (a := sa) (xs := vI seats)
    rintro i m H' ⟨rfl, hi, s1, eD⟩
    by_cases hlt : i < seats.length
    · refine .inr ⟨W.goes i H' (by omega) (.inl (Rd.same rs s1)), fun H2 => Same H H2 ∧ H2 D = some (.lst (vN (plF wd (lostN seats lost (i + 1))))), fun H2 p => ⟨seats.length - (i + 1), by omega, rfl, hlt, p⟩, fun x H2 y => ?_⟩
      obtain ⟨T, u, v, rfl, nT, rfl, e1, e2⟩ := W.yields i H' x H2 (by omega) (.inl (Rd.same rs s1)) y
      cases e1
      have e2 : (vI seats)[i]? = some v := e2
      rw [row_at hlt] at e2
      cases e2
      have sT : Same H' (L2.upd H' T (.tup [.int (i : Nat), .int (seats.getD i 0)])) := same_new nT
      refine ⟨T, _, rfl, SqT.of upd_same, rfl, _, _, rfl, _, _, rfl, rfl, rfl, ?_⟩
      generalize L2.upd H' T (.tup [.int (i : Nat), .int (seats.getD i 0)]) = H3 at sT ⊢
      have s3 := s1.trans sT
      refine ⟨_, rfl, _, rfl, la, vI lost, rfl, .inr (.inl (Rd.same rl2 s3)), rfl, flat_ints _, _, rfl, ?_⟩
      rw [if_neg Bool.false_ne_true, inV_ints]
      by_cases c : seats.getD i 0 ∈ lost
      · rw [decide_eq_true c]
        refine iteT ⟨_, rfl, wd, rfl, by omega, by omega, ?_⟩
        rw [Int.toNat_natCast]
        refine ⟨fun j k H5 => k = wd - j ∧ j ≤ wd ∧ Same H H5 ∧ H5 D = some (.lst (vN (plF wd (lostN seats lost i) ++ (List.range j).map fun m => i * wd + m))), ⟨wd, by simp, Nat.zero_le _, s3, by rw [List.range_zero, List.map_nil, List.append_nil]; exact sT _ _ eD⟩, ?_⟩
        rintro j k H5 ⟨rfl, hj, s5, e5⟩
        by_cases jl : j < wd
        · refine .inr ⟨jl, fun H6 => Same H H6 ∧ H6 D = some (.lst (vN (plF wd (lostN seats lost i) ++ (List.range (j + 1)).map fun m => i * wd + m))), fun H6 p => ⟨wd - (j + 1), by omega, rfl, jl, p⟩, fun x H6 y6 => ?_⟩
          obtain ⟨rfl, rfl⟩ := y6
          refine ⟨rfl, ?_⟩
          dsimp only [tYes]
          rw [if_pos rfl]
          have iw : i * wd ≤ 45 := Nat.le_trans (Nat.mul_le_mul_right wd (Nat.le_of_lt hlt)) sz
          refine ⟨_, rfl, _, rfl, _, _, rfl, rfl, wide_mul (a := 10) (b := 10) (by rw [Int.natAbs_natCast]; omega) (by rw [Int.natAbs_natCast]; omega) (by decide) (by decide) (by decide), _, rfl, _, _, rfl, rfl, _, e5, ?_, same_own nD s5, ?_⟩
          · rw [List.length_map, List.length_map, List.length_append, plF_len, List.length_map, List.length_range]
            have z := Nat.mul_le_mul_right wd (lostN_len (seats := seats) (lost := lost) (i := i))
            exact small1000 (by omega)
          · rw [upd_same, List.range_succ, List.map_append, ← List.append_assoc, vN_app (_ ++ _), Int.zero_add]
            show some (HO.lst (_ ++ [V.int ((i : Int) * (wd : Int) + (j : Int))])) = some (HO.lst (_ ++ [V.int (((i * wd + j : Nat)) : Int)]))
            rw [Int.natCast_add, Int.natCast_mul]
        · have e : j = wd := by omega
          subst e
          refine .inl ⟨Nat.le_refl _, s5, ?_⟩
          rw [lostN_succ, if_pos c, plF_app, e5]
          show _ = some (HO.lst (vN (_ ++ (_ ++ []))))
          rw [List.append_nil]
      · rw [decide_eq_false c]
        refine iteF ⟨s3, ?_⟩
        rw [lostN_succ, if_neg c, List.append_nil]
        exact sT _ _ eD
    · have e : i = seats.length := by omega
      subst e
      have st := W.stops H' (.inl (Rd.same rs s1))
      rw [lsv] at st
      refine .inl ⟨st, ?_⟩
      have eD : H' D = some (.lst (vI ((plF wd (lostI seats lost)).map fun n => ((n : Nat) : Int)))) := eD
      have lp : (plF wd (lostI seats lost)).length ≤ 45 := by
        rw [plF_len]
        exact Nat.le_trans (Nat.mul_le_mul_right wd (lostN_len (seats := seats) (lost := lost))) sz
      obtain ⟨xs, hx, hR⟩ := hsc
      dsimp only [List.set]
      refine seq_wf (j := 2) (bs := rows.map some) rfl (hx.imp (fun e => s1 _ _ e) (fun e => Rd.same e s1)) (fun G v r => ∃ a, v = V.ref a ∧ G a = some (.lst (vI ((plF wd (lostI seats lost)).map fun p => r.getD p 0)))) (fun G G' v r s ⟨a, e1, e2⟩ => ⟨a, e1, s _ _ e2⟩) (by rw [List.length_map, hR.1]) (by rw [hR.1]; omega) (fun k x H2 H3 bb hb s2 y Dl hDl nDl R Z hRR hZ => ?_) fun p ys H2 s2 np ep hp => ?_
      · obtain ⟨rfl, hx2⟩ := y
        rw [List.getElem?_map] at hb
        obtain ⟨r, hr2, rfl⟩ := Option.map_eq_some_iff.mp hb
        obtain ⟨r', er', ra, rfl, rrd, _⟩ := hR.2 k x hx2
        rw [hr2] at er'
        cases er'
        have lr := rl r (List.mem_of_getElem? hr2)
        refine ⟨rfl, ?_⟩
        dsimp only [tYes]
        rw [if_pos rfl]
        refine map_lcS (i := 4) (l := (plF wd (lostI seats lost)).map fun n => ((n : Nat) : Int)) (fun p => r.getD p.toNat 0) rfl (s2 _ _ eD) (by rw [List.length_map]; omega) (fun n hn H4 s4 R2 hR2 => ?_) fun p4 H4 s4 np4 e4 => hRR r _ _ rfl s4 ⟨p4, rfl, del_at ?_ ?_⟩
        · obtain ⟨m, hm, rfl⟩ := List.mem_map.mp hn
          have ml := plF_lt hm
          refine ⟨_, rfl, _, rfl, ra, _, _, _, rfl, rfl, .inl (Rd.same (Rd.same (Rd.same rrd s1) s2) s4), at_of rfl (row_at (by omega)), ?_⟩
          rw [Int.toNat_natCast] at hR2
          exact hR2
        · rw [e4, List.map_map]
          rfl
        · intro z
          obtain ⟨ob, eo⟩ := hDl
          rw [z, eo] at np4
          cases np4
      · rw [List.filterMap_map, show (id ∘ some : List Int → Option (List Int)) = some from rfl, List.filterMap_some] at hp
        obtain ⟨ps, rfl, hm⟩ : ∃ ps : List Addr, ys = ps.map V.ref ∧ MatH H2 ps (sharesF seats lost wd rows) := by
          clear ep
          unfold sharesF
          generalize rows = B at hp
          induction hp with
          | nil => exact ⟨[], rfl, .nil⟩
          | cons h _ ih =>
            obtain ⟨a, rfl, e⟩ := h
            obtain ⟨rs, e1, e2⟩ := ih
            exact ⟨a :: rs, by rw [e1]; rfl, .cons e e2⟩
        exact q p ps H2 (s1.trans s2) ep hm
end
end Kn
-- part Lam
set_option maxHeartbeats 2000000
/-! A lambda kept as a value; called later, through a def, in a comprehension of the same frame. -/
namespace HLam
open PySem PySem.Spec PyProof.Rows L2 LamX
/-- the lambda at f: its text, what it captured, its code object -/
structure LD where
  qual : Str
  params : Arguments
  body : Expr
  scope : Scope
  cl : List (Str × Addr)
  c : Addr
def LamO (f : Addr) (D : LD) : HO := .ext fun h => ∃ pm ctv : Value, h.get? f = some (PySem.W.kla_obj "<lambda>" D.qual D.params D.body D.scope D.cl pm D.c ctv)
theorem lamO_ne {f : Addr} {D : LD} (ps : Array Value) : LamO f D ≠ .tbl ps := fun z => by
  unfold LamO at z
  cases z
def ldOf (X : Cx) (params : Arguments) (body : Expr) (scope : Scope) (c : Addr) : LD := ⟨X.env.qual ++ "<lambda>", params, body, scope, cloFrom X.env.cells scope.names [], c⟩
section
variable {X : Cx} {pins : List (Addr × Obj)} {σ : L2.St} {H : Hp} {s : Shared}
/-- made: from then on known -/
theorem lam_known {D : LD} {h' : Heap} {tk : Nat} {pm ctv : Value} (I : Inv X pins σ H { s with heap := h', toks := tk }) :
    Inv X pins σ (upd H h'.objs.size (LamO h'.objs.size D)) { s with heap := h'.push (PySem.W.kla_obj "<lambda>" D.qual D.params D.body D.scope D.cl pm D.c ctv), toks := tk } := by
  have at_ : (h'.push (PySem.W.kla_obj "<lambda>" D.qual D.params D.body D.scope D.cl pm D.c ctv)).get? h'.objs.size = some (PySem.W.kla_obj "<lambda>" D.qual D.params D.body D.scope D.cl pm D.c ctv) := Heap.get?_push_size _ rfl
  exact I.laid (a := h'.objs.size) (t' := tk) (fun b u e => Heap.get?_push_of_some _ e) (Nat.le_refl _)
    ⟨⟨pm, ctv, at_⟩, ⟨_, at_⟩, fun h1 h2 q st => by
      obtain ⟨p2, t2, q⟩ := q
      exact ⟨p2, t2, st _ q⟩⟩
theorem upd_none {H : Hp} {a b : Addr} {o : HO} (e : upd H a o b = none) : H b = none := by
  by_cases z : b = a
  · rw [z, upd_same] at e
    cases e
  · rw [upd_ne z] at e
    exact e
/-- what a lambda's making gives -/
def tKept (T : List (Addr × Str)) (X : Cx) (params : Arguments) (body : Expr) (scope : Scope) : TE := fun _ H Q =>
  Tabs T H ∧ ∀ (f c' : Addr) (H1 : Hp), ExtN H H1 → Tabs T H1 → (∀ b, H1 b = none → H b = none) → H f = none →
    H1 f = some (LamO f (ldOf X params body scope c')) → H1 c' = some (CodeO c' (X.env.qual ++ "<lambda>")) → Q (.ref f) H1
theorem pe_lamkept {T : List (Addr × Str)} {c P : Addr} {params : Arguments} {body : Expr} {scope : Scope} {pos : Pos} (TB : TabB X.base X.mg c P) (hcode : X.env.code = .ref c) (hm : (P, X.env.qual ++ "<lambda>") ∈ T)
    (hu : ∀ p ∈ T, p.1 = P → p.2 = X.env.qual ++ "<lambda>") (L : LamS X.env.scope scope) (hdef : defaultsOf params X.env = ([], [])) : PE X (.Lambda params body scope pos) (tKept T X params body scope) := by
  constructor
  intro pins s σ H Q I w
  obtain ⟨hT, w⟩ := w
  obtain ⟨ps, hP, tri, amo⟩ := hT _ hm
  have objP : s.heap.get? P = some { cls := .none, data := .fields ps } := I.hok P _ hP
  have bP := TB.bm.keeps I.bk
  have free := closure_ok (L.has I.ok)
  apply PySem.W.kla_eval hdef
  cases hca : codeAmong pos ps.toList with
  | some cv =>
    obtain ⟨c', rfl, hc'⟩ := amo pos cv hca
    apply PySem.W.kla_makeFunctionHit (c := c) (mg := X.mg) (P := P) (ps := ps) free I.ok.glob (I.mod.glob.keeps I.bk) hcode (TB.code.keeps I.bk) objP tri hca bP
    intro ctv h' tk ext le
    have J : Inv X pins σ H { s with heap := h', toks := tk } := I.kept ext
    have nf : H h'.objs.size = none := I.hok.fresh le
    have J2 := lam_known (D := ldOf X params body scope c') (pm := (X.mg "__name__").getD .none) (ctv := ctv) J
    have B : ∀ b o, H b = some o → upd H h'.objs.size (LamO h'.objs.size (ldOf X params body scope c')) b = some o := fun b o e => by
      rw [upd_ne (ne_of_none e nf)]
      exact e
    exact ⟨.ref h'.objs.size, _, J2, rfl, w h'.objs.size c' _ (ExtN.of B) (hT.ext B) (fun b e => upd_none e) nf upd_same (B _ _ hc')⟩
  | none =>
    apply PySem.W.kla_makeFunction (c := c) (mg := X.mg) (P := P) (ps := ps) free I.ok.glob (I.mod.glob.keeps I.bk) hcode (TB.code.keeps I.bk) objP tri hca TB.gP bP
    intro c' ctv h' tk ext ge lt rec tab
    obtain ⟨c2, oc, vs, t, e2, q1, q2, q3⟩ := rec
    cases e2
    have nc : H c' = none := I.hok.fresh ge
    have J := inv_table (more := #[rawInt pos.line, rawInt pos.col, .ref c']) (h' := h') (t' := tk) I hP (fun b o hb e => ext b o hb e) tab ge ⟨oc, vs, t, q1, q2, q3⟩
    have listy : (ps ++ #[rawInt pos.line, rawInt pos.col, .ref c']).toList = ps.toList ++ [rawInt pos.line, rawInt pos.col, .ref c'] := by simp
    have PC : P ≠ c' := ne_of_none hP nc
    generalize hG : upd (upd H P (.tbl (ps ++ #[rawInt pos.line, rawInt pos.col, .ref c']))) c' (CodeO c' (X.env.qual ++ "<lambda>")) = G at J
    have GP : G P = some (.tbl (ps ++ #[rawInt pos.line, rawInt pos.col, .ref c'])) := by rw [← hG, upd_ne PC, upd_same]
    have Gc : G c' = some (CodeO c' (X.env.qual ++ "<lambda>")) := by rw [← hG, upd_same]
    have Go : ∀ b o, H b = some o → b ≠ P → G b = some o := fun b o e n => by
      rw [← hG, upd_ne (ne_of_none e nc), upd_ne n]
      exact e
    have GE : ExtN H G := fun b o e n => Go b o e fun z => n ps (by rw [z, hP] at e; exact (Option.some.inj e).symm)
    have Gn : ∀ b, G b = none → H b = none := fun b e => by
      rw [← hG] at e
      exact upd_none (upd_none e)
    have nf : H h'.objs.size = none := I.hok.fresh (Nat.le_trans ge (Nat.le_of_lt lt))
    have nfG : G h'.objs.size = none := J.hok.fresh (Nat.le_refl _)
    have TG : Tabs T G := fun p hp => by
      by_cases z : p.1 = P
      · rw [hu p hp z, z]
        refine ⟨_, GP, ?_, ?_⟩
        · rw [listy]
          exact PySem.TriplesOk_snoc _ _ _ _ tri
        · intro pp cv q
          rw [listy] at q
          cases among_app _ tri q with
          | inr e => exact ⟨c', e, Gc⟩
          | inl e =>
            obtain ⟨c0, e1, e2⟩ := amo pp cv e
            exact ⟨c0, e1, GE _ _ e2 codeO_ne⟩
      · obtain ⟨ps2, a1, a2, a3⟩ := hT p hp
        refine ⟨ps2, Go _ _ a1 z, a2, fun pp cv q => ?_⟩
        obtain ⟨c0, e1, e2⟩ := a3 pp cv q
        exact ⟨c0, e1, GE _ _ e2 codeO_ne⟩
    have J2 := lam_known (D := ldOf X params body scope c') (pm := (X.mg "__name__").getD .none) (ctv := ctv) J
    have B : ∀ b o, G b = some o → upd G h'.objs.size (LamO h'.objs.size (ldOf X params body scope c')) b = some o := fun b o e => by
      rw [upd_ne (ne_of_none e nfG)]
      exact e
    exact ⟨.ref h'.objs.size, _, J2, rfl, w h'.objs.size c' _ (GE.trans (ExtN.of B)) (TG.ext B) (fun b e => Gn b (upd_none e)) nf upd_same (B _ _ Gc)⟩
end
end HLam
namespace HLam
open PySem PySem.Spec PyProof.Rows L2 LamX
section
variable {X : Cx}
/-- a comprehension whose tests and items may lean on what stood where its block began -/
theorem pe_lcI {elt tg iter : Expr} {ifs : List Expr} {scope : Scope} {own : List (Str × Nat)} {pos : Pos} {wi : TI} {g : TG} {tt : L2.St → TT} {te : L2.St → TE} (hc : X.calm = true) (hN : X.N.Nodup) (hi : PI X tg iter wi) (ok : BlkOk X.N X.env.scope scope own)
    (hg : ∀ (s : Shared) (H : Hp) (C : Addr) (cl : List (Str × Addr)) (fp : List Addr), PG (X.blk s H scope (compEnvC scope cl C X.env) fp) tg g)
    (hp : ∀ (pins : List (Addr × Obj)) (σ : L2.St) (s : Shared) (H : Hp) (C : Addr) (cl : List (Str × Addr)) (fp : List Addr), Inv X pins σ H s → (∀ b ∈ fp, FpOk X pins H b) →
      PTs (X.blk s H scope (compEnvC scope cl C X.env) fp) ifs (tt σ) ∧ PE (X.blk s H scope (compEnvC scope cl C X.env) fp) elt (te σ))
    (hs : ∀ x, foldedSetIterable iter X.env x = pure x := by intro _; rfl) :
    PE X (.ListComp elt [⟨tg, iter, ifs, 0⟩] scope pos) (fun σ H Q => tLc wi g (tt σ) (te σ) (own.map (·.2)) σ H Q) := by
  constructor
  intro pins s σ H Q I w
  rw [eval_ListComp]
  have captured : ∀ y ∈ scope.names, y.2 = .free → ∃ c, X.env.cells.lookup y.1 = some c := fun y hy e => (ok.free y hy e).elim (fun k => I.ok.has _ (.inl k)) (fun k => I.ok.has _ (.inr k))
  apply wpAny_comprehension_free (use := none) rfl hs (closure_ok captured) ok.kind (fun y hy e => (ok.uniq y hy).trans (by rw [e]))
  apply thn (hi.run pins s σ H _ I w)
  intro xv sA hA
  apply thn hA
  rintro itv sB ⟨it, fp, tn, J, HB, rfl, IB, T, stB, okB, todo⟩
  refine wpAny_newObj_type (newEnv_comp ?_) (by show 0 ≤ sizeLine; decide)
  obtain ⟨D, eD⟩ : ∃ D, D = sB.heap.objs.size := ⟨_, rfl⟩
  rw [← eD]
  have freshD : HB D = none := IB.hok.fresh (Nat.le_of_eq eD.symm)
  obtain ⟨W, ⟨m0, start⟩, turn⟩ := todo D freshD
  obtain ⟨sC, eC⟩ : ∃ sC : Shared, sC = { sB with heap := sB.heap.push { cls := .type "list", data := .seq ([] : List Value).toArray } } := ⟨_, rfl⟩
  rw [← eC]
  have heapC : sC.heap = sB.heap.push { cls := .type "list", data := .seq ([] : List Value).toArray } := by rw [eC]
  have keptC : ∀ b o, sB.heap.get? b = some o → sC.heap.get? b = some o := fun b o e => by
    rw [heapC]
    exact Heap.get?_push_of_some _ e
  obtain ⟨HC, eHC⟩ : ∃ HC, HC = upd HB D (.lst []) := ⟨_, rfl⟩
  rw [← eHC] at start
  have IC : Inv X pins σ HC sC := by
    rw [eC, eHC, eD]
    exact IB.laid (t' := sB.toks) (fun b o e => Heap.get?_push_of_some _ e) (Nat.le_refl _) ⟨Nat.zero_le _, [], 0, .nil, Heap.get?_push_size _ rfl⟩
  have inC : ∀ b ∈ fp, FpOk X pins HC b ∧ b < sC.heap.objs.size := fun b hb => by
    obtain ⟨o, e, _⟩ := T.obj _ _ stB b hb
    refine ⟨⟨?_, (okB b hb).2⟩, Heap.lt_size (keptC _ _ e)⟩
    rw [eHC, upd_ne (by rw [eD]; exact Nat.ne_of_lt (Heap.lt_size e))]
    exact (okB b hb).1
  have stC : tn 0 sC.heap := T.keep _ _ _ stB fun b _ o e => keptC b o e
  have IE := block_start IC ok hN inC
  obtain ⟨pt, pe⟩ := hp pins σ sC HC sC.heap.objs.size (cellsFrom (sC.heap.objs.size + 1) scope.names (cloFrom X.env.cells scope.names [])) fp IC fun b hb => (inC b hb).1
  have pg := hg sC HC sC.heap.objs.size (cellsFrom (sC.heap.objs.size + 1) scope.names (cloFrom X.env.cells scope.names [])) fp
  generalize hce : compEnvC scope (cellsFrom (sC.heap.objs.size + 1) scope.names (cloFrom X.env.cells scope.names [])) sC.heap.objs.size X.env = ce at IE pt pe pg
  have ceL : ce.locals = sC.heap.objs.size := by rw [← hce]; rfl
  have goal : codeAny (model X.prog X.w) X.A (.compStart (.ListComp elt [⟨tg, iter, ifs, 0⟩] scope pos) 0 (.ref it) (.ref D) ce) (compPost (model X.prog X.w) X.A X.xe none (EP X pins σ Q) (.ref D) sC.heap.objs.size) { sC with heap := pushCells (sC.heap.push { cls := .type "dict", data := .dict #[] }) scope.names } := by
    generalize hsE : ({ sC with heap := pushCells (sC.heap.push { cls := .type "dict", data := .dict #[] }) scope.names } : Shared) = sE at IE
    have stE : tn 0 sE.heap := T.keep _ _ _ stC fun b _ o e => by
      rw [← hsE]
      exact pushCells_keeps _ _ _ _ (Heap.get?_push_of_some _ e)
    have fpIn : ∀ {ps : List (Addr × Obj)} {σ' : L2.St} {H' : Hp} {s' : Shared}, Inv (X.blk sC HC scope ce fp) ps σ' H' s' → (∀ b ∈ fp, H' b = none) → ∀ b ∈ fp, FpOk (X.blk sC HC scope ce fp) [] H' b := fun I' n b hb =>
      ⟨n b hb, (I'.ok.exf b hb).1, I'.ok.exfs b hb, .inl hb, fun x c e => (I'.ok.exf b hb).2 x c e, fun p hp => absurd (show p ∈ ([] : List (Addr × Obj)) ++ [] from hp) (by simp)⟩
    -- the loop
    have loop : codeAny (model X.prog X.w) X.A (.compLoop (.ListComp elt [⟨tg, iter, ifs, 0⟩] scope pos) 0 (.ref it) (.ref D) ce) (compPost (model X.prog X.w) X.A X.xe none (EP X pins σ Q) (.ref D) sC.heap.objs.size) sE := by
      apply compLoop_any (fun n s' => ∃ i H', Inv (X.blk sC HC scope ce fp) [] (wipe σ (own.map (·.2))) H' s' ∧ tn i s'.heap ∧ (∀ b ∈ fp, H' b = none) ∧ W i n H') _ m0 ⟨0, HC, IE, stE, fun b hb => (inC b hb).1.1, start⟩
      rintro n s5 ⟨i, H5, I5, st5, n5, w5⟩
      cases turn i n H5 w5 with
      | inl z =>
        apply thnF (T.done (X.blk sC HC scope ce fp) rfl rfl rfl hc i [] s5 _ H5 (fun _ _ => False) I5 (fpIn I5 n5) st5 z.1)
        rintro r s6 ⟨rfl, I6⟩
        have back : Inv X pins σ H5 s6 := IC.call' (ch := fp) I6.os I6.base I6.hok I6.bare fun b hb => ⟨(inC b hb).1.2.2.2.1, (inC b hb).1.2.1, (inC b hb).1.2.2.2.2.1, (inC b hb).1.2.2.2.2.2⟩
        have nL : H5 sC.heap.objs.size = none := ceL ▸ (show H5 ce.locals = none from I6.free)
        obtain ⟨m, ns, _⟩ := I6.loc
        have ns : s6.heap.Ns sC.heap.objs.size m := ceL ▸ (show s6.heap.Ns ce.locals m from ns)
        obtain ⟨f0, f1, f2, f3, f4, f5⟩ := IC.fpOk (Nat.le_refl _) nL
        exact ⟨m, ns, fun h'' sb => ⟨.ref D, H5, back.turned (t' := s6.toks) (fun b o hb e => (sb.2 b hb).trans e) f0 f1 f3 f4 f5, rfl, z.2⟩⟩
      | inr z =>
        obtain ⟨go, Nx, hNx, step⟩ := z
        apply thnF (T.item (X.blk sC HC scope ce fp) rfl rfl rfl hc i [] s5 _ H5 (fun _ _ => False) I5 (fpIn I5 n5) st5 go)
        rintro r s6 ⟨u, rfl, h6⟩
        apply thnF h6
        rintro _ s7 ⟨x, H7, I7, r7, y7, st7, n7⟩
        have I7p := I7.pinned (fpIn I7 n7) (T.obj _ _ st7)
        apply thnF (pg.run _ s7 _ H7 x u _ I7p r7 (step x H7 y7))
        rintro _ s8 ⟨σ8, H8, I8, hw8, q8⟩
        have close : ∀ {s' : Shared} {H' : Hp}, Inv (X.blk sC HC scope ce fp) ([] ++ pinsAt fp s7.heap) σ8 H' s' → Nx H' → ∃ m, m < n ∧ ∃ i H', Inv (X.blk sC HC scope ce fp) [] (wipe σ (own.map (·.2))) H' s' ∧ tn i s'.heap ∧ (∀ b ∈ fp, H' b = none) ∧ W i m H' := fun {s' H'} I' nx => by
          obtain ⟨m', less, w'⟩ := hNx H' nx
          have still : ∀ b ∈ fp, ∀ o, s7.heap.get? b = some o → s'.heap.get? b = some o ∧ H' b = none := fun b hb o e => by
            have z := I'.pin (b, o) (List.mem_append_right _ (List.mem_append_right _ (mem_pinsAt hb e)))
            exact ⟨z.1, z.2.1⟩
          refine ⟨m', less, i + 1, H', I'.unpinned.weak ?_ ?_, T.keep _ _ _ st7 fun b hb o e => (still b hb o e).1, ?_, w'⟩
          · rw [← hw8, wipe_length]
          · intro j v e
            rw [← hw8] at e
            exact (wipe_some e).1
          · intro b hb
            obtain ⟨o, e, _⟩ := T.obj _ _ st7 b hb
            exact (still b hb o e).2
        apply thnF (pt.run _ s8 σ8 H8 _ I8 q8)
        rintro b s9 ⟨H9, I9, q9⟩
        cases b with
        | false => exact close I9 q9
        | true =>
          apply thnF (pe.run _ s9 σ8 H9 _ I9 q9)
          rintro y s10 ⟨yv, H10, I10, r10, acc, hD, hz, nx⟩
          exact app_ok (X := X.blk sC HC scope ce fp) I10 hD hz r10 fun s11 I11 => close I11 nx
    exact codeAny_compStart_list loop (T.self X.A 0 _ _ _ stE loop)
  rw [← hce] at goal
  exact goal
end
end HLam
namespace HLam
open PySem PySem.Spec PyProof.Rows L2 LamX
/-- the cells of a frame stand as they stood -/
def CellsAs (X : Cx) (h0 : Heap) (H : Hp) (h : Heap) : Prop := ∀ (y : Str) (c : Addr) (v : Option Value), X.env.cells.lookup y = some c → h0.IsCell c v → h.IsCell c v ∧ H c = none
section
variable {X : Cx} {pins : List (Addr × Obj)} {σ : L2.St} {H HZ : Hp} {s s1 : Shared}
theorem CellsAs.un {fs ex : List Addr} {h0 h h1 : Heap} (k : CellsAs X h0 H h) (u : Un fs ex H HZ h h1) (hx : ∀ y c, X.env.cells.lookup y = some c → c ∉ ex) : CellsAs X h0 HZ h1 := fun y c v e z => by
  obtain ⟨⟨o, ho, hd⟩, n⟩ := k y c v e z
  obtain ⟨sl, q⟩ := u.any ho n (hx y c e)
  exact ⟨⟨_, q, hd⟩, u.free c o ho n (hx y c e)⟩
theorem CellsAs.here (I : Inv X pins σ H s) : CellsAs X s.heap H s.heap := fun y c v e z => ⟨z, I.freeC y c e⟩
/-- the lambda's body starts, its names as they stood at s -/
theorem lam_enter {A : Around} {outer : List Env} {E : XK} {scope : Scope} {f c' : Addr} {h₁ : Heap} {tk : Nat} (I : Inv X pins σ H s) (L : LamS X.env.scope scope) (e0 : Env0 X.prog X.w X.K X.mg X.base A outer s1 HZ) (hd : A.handled = none)
    (ck : CellsAs X s.heap HZ s1.heap) (hns : h₁.Ns s1.heap.objs.size fun y => ([] : List (Str × Value)).reverse.lookup y) (kp : ∀ b o, s1.heap.get? b = some o → h₁.get? b = some o) :
    Inv (lamCx X A outer s1 HZ E scope f c') [] σ HZ { s1 with heap := h₁, toks := tk } := by
  have has := L.has I.ok
  have own : ∀ {y c}, (cloFrom X.env.cells scope.names []).lookup y = some c → X.env.cells.lookup y = some c := fun {y c} e => by
    cases cloFrom_mem (PySem.mem_of_lookup e) with
    | inl hm => cases hm
    | inr h =>
      obtain ⟨h1, h2⟩ := h
      obtain ⟨c1, hc⟩ := has _ h1 rfl
      have hc : X.env.cells.lookup y = some c1 := hc
      rw [h2, hc]
      rfl
  have got : ∀ {y}, scope.names.lookup y = some .free → ∃ c, (cloFrom X.env.cells scope.names []).lookup y = some c := fun {y} hl => mem_lookup (cloFrom_has (cells := X.env.cells) (acc := []) (PySem.mem_of_lookup hl))
  have cell : ∀ {y c v}, X.env.cells.lookup y = some c → s.heap.IsCell c v → h₁.IsCell c v := fun {y c v} e z => by
    obtain ⟨⟨o, ho, q⟩, _⟩ := ck y c v e z
    exact ⟨o, kp _ _ ho, q⟩
  have noEx : ∀ b : Addr, b ∉ (lamCx X A outer s1 HZ E scope f c').ex := fun b z => absurd (show b ∈ ([] : List Addr) from z) (by simp)
  have okL : (lamCx X A outer s1 HZ E scope f c').Ok := by
    refine ⟨e0.mod, L.kind, rfl, rfl, Nat.le_refl _, ?_, ?_, ?_, ?_, ?_, .inr ⟨rfl, rfl⟩, ?_, e0.bs, e0.bsz, ?_, ?_, e0.funs, e0.frf⟩
    · exact fun y z c e1 e2 => I.ok.inj y z c (own e1) (own e2)
    · intro y hy
      have hy : scope.names.lookup y = some .cell ∨ scope.names.lookup y = some .free := hy
      exact hy.elim (fun k => absurd rfl (L.own _ (PySem.mem_of_lookup k)).2) got
    · intro y c z _
      exact absurd (show false = true from z) (by decide)
    · exact fun _ => hd
    · exact Around.frames_deeper e0.frames
    · exact fun b z => absurd z (noEx b)
    · exact fun b _ _ => noEx b
    · exact fun b z => absurd z (noEx b)
  refine ⟨okL, rfl, e0.bare, Un.kept kp, ⟨_, hns, ?_⟩, ?_, e0.hok.fresh (Nat.le_refl _), ?_, ?_, e0.hok.kept kp, I.len⟩
  · intro i y v e1 e2 e3
    have e3 : Vis scope y := e3
    have k : scope.names.lookup y = some .free := e3.elim (fun k => absurd rfl (L.own _ (PySem.mem_of_lookup k)).1) fun z => z.elim (fun k => absurd rfl (L.own _ (PySem.mem_of_lookup k)).2) id
    have up := L.free _ (PySem.mem_of_lookup k) rfl
    obtain ⟨m, hn, hl⟩ := I.loc
    obtain ⟨u, r, q⟩ := hl i y v e1 e2 (up.elim (fun k => .inr (.inl k)) fun k => .inr (.inr k))
    obtain ⟨c2, h2⟩ := got k
    refine ⟨u, r, .inr ⟨.inr k, c2, h2, ?_⟩⟩
    have hc2 := own h2
    rcases q with ⟨k', _⟩ | ⟨_, c3, e', z⟩
    · have k' : X.env.scope.names.lookup y = some .local := k'
      cases up with
      | inl k2 => exact absurd (k'.symm.trans k2) (by simp)
      | inr k2 => exact absurd (k'.symm.trans k2) (by simp)
    · obtain rfl : c2 = c3 := Option.some.inj (hc2.symm.trans e')
      exact cell hc2 z
  · intro y c e
    obtain ⟨v, z⟩ := I.cell y c (own e)
    exact ⟨v, cell (own e) z⟩
  · intro y c e
    obtain ⟨v, z⟩ := I.cell y c (own e)
    exact (ck y c v (own e) z).2
  · exact fun q hq => absurd (show q ∈ ([] : List (Addr × Obj)) ++ [] from hq) (by simp)
/-- x() in a def that got a kept lambda -/
theorem act_kept {CXg : CXT} {Eg : XK} {Ng : List Str} {qg : Str} {sg : Scope} {g f c' : Addr} {cdg : Value} {params : Arguments} {body : Expr} {scope : Scope} {k i : Nat} {a : Str} {pn : List (Addr × Obj)} {xe : Value → Shared → Prop} {W : WX} {E : XK} {tb : TE} {p1 p2 : Pos} {sg0 : Shared} {Hg : Hp}
    (I : Inv X pins σ H s) (L : LamS X.env.scope scope) (ck : CellsAs X s.heap Hg sg0.heap)
    (hbind : ∀ (q : Str) (cl : List (Str × Addr)) (pm cv ctv : Value), bindArgs (PySem.W.kla_fn "<lambda>" q params body scope cl pm cv ctv) ⟨[], []⟩ = pure [])
    (tk : Takes ((cxOf CXg X.prog X.w X.K X.mg X.base Ng qg sg g cdg X.A X.stack sg0 Hg Eg).tr pn xe) W) (hW : ∀ cls d σ' H', E cls d H' → W cls d σ' H') (hr : Room (k + 1) (X.A.deeper (envOfC qg sg sg0.heap.objs.size g cdg)))
    (hbody : ∀ (A : Around) (outer : List Env) (s : Shared) (H : Hp), Room k (A.deeper (lamEnv X scope s.heap.objs.size f c')) → PE (lamCx X A outer s H E scope f c') body tb)
    (hN : Ng[i]? = some a) (hv : Vis sg a) (hd : (a == ("__debug__" : Str)) = false := by decide) (hcd : (a == ("__classdict__" : Str)) = false := by decide) :
    PE ((cxOf CXg X.prog X.w X.K X.mg X.base Ng qg sg g cdg X.A X.stack sg0 Hg Eg).tr pn xe) (.Call (.Name a p1) [] [] p2)
      (fun σZ HZ Q => σZ[i]? = some (some (.ref f)) ∧ HZ c' = some (CodeO c' (X.env.qual ++ "<lambda>")) ∧ HZ f = some (LamO f (ldOf X params body scope c')) ∧ tb σ HZ Q) := by
  constructor
  rintro pinsZ sZ σZ HZ Q IZ ⟨slot, code, lam, want⟩
  apply wpAny_Call_Name_kw
  apply thn ((pe_var (pos := p1) (i := i) hN hv hd hcd).run pinsZ sZ σZ HZ (fun v H1 => v = .ref f ∧ H1 = HZ) IZ ⟨.ref f, slot, rfl, rfl⟩)
  rintro u s1 ⟨v, H1, I1, r1, rfl, rfl⟩
  obtain rfl : u = Value.ref f := r1
  obtain ⟨⟨pm, ctv, objf⟩, _, _⟩ := I1.hok f _ lam
  obtain ⟨⟨oc, vs, t, q1, q2, q3⟩, _, _⟩ := I1.hok c' _ code
  apply PySem.W.callWith_F0 ⟨_, _, _, _, objf⟩
  have ck1 : CellsAs X s.heap H1 s1.heap := ck.un (fs := frs X.stack) (ex := []) I1.base fun _ _ _ z => by cases z
  have rc : codeAny (model X.prog X.w) (X.A.deeper (envOfC qg sg sg0.heap.objs.size g cdg)) (.call (.ref f) ⟨[], []⟩) (CR (L2.CX X.prog X.w) (envOfC qg sg sg0.heap.objs.size g cdg :: X.stack) X.prog X.w H1 s1 Q E) s1 := by
    apply PySem.W.kla_callFunE hr.depth objf rfl L.co L.gen rfl ⟨c', oc, vs, t, rfl, q1, q2, q3⟩
    show wpAny _ _ (bindArgs (PySem.W.kla_fn "<lambda>" _ params body scope _ pm _ ctv) ⟨[], []⟩) _ _ _
    rw [hbind]
    apply wpAny_pure
    apply wpAny_newFunctionEnv (fun y hy => (L.own y hy).2) (fun y hy => absurd hy (by simp)) _ L.kind
    intro h₁ hns hsb
    refine ⟨I1.nolimit.fresh _ hsb, ?_⟩
    have kp : ∀ b o, s1.heap.get? b = some o → h₁.get? b = some o := fun b o e => hsb.extBut b o (Nat.ne_of_lt (Heap.lt_size e)) (Heap.get?_push_of_some _ e)
    have J := lam_enter (E := E) (f := f) (c' := c') (tk := s1.toks + ([] : List (Str × Value)).length) I L I1.env0 hr.hd ck1 hns kp
    apply PySem.W.kla_codeExpr
    apply wpAny_mono ((hbody _ _ s1 H1 (hr.deeper _)).run [] _ _ H1 Q J want) _ (fun e s' hq => hq)
    rintro v s' ⟨w', H', J', rv, q⟩
    exact ⟨w', H', J'.os, J'.bare, J'.base, J'.hok, rv, q⟩
  have hx : Passes (L2.CX X.prog X.w) ((cxOf CXg X.prog X.w X.K X.mg X.base Ng qg sg g cdg X.A X.stack sg0 Hg Eg).tr pn xe) E := passes_call tk hW
  apply wpAny_call (codeAny_mono rc _)
  intro r s' hq
  cases r with
  | error e => exact hx pinsZ σZ H1 s1 e s' I1 hq
  | ok fl =>
    cases fl with
    | ret u => exact I1.after hq
    | next => exact (show False from hq).elim
    | brk => exact (show False from hq).elim
    | cont => exact (show False from hq).elim
/-- the lambda is given to a def, in a block of the frame that made it -/
def tHeld (X : Cx) (TT : (XK → Hp → VK → Prop) → Hp → VK → Prop) (params : Arguments) (body : Expr) (scope : Scope) (t : XK → TE) (σ0 : L2.St) (te : TE) : TE := fun σ H Q =>
  tCons te tNil σ H fun vs H1 => ∃ f c', vs = [.ref f] ∧ H1 f = some (LamO f (ldOf X params body scope c')) ∧ H1 c' = some (CodeO c' (X.env.qual ++ "<lambda>")) ∧
    TT (fun E H' Q' => H' f = some (LamO f (ldOf X params body scope c')) ∧ t E σ0 H' Q') H1 Q
theorem pe_heldcall {TT : (XK → Hp → VK → Prop) → Hp → VK → Prop} {x a : Str} {g : Addr} {k : Nat} {pg : Arguments} {bg : List Stmt} {sg scopeB : Scope} {ce : Env} {fp : List Addr} {dV kV doc pm cdv ct oc : Value} {an od : Option Addr} {osl : Array (Option Value)} {Ng : List Str}
    {params : Arguments} {body e : Expr} {scope : Scope} {t : XK → TE} {te : TE} {p pos : Pos} (I0 : Inv X pins σ H s) (hfp : ∀ b ∈ fp, FpOk X pins H b) (hg : Gl (X.blk s H scopeB ce fp) x) (hm : X.mg x = some (.ref g)) (hk : PySem.W.keepIn X.K (.ref g) = true)
    (lk : X.K.lookup g = some ⟨oc, od, .func (PySem.W.fnOf x x pg bg sg dV kV doc pm an cdv ct), osl⟩) (hcg : PySem.W.codeIn X.K cdv x = true) (hb : L2.Binds X.K (PySem.W.fnOf x x pg bg sg dV kV doc pm an cdv ct) [a] []) (Sg : FnScope Ng [a] sg) (hNg : Ng[0]? = some a) (hva : Vis sg a)
    (hG : GivesTo X Ng x sg g cdv bg a (X.env.qual ++ "<lambda>") TT) (hr : Room (k + 2) X.A) (L : LamS X.env.scope scope) (he : PE (X.blk s H scopeB ce fp) e te)
    (h1 : starEach [e] (X.blk s H scopeB ce fp).env = (false, eval e (X.blk s H scopeB ce fp).env) :: starEach [] (X.blk s H scopeB ce fp).env) (h2 : (backTo pos (starEach [] (X.blk s H scopeB ce fp).env)).any (·.1) = false)
    (hbind : ∀ (q : Str) (cl : List (Str × Addr)) (pm cv ctv : Value), bindArgs (PySem.W.kla_fn "<lambda>" q params body scope cl pm cv ctv) ⟨[], []⟩ = pure [])
    (hbody : ∀ (A : Around) (outer : List Env) (s : Shared) (H : Hp) (E : XK) (f c' : Addr), Room k (A.deeper (lamEnv X scope s.heap.objs.size f c')) → PE (lamCx X A outer s H E scope f c') body (t E))
    (hdb : (x == ("__debug__" : Str)) = false := by decide) (hd : (a == ("__debug__" : Str)) = false := by decide) (hcd : (a == ("__classdict__" : Str)) = false := by decide) :
    PE (X.blk s H scopeB ce fp) (.Call (.Name x p) [e] [] pos) (tHeld X TT params body scope t σ te) := by
  constructor
  intro pinsB sB σB HB Q IB want
  apply wpAny_Call_Name_kw
  apply ld_glob IB hg hm _ hdb
  refine PySem.W.callWith_K (h₀ := X.base) IB.ok.mod.kin hk (thn ((pa_cons he pa_nil h1).run pos pinsB sB σB HB _ IB want) fun us s1 ⟨vs, H1, I1, r, f, c', ev, lam, code, w⟩ => ⟨I1.kIn, ?_⟩) h1 h2
  · subst ev
    cases r with
    | cons r1 r2 =>
      cases r2
      cases r1
      have ck : CellsAs X s.heap H1 s1.heap := (CellsAs.here I0).un (fs := (X.blk s H scopeB ce fp).fs) (ex := fp) I1.base fun y c e z => (hfp c z).2.2.2.2.1 y c e rfl
      have rc : codeAny (model X.prog X.w) X.A (.call (.ref g) ⟨[.ref f], []⟩) (CR C8.CX0 X.stack X.prog X.w H1 s1 Q C8.E0) s1 := by
        apply run_ofS (N := Ng) (ps := [a]) (us := [.ref f]) (vs := [.ref f]) lk hcg Sg hr I1.env0 (hb s1 [.ref f] I1.kIn rfl) (.cons rfl .nil) rfl
        intro hr'
        obtain ⟨t', ht', hq'⟩ := hG f c' s1 H1 Q (fun E H' Q' => H' f = some (LamO f (ldOf X params body scope c')) ∧ t E σ H' Q') (fun W pn xe E p1 p2 tk hW => act_kept (i := 0) I0 L ck hbind tk hW hr' (fun A outer s H hr2 => hbody A outer s H E f c' hr2) hNg hva hd hcd) code w
        exact ⟨t', ht'.nox, hq'⟩
      apply wpAny_call (codeAny_mono rc _)
      intro r s2 hq
      cases r with
      | error e => exact (show False from hq).elim
      | ok fl =>
        cases fl with
        | ret u => exact I1.after hq
        | next => exact (show False from hq).elim
        | brk => exact (show False from hq).elim
        | cont => exact (show False from hq).elim
theorem pe_or {e : Expr} {t1 t2 : TE} (h1 : PE X e t1) (h2 : PE X e t2) : PE X e (fun σ H Q => t1 σ H Q ∨ t2 σ H Q) :=
  ⟨fun pins s σ H Q I w => w.elim (h1.run pins s σ H Q I) (h2.run pins s σ H Q I)⟩
end
end HLam
-- part VUn
set_option maxHeartbeats 8000000
/-! unseen_numbers. -/
namespace Kn
open PySem PySem.Spec PyProof.Rows L2 La
abbrev sUnseen : Stmt := topS 34
abbrev NUn : List Str := ["lines", "many", "span", "line", "free", "times", "place", "numbers"]
theorem scUn : FnScope NUn ["lines", "many"] (defScope sUnseen) := ⟨rfl, rfl, rfl, by decide +kernel, rfl, by decide +kernel, by decide +kernel⟩
def takesF (rows : List (List Int)) : List Brow := rows.foldl takeF []
theorem takes_take {rows : List (List Int)} {i : Nat} {r : List Int} (h : rows[i]? = some r) : takesF (rows.take (i + 1)) = takeF (takesF (rows.take i)) r := by
  unfold takesF
  rw [List.take_add_one, h, List.foldl_append]
  rfl
/-- how many bits the lines take -/
def eb (m : Nat) : Nat → Nat
  | 0 => 1
  | k + 1 => m + 2 * eb m k + 7
theorem eb_pos (m : Nat) : ∀ k, 0 < eb m k
  | 0 => by show 0 < 1; decide
  | k + 1 => by show 0 < m + 2 * eb m k + 7; omega
theorem eb_le {m i : Nat} : ∀ {k : Nat}, i ≤ k → eb m i ≤ eb m k
  | 0, h => by rw [Nat.le_zero.mp h]; exact Nat.le_refl _
  | k + 1, h => by
    by_cases e : i = k + 1
    · rw [e]; exact Nat.le_refl _
    · exact Nat.le_trans (eb_le (k := k) (by omega)) (by show _ ≤ m + 2 * eb m k + 7; omega)
theorem sz_nil {w m : Nat} (h : w ≤ 45) : SzOk w [] (eb m 0) := ⟨⟨1, 1, SpI.nil, by show 1 < 2 ^ 1; decide⟩, h, eb_pos m 0⟩
theorem SzOk.up {w e e' : Nat} {L : List Brow} (h : SzOk w L e) (he : e ≤ e') : SzOk w L e' := by
  obtain ⟨⟨D, E, s, l⟩, h2, h3⟩ := h
  exact ⟨⟨D, E, s, Nat.lt_of_lt_of_le l (Nat.pow_le_pow_right (by decide) he)⟩, h2, by omega⟩
theorem sz_take {w m e : Nat} {L : List Brow} {row : List Int} (h : SzOk w L e) (hl : row.length = w) (hb : Bt m row) : (firstNz (restF L row) = none → takeF L row = L) ∧ (∀ q, firstNz (restF L row) = some q → SzOk w (takeF L row) (m + 2 * e + 7) ∧ (takeF L row).length = L.length + 1) ∧ ∀ v, Solb (takeF L row) v ↔ Solb L v ∧ dotN row v = 0 := by
  obtain ⟨⟨D, E, s, l⟩, h2, h3⟩ := h
  have hM : ∀ k, (row.getD k 0).natAbs ≤ 2 ^ m := fun k => Nat.le_of_lt (bt_getD hb k)
  have Lw := s.many
  cases fe : firstNz (restF L row) with
  | none =>
    obtain ⟨t1, t2⟩ := take_none s hl hM fe
    exact ⟨fun _ => t1, fun q z => (by cases z), fun v => by rw [t1]; exact ⟨fun z => ⟨z, t2 v z⟩, fun z => z.1⟩⟩
  | some p =>
    obtain ⟨D', t1, t2, t3⟩ := take_ok s hl hM fe
    refine ⟨fun z => (by cases z), fun q _ => ⟨⟨⟨D', _, t1, ?_⟩, h2, by omega⟩, t3⟩, t2⟩
    have l64 : L.length + 1 ≤ 2 ^ 6 := by
      have : 2 ^ 6 = 64 := by decide
      omega
    have z1 : 2 ^ m * E < 2 ^ m * 2 ^ e := Nat.mul_lt_mul_of_pos_left l (Nat.pow_pos (by decide))
    have y1 : (L.length + 1) * (2 ^ m * E) < 2 ^ 6 * (2 ^ m * 2 ^ e) := Nat.lt_of_le_of_lt (Nat.mul_le_mul_right _ l64) (Nat.mul_lt_mul_of_pos_left z1 (by decide))
    have y2 : E * ((L.length + 1) * (2 ^ m * E)) < 2 ^ e * (2 ^ 6 * (2 ^ m * 2 ^ e)) := Nat.mul_lt_mul'' l y1
    have y3 : 2 * (E * ((L.length + 1) * (2 ^ m * E))) < 2 ^ 1 * (2 ^ e * (2 ^ 6 * (2 ^ m * 2 ^ e))) := Nat.mul_lt_mul_of_pos_left y2 (by decide)
    rw [← Nat.pow_add, ← Nat.pow_add, ← Nat.pow_add, ← Nat.pow_add, show 1 + (e + (6 + (m + e))) = m + 2 * e + 7 by omega] at y3
    exact y3
theorem valK_none {κ : Type} [DecidableEq κ] : ∀ {kvs : List (κ × V)} {k : κ}, k ∉ kvs.map (·.1) → valV kvs k = none
  | [], _, _ => rfl
  | p :: r, k, h => by
    rw [List.map_cons, List.mem_cons, not_or] at h
    rw [valV_neg (Ne.symm h.1)]
    exact valK_none h.2
theorem valK_some {κ : Type} [DecidableEq κ] : ∀ {kvs : List (κ × V)} {k : κ}, k ∈ kvs.map (·.1) → (valV kvs k).isSome = true
  | [], _, h => by cases h
  | p :: r, k, h => by
    by_cases e : p.1 = k
    · obtain ⟨a, b⟩ := p
      have e : a = k := e
      subst e
      rw [valV_pos rfl]
      rfl
    · rw [valV_neg e]
      rw [List.map_cons, List.mem_cons] at h
      exact valK_some (h.resolve_left (Ne.symm e))
/-- the sizes of rows: the last may be larger -/
structure RwB (w : Nat) (rows : List (List Int)) (m m2 kM : Nat) : Prop where
  len : ∀ r ∈ rows, r.length = w
  bt : ∀ i r, rows[i]? = some r → i + 1 < rows.length → Bt m r
  bt2 : ∀ r ∈ rows, Bt m2 r
  m0 : 0 < m2
  km : rows.length ≤ kM + 1 ∨ w ≤ kM
  sz : m2 + 2 * eb m kM + 7 ≤ 8000
  w45 : w ≤ 45
theorem takes_ok {w m m2 kM : Nat} {rows : List (List Int)} (h : RwB w rows m m2 kM) : ∀ i, i ≤ rows.length → (i + 1 ≤ rows.length → SzOk w (takesF (rows.take i)) (eb m (takesF (rows.take i)).length)) ∧ SzOk w (takesF (rows.take i)) 8000 ∧ (takesF (rows.take i)).length ≤ i ∧ ∀ v, Solb (takesF (rows.take i)) v ↔ Sol (rows.take i) v
  | 0, _ => ⟨fun _ => sz_nil h.w45, (sz_nil (m := m) h.w45).up (by show 1 ≤ 8000; decide), Nat.le_refl _, fun v => ⟨fun _ r hr => (List.not_mem_nil hr).elim, fun _ r hr => (List.not_mem_nil hr).elim⟩⟩
  | i + 1, hi => by
    obtain ⟨r, e⟩ : ∃ r, rows[i]? = some r := ⟨_, List.getElem?_eq_getElem (by omega)⟩
    obtain ⟨h1, h2, h3, h4⟩ := takes_ok h i (by omega)
    have s1 := h1 hi
    have mr := List.mem_of_getElem? e
    have lw : (takesF (rows.take i)).length ≤ w := by
      obtain ⟨⟨D, E, s, _⟩, _, _⟩ := s1
      exact s.many
    have lk : (takesF (rows.take i)).length ≤ kM := by
      rcases h.km with z | z <;> omega
    have ek := eb_le (m := m) lk
    have hsz := h.sz
    rw [takes_take e]
    have sol : ∀ v, Sol (rows.take (i + 1)) v ↔ Sol (rows.take i) v ∧ dotN r v = 0 := fun v => by
      rw [List.take_add_one, e]
      show (∀ x ∈ rows.take i ++ [r], dotN x v = 0) ↔ _
      constructor
      · intro z
        exact ⟨fun x hx => z x (List.mem_append_left _ hx), z r (List.mem_append_right _ (List.mem_cons_self ..))⟩
      · rintro ⟨z1, z2⟩ x hx
        rcases List.mem_append.mp hx with y | y
        · exact z1 x y
        · rw [List.mem_singleton.mp y]; exact z2
    obtain ⟨b1, b2, b3⟩ := sz_take s1 (h.len r mr) (h.bt2 r mr)
    refine ⟨fun hi2 => ?_, ?_, ?_, fun v => (b3 v).trans ((and_congr_left fun _ => h4 v).trans (sol v).symm)⟩
    · obtain ⟨a1, a2, _⟩ := sz_take s1 (h.len r mr) (h.bt i r e (by omega))
      cases fe : firstNz (restF (takesF (rows.take i)) r) with
      | none => rw [a1 fe]; exact s1
      | some q =>
        obtain ⟨c1, c2⟩ := a2 q fe
        rw [c2]
        exact c1
    · cases fe : firstNz (restF (takesF (rows.take i)) r) with
      | none => rw [b1 fe]; exact h2
      | some q => exact (b2 q fe).1.up (by omega)
    · cases fe : firstNz (restF (takesF (rows.take i)) r) with
      | none => rw [b1 fe]; omega
      | some q => rw [(b2 q fe).2]; omega
/-- the numbers, after i lines -/
def numI (L : List Brow) (w T f0 i : Nat) : List Int := (L.take i).foldl (numG T f0) ((List.replicate w (0 : Int)).set f0 ((T : Nat) : Int))
theorem numI_succ {L : List Brow} {w T f0 i : Nat} {b : Brow} (h : L[i]? = some b) : numI L w T f0 (i + 1) = numG T f0 (numI L w T f0 i) b := by
  unfold numI
  rw [List.take_add_one, h, List.foldl_append]
  rfl
theorem numI_len {L : List Brow} {w T f0 i : Nat} : (numI L w T f0 i).length = w := by
  unfold numI
  rw [num_len, List.length_set, List.length_replicate]
theorem pivT_succ {L : List Brow} {i : Nat} {b : Brow} (h : L[i]? = some b) : pivT (L.take (i + 1)) = Nat.lcm (pivT (L.take i)) (b.2.getD b.1 0).natAbs := by
  unfold pivT
  rw [List.take_add_one, h, List.foldl_append]
  rfl
def spUn : Sp := fun vs H Q _ => ∃ la ps rows, ∃ w m m2 kM : Nat, vs = [.ref la, .int w] ∧ H la = some (.lst (ps.map V.ref)) ∧ MatH H ps rows ∧ RwB w rows m m2 kM ∧ rows.length ≤ 45 ∧
  (unseenF w (takesF rows) = none → ∀ H', Same H H' → Q .non H') ∧ ∀ ns, unseenF w (takesF rows) = some ns → ∀ p H', Same H H' → H' p = some (.lst (vI ns)) → Q (.ref p) H'
section
variable {P : Program} {w : World} {K : PySem.W.Frag} {mg : Str → Option Value} {base : Heap}
theorem ok_un {f fI fT C : Addr} {fd fdI fdT : FuncData} {dI : List Value} (F : Fun K "unseen_numbers" "unseen_numbers" sUnseen f fd) (T : STxt K C) (MK : Mk K C fI) (GI : FnOk P w K mg base CX0 1 fI fdI ["self", "width"] (spSInit C)) (bI : Binds K fdI ["self", "width"] dI) (vI0 : Vals [.non] dI) (gC : mg "Span" = some (.ref C))
    (mT : Meth K C "take" fT) (GT : FnOk P w K mg base CX0 3 fT fdT ["self", "row"] (spSTake C)) (bT : Binds K fdT ["self", "row"] [])
    (gL : mg "lcm" = some (.builtin "math.lcm")) (mr : mg "range" = none) (mn : mg "len" = none) : FnOk P w K mg base CX0 4 f fd ["lines", "many"] spUn := by
  have S := scUn
  refine F.ok S (fun vs H Q E h => ?_) (fun cdv A outer s H vs Q E hr h => ?_)
  · obtain ⟨la, ps, rows, w, m, m2, kM, rfl, _⟩ := h
    rfl
  · obtain ⟨la, ps, rows, wd, m, m2, kM, rfl, hla, hps, rb, r45, qN, qS⟩ := h
    have hu := hu_of hr
    have hr2 := hr.mono (show 2 ≤ 3 by decide)
    refine ⟨_, (pss_cons (ps_set (i := 2) S.nd rfl (.inr rfl) (pe_make0 MK GI hr2 (by rfl) gC bI vI0 pass0))
      (pss_cons (ps_for PassesOwn.never rfl (pi_list (pv 0)) (pg_name (i := 3) S.nd rfl (.inl rfl))
        (pss_one (ps_expr (pe_meth (pv 2) T.cl mT GT hr bT .nil pass0 (pa_cons (pv 3) pa_nil)))))
      (pss_cons (ps_setLc (i := 4) (own := [("place", 6)]) (g := gName 6) rfl S.nd rfl rfl (sw_true rfl rfl rfl (by decide +kernel)) (pi_range1 (by rfl) mr (pa_cons (pv 1) pa_nil)) (blkOk_by (N := NUn) (sc := defScope sUnseen) (by decide +kernel)) (fun _ _ _ _ _ => (pg_name (i := 6) S.nd rfl (.inl rfl))) (fun _ _ _ _ _ => (pts_one (pt_cmp (pc_dnotin hu (pv 6) (show PE _ _ (tFld K (tVar 2) "lines") from pe_fld (pv 2) rfl))))) (fun _ _ _ _ _ => (pv 6)))
      (pss_cons (ps_if (pt_cmpR op_eq (pe_callB (show CallR _ (.builtin "len") (rLenS K) from call_len_seq) (by rfl) mn PySem.boot_len (pa_cons (pv 4) pa_nil)) pe_int (nomark _)) (pss_one (ps_ret pe_non)) pss_nil)
      (pss_cons (ps_set (i := 5) S.nd rfl (.inl rfl) pe_int)
      (pss_cons (ps_lock (ps_for PassesOwn.never rfl (pi_keys (show PE _ _ (tFld K (tVar 2) "lines") from pe_fld (pv 2) rfl)) (pg_name (i := 6) S.nd rfl (.inl rfl))
        (pss_one (ps_set (i := 5) S.nd rfl (.inl rfl) (pe_callBfun (show CallR _ (.builtin "math.lcm") rLcm from cr_lcm) (by rfl) gL (pa_cons (pv 5) (pa_cons (pe_ix (show IxR _ (rIxL K) from ix_list) (pe_dget hu (show PE _ _ (tFld K (tVar 2) "lines") from pe_fld (pv 2) rfl) (pv 6) (fun _ _ => rfl)) (pv 6) (fun _ _ => rfl)) pa_nil)))))))
      (pss_cons (ps_set (i := 7) S.nd rfl (.inl rfl) (pe_op op_rep (pe_lst (pa_cons pe_int pa_nil)) (pv 1)))
      (pss_cons (ps_asg (pv 5) (pg_sub (pv 7) (pe_ix (show IxR _ (rIxL K) from ix_list) (pv 4) pe_int (fun _ _ => rfl)) set_list))
      (pss_cons (ps_lock (ps_for PassesOwn.never rfl (pi_keys (show PE _ _ (tFld K (tVar 2) "lines") from pe_fld (pv 2) rfl)) (pg_name (i := 6) S.nd rfl (.inl rfl))
        (pss_cons (ps_set (i := 3) S.nd rfl (.inl rfl) (pe_dget hu (show PE _ _ (tFld K (tVar 2) "lines") from pe_fld (pv 2) rfl) (pv 6) (fun _ _ => rfl)))
        (pss_one (ps_asg (pe_op op_mulW (pe_un un_neg (pe_op op_fdivX (pv 5) (pe_ix (show IxR _ (rIxL K) from ix_list) (pv 3) (pv 6) (fun _ _ => rfl)))) (pe_ix (show IxR _ (rIxL K) from ix_list) (pv 3) (pe_ix (show IxR _ (rIxL K) from ix_list) (pv 4) pe_int (fun _ _ => rfl)) (fun _ _ => rfl))) (pg_sub (pv 7) (pv 6) set_list))))))
      (pss_one (ps_ret (pv 7)))))))))))), ?_⟩
    have lps : ps.length = rows.length := paired_len hps
    have w45 := rb.w45
    dsimp only [tSeq, tAsg]
    refine span_made fun o d H1 s1 no nd sp1 => ?_
    -- the rows are taken
    refine ⟨_, rfl, la, rfl, ⟨_, SqL.of (s1 _ _ hla)⟩, for_list (xs := ps.map V.ref) (fun i σ H2 => ∃ y3 as, σ = [some (.ref la), some (.int wd), some (.ref o), y3, none, none, none, none] ∧ ButD1 d H1 H2 ∧ SpanAt C H2 o d as (takesF (rows.take i))) ⟨none, [], rfl, .of (Same.refl _), sp1⟩ (fun i σ H2 _ ⟨_, _, _, b, _⟩ => SqL.of (b _ _ (s1 _ _ hla) fun z => by rw [z, nd] at hla; cases hla)) ?_ ?_⟩
    · rintro i x σ H2 hx ⟨y3, as, rfl, b2, sp2⟩
      rw [List.getElem?_map] at hx
      obtain ⟨ra, hra, rfl⟩ := Option.map_eq_some_iff.mp hx
      have li := (List.getElem?_eq_some_iff.mp hra).1
      obtain ⟨r, hrr⟩ : ∃ r, rows[i]? = some r := ⟨_, List.getElem?_eq_getElem (by omega)⟩
      obtain ⟨ra2, e1, e2⟩ := paired_at hps hrr
      rw [hra] at e1
      cases e1
      have mr2 := List.mem_of_getElem? hrr
      have hrow : H2 ra = some (.lst (vI r)) := b2 _ _ (s1 _ _ e2) fun z => by rw [z, nd] at e2; cases e2
      obtain ⟨t1, _, t3, _⟩ := takes_ok rb i (by omega)
      have sz1 := t1 (by omega)
      have lw : (takesF (rows.take i)).length ≤ wd := by
        obtain ⟨⟨D, E, s, _⟩, _, _⟩ := sz1
        exact s.many
      have ek := eb_le (m := m) (i := (takesF (rows.take i)).length) (k := kM) (by rcases rb.km with z | z <;> omega)
      have hsz := rb.sz
      obtain ⟨dx, eo⟩ := sp2.ex
      refine ⟨_, rfl, o, dx, _, rfl, eo, rfl, _, rfl, o, d, as, takesF (rows.take i), ra, r, wd, m2, _, rfl, sp2, hrow, sz1, rb.len r mr2, rb.bt2 r mr2, rb.m0, by omega, fun as' H3 b3 sp3 => ⟨_, as', rfl, b2.trans b3, ?_⟩⟩
      rw [takes_take hrr]
      exact sp3
    rintro σ H2 ⟨y3, as, rfl, b2, sp2⟩
    rw [List.length_map, lps, List.take_length] at sp2
    obtain ⟨_, t2, t3, _⟩ := takes_ok rb rows.length (Nat.le_refl _)
    rw [List.take_length] at t2 t3
    have s2 : Same H H2 := fun b ob e => b2 _ _ (s1 _ _ e) fun z => by rw [z, nd] at e; cases e
    generalize takesF rows = L at sp2 t2 t3 qN qS
    obtain ⟨⟨D, E, spi, Ee⟩, _, _⟩ := t2
    have las : as.length = L.length := paired_len sp2.ln
    have ndk := nodup_key spi.nd
    have Lw := spi.many
    obtain ⟨dx, eo2⟩ := sp2.ex
    have keys : ∀ p : Nat, (valV (kvB as L) (Sum.inl ((p : Nat) : Int))).isSome = !decide (p ∉ L.map (·.1)) := fun p => by
      by_cases c : p ∈ L.map (·.1)
      · rw [decide_eq_false (fun z => z c)]
        refine valK_some ?_
        rw [kvB_keys las]
        obtain ⟨b, hb, rfl⟩ := List.mem_map.mp c
        exact List.mem_map.mpr ⟨b, hb, rfl⟩
      · rw [decide_eq_true c, valK_none fun z => c ?_]
        · rfl
        · rw [kvB_keys las] at z
          obtain ⟨b, hb, e⟩ := List.mem_map.mp z
          exact List.mem_map.mpr ⟨b, hb, by have y := Sum.inl.inj e; omega⟩
    -- the free places
    have fmE : ((List.range wd).map fun p => if p ∉ L.map (·.1) then some ((p : Nat) : Int) else none).filterMap id = (freeP wd L).map fun p => ((p : Nat) : Int) := by
      unfold freeP
      generalize List.range wd = R
      induction R with
      | nil => rfl
      | cons p R ih =>
        rw [List.map_cons, List.filterMap_cons, List.filter_cons]
        by_cases c : p ∉ L.map (·.1)
        · rw [if_pos c, decide_eq_true c, if_pos rfl]
          show _ :: _ = _ :: _
          rw [ih]
        · rw [if_neg c, decide_eq_false c]
          exact ih
    dsimp only [tSeq, tAsg]
    refine wf_lc (bs := (List.range wd).map fun p => if p ∉ L.map (·.1) then some ((p : Nat) : Int) else none) (walk_range (lo := 0) (n := wd)) (fun _ y n => y = V.int n) (fun _ _ _ _ _ e => e) (fun R hR => ⟨_, rfl, _, rfl, by omega, by omega, by rw [Int.toNat_natCast]; exact hR⟩) (fun _ _ => trivial) (by rw [List.length_map, List.length_range]) (by omega) (fun k x H3 H4 b hb s3 y Dl hDl nDl R Z hR hZ => ?_) fun fl ys H3 s3 nfl efl hp => ?_
    · obtain ⟨rfl, rfl⟩ := y
      dsimp only
      rw [Int.zero_add]
      rw [List.getElem?_map] at hb
      obtain ⟨k2, hk2, rfl⟩ := Option.map_eq_some_iff.mp hb
      have kk : k2 = k := by
        have z := (List.getElem?_eq_some_iff.mp hk2).2
        rw [List.getElem_range] at z
        exact z.symm
      subst kk
      have sp3 := sp2.same s3
      refine ⟨rfl, _, rfl, _, rfl, o, C, _, _, _, rfl, s3 _ _ eo2, T.cl, T.nL, rfl, d, _, rfl, DGet.k (k := .inl ((k2 : Nat) : Int)) sp3.dic, _, rfl, ?_⟩
      rw [keys k2, Bool.not_not]
      by_cases c : k2 ∉ L.map (·.1)
      · rw [decide_eq_true c]
        exact iteT ⟨_, rfl, hR _ _ _ (by rw [if_pos c]) (Same.refl _) rfl⟩
      · rw [decide_eq_false c]
        exact iteF (hZ _ (by rw [if_neg c]) (Same.refl _))
    rw [fmE] at hp
    have ey := ints_paired hp
    subst ey
    clear hp
    have sp3 := sp2.same s3
    have eo3 := s3 _ _ eo2
    refine ⟨_, rfl, fl, _, rfl, .inl (SqL.of efl), rfl, _, rfl, ?_⟩
    rw [List.length_map, List.length_map]
    cases fe : freeP wd L with
    | nil =>
      rw [decide_eq_true (by rfl)]
      refine iteT (qN ?_ H3 (s2.trans s3))
      unfold unseenF
      rw [fe]
    | cons f0 fr =>
      rw [decide_eq_false (by
        intro z
        have y := V.int.inj z
        rw [List.length_cons] at y
        omega)]
      refine iteF ?_
      have us : unseenF wd L = some (numI L wd (pivT L) f0 L.length) := by
        unfold unseenF numI
        rw [fe, List.take_length]
      have qS2 := qS _ us
      clear qN qS
      rw [fe] at efl
      have fw : f0 < wd ∧ ∀ b ∈ L, b.1 ≠ f0 := free_mem.mp (by rw [fe]; exact List.mem_cons_self ..)
      -- the times
      refine ⟨d, _, sp3.dic, trivial, fun od => ?_⟩
      have odn : o ≠ d := fun z => by rw [z, sp3.dic] at eo3; cases eo3
      generalize eH4 : L2.upd H3 d (.frz od (.dK (kvB as L))) = H4
      have o4 : H4 o = some (.ins C dx [("width", .non), ("lines", .ref d)]) := by rw [← eH4, upd_ne odn]; exact eo3
      have d4 : H4 d = some (.frz od (.dK (kvB as L))) := by rw [← eH4, upd_same]
      have ln4 : LnH H4 as L := paired_imp (fun a b h => by
        rw [← eH4, upd_ne fun z => by rw [z, sp3.dic] at h; cases h]
        exact h) sp3.ln
      refine ⟨_, rfl, o, C, _, _, _, rfl, o4, T.cl, T.nL, rfl, d, od, rfl, .inl ⟨_, d4, for_it (walk_keys (d := d) (o := od) (kvs := kvB as L)) (fun i σ H5 => ∃ y6, σ = [some (.ref la), some (.int wd), some (.ref o), y3, some (.ref fl), some (.int ((pivT (L.take i) : Nat) : Int)), y6, none] ∧ H5 = H4) ⟨none, rfl, rfl⟩ (fun i σ H5 _ ⟨_, _, z⟩ => by rw [z]; exact d4) ?_ ?_⟩⟩
      · rintro i x σ H5 H6 hi ⟨y6, rfl, rfl⟩ ⟨rfl, key, v, hkv, rfl⟩
        rw [kvB_len las] at hi
        obtain ⟨b, hb⟩ : ∃ b, L[i]? = some b := ⟨_, List.getElem?_eq_getElem hi⟩
        obtain ⟨a, ea, ha⟩ := paired_at ln4 hb
        rw [kvB_at ea hb] at hkv
        cases hkv
        have mb := List.mem_of_getElem? hb
        have lb := spi.len b mb
        have blt := spi.lt b mb
        have e1 : L.take i ++ L.drop i = L := List.take_append_drop ..
        have pp := piv_pre spi e1.symm
        refine ⟨_, rfl, _, rfl, o, C, _, _, _, rfl, o4, T.cl, T.nL, rfl, _, rfl, d, .ref a, rfl, .inl ⟨_, .inl ((b.1 : Nat) : Int), .inr ⟨od, d4⟩, rfl, (valK_at (by rw [kvB_keys las]; exact ndk) (kvB_at ea hb)).symm⟩, _, rfl, a, _, _, _, rfl, rfl, SqL.of ha, at_of rfl (row_at (by omega)), _, _, rfl, ?_, ?_, some (kV (.inl ((b.1 : Nat) : Int))), ?_, rfl⟩
        · rw [Int.natAbs_natCast]
          exact Nat.lt_of_le_of_lt pp.2 (Nat.lt_of_lt_of_le Ee (Nat.pow_le_pow_right (by decide) (by omega)))
        · exact Nat.lt_of_le_of_lt (line_le spi mb b.1) (Nat.lt_of_lt_of_le Ee (Nat.pow_le_pow_right (by decide) (by omega)))
        · rw [Int.natAbs_natCast, ← pivT_succ hb]
          rfl
      rintro σ H5 ⟨y6, rfl, rfl⟩
      rw [kvB_len las, List.take_length]
      refine ⟨d4, ?_⟩
      have s5 : Same H (L2.upd H5 d (.dK (kvB as L))) := (s2.trans s3).trans fun b ob eb => by
        by_cases z : b = d
        · subst z
          rw [upd_same, ← eb, sp3.dic]
        · rw [upd_ne z, ← eH4, upd_ne z]
          exact eb
      obtain ⟨T0, TE, Td⟩ := piv_le spi
      have fl5 : (L2.upd H5 d (.dK (kvB as L))) fl = some (.lst (vI ((f0 :: fr).map fun p => ((p : Nat) : Int)))) := by
        rw [upd_ne (fun z => by rw [z, sp3.dic] at efl; cases efl), ← eH4, upd_ne (fun z => by rw [z, sp3.dic] at efl; cases efl)]
        exact efl
      have d5 : (L2.upd H5 d (.dK (kvB as L))) d = some (.dK (kvB as L)) := upd_same
      have o5 : (L2.upd H5 d (.dK (kvB as L))) o = some (.ins C dx [("width", .non), ("lines", .ref d)]) := by rw [upd_ne odn]; exact o4
      have ln5 : LnH (L2.upd H5 d (.dK (kvB as L))) as L := paired_imp (fun a b h => by
        rw [upd_ne fun z => by rw [z, d4] at h; cases h]
        exact h) ln4
      generalize pivT L = Tn at *
      generalize L2.upd H5 d (.dK (kvB as L)) = H6 at s5 fl5 d5 o5 ln5 ⊢
      refine ⟨by show 1 ≤ sizeLine; decide, fun zl nzl => ⟨_, rfl, zl, _, _, rfl, rfl, upd_same, by omega, by omega, ?_, fun np nnp => ?_⟩⟩
      · rw [Int.toNat_natCast]
        show 1 * wd ≤ sizeLine
        rw [sizeLine_eq]
        omega
      rw [Int.toNat_natCast, show (List.replicate wd [V.int 0]).flatten = vI (List.replicate wd (0 : Int)) by
        rw [List.flatten_replicate_singleton]
        show _ = (List.replicate wd (0 : Int)).map V.int
        rw [List.map_replicate]]
      have s7 : Same H6 (L2.upd (L2.upd H6 zl (.lst [.int 0])) np (.lst (vI (List.replicate wd (0 : Int))))) := (same_new nzl).trans (same_new nnp)
      have np7 : (L2.upd (L2.upd H6 zl (.lst [.int 0])) np (.lst (vI (List.replicate wd (0 : Int))))) np = some (.lst (vI (List.replicate wd (0 : Int)))) := upd_same
      have npn : H6 np = none := HLam.upd_none nnp
      generalize L2.upd (L2.upd H6 zl (.lst [.int 0])) np (.lst (vI (List.replicate wd (0 : Int)))) = H7 at s7 np7 ⊢
      have flr : (vI ((f0 :: fr).map fun p => ((p : Nat) : Int)))[0]? = some (V.int ((f0 : Nat) : Int)) := rfl
      refine ⟨_, rfl, _, rfl, _, rfl, fl, _, _, _, rfl, rfl, SqL.of (s7 _ _ fl5), at_of (j := 0) rfl flr, np, _, _, _, rfl, rfl, np7, ixN_of (j := f0) (by rw [List.length_map, List.length_replicate]; exact fw.1), ?_⟩
      have npd : np ≠ d := fun z => by rw [z, d5] at npn; cases npn
      have num0 : numI L wd Tn f0 0 = (List.replicate wd (0 : Int)).set f0 ((Tn : Nat) : Int) := rfl
      have e8 : (L2.upd H7 np (.lst ((vI (List.replicate wd (0 : Int))).set f0 (.int ((Tn : Nat) : Int))))) np = some (.lst (vI (numI L wd Tn f0 0))) := by
        rw [upd_same, num0]
        unfold vI
        rw [List.map_set]
      have s8 : Same H6 (L2.upd H7 np (.lst ((vI (List.replicate wd (0 : Int))).set f0 (.int ((Tn : Nat) : Int))))) := same_own npn s7
      generalize L2.upd H7 np (.lst ((vI (List.replicate wd (0 : Int))).set f0 (.int ((Tn : Nat) : Int)))) = H8 at e8 s8 ⊢
      -- the numbers
      refine ⟨d, _, s8 _ _ d5, trivial, fun od2 => ?_⟩
      generalize eH9 : L2.upd H8 d (.frz od2 (.dK (kvB as L))) = H9
      have o9 : H9 o = some (.ins C dx [("width", .non), ("lines", .ref d)]) := by rw [← eH9, upd_ne odn]; exact s8 _ _ o5
      have d9 : H9 d = some (.frz od2 (.dK (kvB as L))) := by rw [← eH9, upd_same]
      have nl : ∀ a l, H6 a = some (.lst l) → a ≠ d := fun a l h z => by rw [z, d5] at h; cases h
      have ln9 : LnH H9 as L := paired_imp (fun a b h => by
        rw [← eH9, upd_ne (nl _ _ h)]
        exact s8 _ _ h) ln5
      have fl9 : H9 fl = some (.lst (vI ((f0 :: fr).map fun p => ((p : Nat) : Int)))) := by rw [← eH9, upd_ne (nl _ _ fl5)]; exact s8 _ _ fl5
      have e9 : H9 np = some (.lst (vI (numI L wd Tn f0 0))) := by rw [← eH9, upd_ne npd]; exact e8
      have lne : ∀ a l, H6 a = some (.lst l) → a ≠ np := fun a l h z => by rw [z, npn] at h; cases h
      refine ⟨_, rfl, o, C, _, _, _, rfl, o9, T.cl, T.nL, rfl, d, od2, rfl, .inl ⟨_, d9, for_it (walk_keys (d := d) (o := od2) (kvs := kvB as L)) (fun i σ H10 => ∃ z3 y6, σ = [some (.ref la), some (.int wd), some (.ref o), z3, some (.ref fl), some (.int ((Tn : Nat) : Int)), y6, some (.ref np)] ∧ (∀ b ob, H9 b = some ob → b ≠ np → H10 b = some ob) ∧ H10 np = some (.lst (vI (numI L wd Tn f0 i)))) ⟨_, _, rfl, fun b ob e _ => e, e9⟩ (fun i σ H10 _ ⟨_, _, _, z, _⟩ => z _ _ d9 (Ne.symm npd)) ?_ ?_⟩⟩
      · rintro i x σ H10 H11 hi ⟨z3, y6', rfl, b10, e10⟩ ⟨rfl, key, v, hkv, rfl⟩
        rw [kvB_len las] at hi
        obtain ⟨b, hb⟩ : ∃ b, L[i]? = some b := ⟨_, List.getElem?_eq_getElem hi⟩
        obtain ⟨a, ea, ha6⟩ := paired_at ln5 hb
        obtain ⟨a', ea', ha9⟩ := paired_at ln9 hb
        rw [ea] at ea'
        cases ea'
        rw [kvB_at ea hb] at hkv
        cases hkv
        have mb := List.mem_of_getElem? hb
        have lb := spi.len b mb
        have blt := spi.lt b mb
        have bp := spi.pos b mb
        have ha := b10 _ _ ha9 (lne _ _ ha6)
        have o10 := b10 _ _ o9 (fun z => by rw [z, e9] at o9; cases o9)
        have d10 := b10 _ _ d9 (Ne.symm npd)
        have fl10 := b10 _ _ fl9 (lne _ _ fl5)
        have bE : (b.2.getD b.1 0).natAbs < 2 ^ 8000 := Nat.lt_of_le_of_lt (line_le spi mb b.1) Ee
        have Tb : (-((Tn : Int) / b.2.getD b.1 0)).natAbs < 2 ^ 8000 := by
          rw [Int.natAbs_neg]
          exact Nat.lt_of_le_of_lt (Int.natAbs_ediv_le_natAbs _ _) (by rw [Int.natAbs_natCast]; omega)
        refine ⟨_, rfl, o, C, _, _, _, rfl, o10, T.cl, T.nL, rfl, _, rfl, d, .ref a, rfl, .inl ⟨_, .inl ((b.1 : Nat) : Int), .inr ⟨od2, d10⟩, rfl, (valK_at (by rw [kvB_keys las]; exact ndk) (kvB_at ea hb)).symm⟩, ?_⟩
        refine ⟨_, rfl, _, rfl, _, rfl, a, _, _, _, rfl, rfl, SqL.of ha, at_of rfl (row_at (by omega)), _, _, rfl, rfl, ⟨by omega, Nat.lt_of_lt_of_le (PySem.Flt.log2_lt_of (k := 8000) (by decide) bE) (by decide), Td b mb⟩, _, rfl, _, rfl, _, rfl, fl, _, _, _, rfl, rfl, SqL.of fl10, at_of (j := 0) rfl flr, a, _, _, _, rfl, rfl, SqL.of ha, at_of rfl (row_at (by omega)), _, _, rfl, rfl, wide_mul (a := 8000) (b := 8000) Tb (Nat.lt_of_le_of_lt (line_le spi mb f0) Ee) (by decide) (by decide) (by decide), _, rfl, _, rfl, np, _, _, _, rfl, rfl, e10, ixN_of (j := b.1) (by rw [List.length_map, numI_len]; exact blt), ?_⟩
        refine ⟨_, _, rfl, fun b2 ob e n => by rw [upd_ne n]; exact b10 _ _ e n, ?_⟩
        rw [upd_same, numI_succ hb]
        unfold numG vI
        rw [List.map_set]
      · rintro σ H10 ⟨z3, y6', rfl, b10, e10⟩
        rw [kvB_len las] at e10
        have d10 := b10 _ _ d9 (Ne.symm npd)
        refine ⟨d10, _, rfl, qS2 np _ (s5.trans fun b ob eb => ?_) ?_⟩
        · have b8 := s8 _ _ eb
          by_cases z : b = d
          · subst z
            rw [upd_same]
            rw [d5] at eb
            exact eb
          · rw [upd_ne z]
            refine b10 _ _ (by rw [← eH9, upd_ne z]; exact b8) fun y => ?_
            rw [y, npn] at eb
            cases eb
        · rw [upd_ne npd]
          exact e10
end
end Kn
-- part VCm0
set_option maxHeartbeats 2000000
/-! itertools.combinations, at the library's level. -/
namespace Cmb
open PySem PySem.Spec
open Sem (wp)
theorem mro_ : mroOf (.type "itertools.combinations") = pure [.type "itertools.combinations", .type "object"] := by rw [mroOf_type]; kernel_rfl
theorem lookup_new : typeLookup (.type "itertools.combinations") "__new__" = pure (some (.builtin "itertools.combinations.__new__")) := by rw [typeLookup_type, builtinLookup_eq_fast]; kernel_rfl
theorem slot_init : Slot "itertools.combinations" "__init__" "object.__init__" :=
  .of (owner := "object") (n := "__init__") (by rw [typeLookup_type, builtinLookup_eq_fast]; kernel_rfl) (by decide +kernel) (by decide +kernel) (by decide +kernel)
    (by first | exact .inl (by decide +kernel) | exact .inr (by decide +kernel)) (by rw [isSubtype_type]; kernel_rfl)
theorem sub_ : isSubtype (.type "itertools.combinations") (.type "itertools.combinations") = pure true := by rw [isSubtype_type]; kernel_rfl
theorem called_ : TypeCalled "itertools.combinations" "itertools.combinations.__new__" "object.__init__" :=
  ⟨by decide +kernel, by decide +kernel, ⟨_, _, mro_⟩, madeBy_type mro_ lookup_new (by decide +kernel), by decide +kernel, sub_, slot_init⟩
theorem typeCall_2 (a b : Value) : checkTypeCall "itertools.combinations" ⟨[a, b], []⟩ = pure () := by kernel_rfl
theorem newCall_2 (a b : Value) : checkBuiltinCall "itertools.combinations.__new__" ⟨[.type "itertools.combinations", a, b], []⟩ = pure () := by kernel_rfl
theorem entry_new : entryFor table "itertools.combinations.__new__" = some Builtin.«itertools.combinations.__new__» := entryFor_of_tree (by kernel_rfl)
theorem slot_iter : Slot "itertools.combinations" "__iter__" "itertools.combinations.__iter__" :=
  .of (owner := "itertools.combinations") (n := "__iter__") (by rw [typeLookup_type, builtinLookup_eq_fast]; kernel_rfl) (by decide +kernel) (by decide +kernel) (by decide +kernel)
    (by first | exact .inl (by decide +kernel) | exact .inr (by decide +kernel)) sub_
theorem slot_next : Slot "itertools.combinations" "__next__" "itertools.combinations.__next__" :=
  .of (owner := "itertools.combinations") (n := "__next__") (by rw [typeLookup_type, builtinLookup_eq_fast]; kernel_rfl) (by decide +kernel) (by decide +kernel) (by decide +kernel)
    (by first | exact .inl (by decide +kernel) | exact .inr (by decide +kernel)) sub_
theorem entry_iter : entryFor table "itertools.combinations.__iter__" = some Builtin.«dict_keyiterator.__iter__» :=
  entryFor_alias (id' := "dict_keyiterator.__iter__") (by kernel_rfl) (by first | rfl | decide +kernel | (unfold String.splitOn; simp +decide [String.splitOnAux])) (by decide +kernel) (by kernel_rfl)
theorem entry_next : entryFor table "itertools.combinations.__next__" = some Builtin.«itertools.combinations.__next__» := entryFor_of_tree (by kernel_rfl)
theorem owner_ : Manifest.owners.lookup (String.ofList ['s', 'n', 'o', 'i', 't', 'a', 'n', 'i', 'b', 'm', 'o', 'c', '.', 's', 'l', 'o', 'o', 't', 'r', 'e', 't', 'i'].reverse) = some Manifest.sig_itertools_combinations := by kernel_rfl
theorem args_iter (a : Value) : argsOk "itertools.combinations.__iter__" ⟨[a], []⟩ := by
  unfold argsOk; rw [signature?_of (id := "itertools.combinations.__iter__") (n := ['_', '_', 'r', 'e', 't', 'i', '_', '_']) (o := ['s', 'n', 'o', 'i', 't', 'a', 'n', 'i', 'b', 'm', 'o', 'c', '.', 's', 'l', 'o', 'o', 't', 'r', 'e', 't', 'i']) (by kernel_rfl) owner_]; kernel_rfl
theorem args_next (a : Value) : argsOk "itertools.combinations.__next__" ⟨[a], []⟩ := by
  unfold argsOk; rw [signature?_of (id := "itertools.combinations.__next__") (n := ['_', '_', 't', 'x', 'e', 'n', '_', '_']) (o := ['s', 'n', 'o', 'i', 't', 'a', 'n', 'i', 'b', 'm', 'o', 'c', '.', 's', 'l', 'o', 'o', 't', 'r', 'e', 't', 'i']) (by kernel_rfl) owner_]; kernel_rfl
theorem noDict_ : typeHasDict (.type "itertools.combinations") = false := by decide +kernel
theorem noClose_ : typeLookup (.type "itertools.combinations") "close" = pure none := by rw [typeLookup_type, builtinLookup_eq_fast]; kernel_rfl
/-- a combinations object: its pool, how far it is, what it gave last, the places -/
abbrev combObj (tp : Addr) (st : Int) (res : Value) (idx : List Nat) : Obj := { cls := .type "itertools.combinations", dict := none, data := .fields ([.ref tp, .int st 0, res] ++ idx.map fun (i : Nat) => rawInt i).toArray, slots := #[] }
abbrev IsComb (h : Heap) (it tp : Addr) (st : Int) (res : Value) (idx : List Nat) : Prop := h.get? it = some (combObj tp st res idx)
end Cmb
-- part VCm1
set_option maxHeartbeats 2000000
/-! itertools.combinations(x, r). -/
namespace Cmb
open PySem PySem.Spec
open Sem (wp)
theorem bind_2 (x y : Value) : Builtin.Itertools.itBindNamed "combinations" ["iterable", "r"] 2 2 [x, y] [] = pure [some x, some y] := by kernel_rfl
theorem class_ {prog : Program} {w : World} {A : Around} {E : Value → Shared → Prop} {s : Shared} {x y : Value} {Q : Value × List Value → Shared → Prop} (h : Q (.type "itertools.combinations", [x, y]) s) :
    wpAny (model prog w) A (Builtin.Itertools.itClassAndRest "combinations" ⟨[.type "itertools.combinations", x, y], []⟩) Q E s := by
  have hs : ("itertools." ++ "combinations" : String) = "itertools.combinations" := by decide
  unfold Builtin.Itertools.itClassAndRest
  dsimp only
  rw [hs, sub_]
  refine wpAny_bind ?_
  show wpAny _ _ (pure true) _ _ _
  refine wpAny_pure ?_
  refine wpAny_ite_false (by decide) ?_
  refine wpAny_bind (wpAny_pure ?_)
  refine wpAny_ite_false (by decide) ?_
  exact wpAny_pure h
theorem meets_new {a : Addr} {o : Obj} {T : String} {items : Array Value} {n : Nat} (r : Int) (t : Tok) (hT : T = "list" ∨ T = "tuple") (hc : o.cls = .type T) (hd0 : o.data = .seq items n) (hsz : items.size ≤ 100) (h0 : 0 ≤ r) (h1 : r ≤ 100) :
    Meets (Builtin.«itertools.combinations.__new__» ⟨[.type "itertools.combinations", .ref a, .int r t], []⟩)
      (fun _ R s => s.heap.get? a = some o ∧ ∀ h' : Heap, (∀ b o', s.heap.get? b = some o' → h'.get? b = some o') →
        R (.ok (.ret (.ref (h'.objs.size + 1)))) { s with heap := (h'.push { cls := .type "tuple", data := .seq items }).push (combObj h'.objs.size (if r.toNat > items.size then 2 else 0) .none (List.range r.toNat)) }) :=
  .of_wp fun prog w A R s h => by
    obtain ⟨hp, g, dd, tk, os⟩ := s
    obtain ⟨ht, h⟩ := h
    have hd := noDict_
    show wpAny _ _ ((Builtin.Itertools.itClassAndRest "combinations" _ >>= _) >>= _) _ _ _
    refine wpAny_bind (wpAny_bind (class_ ?_))
    show wpAny _ _ (Builtin.Itertools.itBindNamed "combinations" ["iterable", "r"] 2 2 [.ref a, .int r t] [] >>= _) _ _ _
    rw [bind_2]
    refine wpAny_bind (wpAny_pure ?_)
    show wpAny _ _ (Builtin.Itertools.itSsizeArg (.int r t) >>= _) _ _ _
    refine wpAny_bind ?_
    unfold Builtin.Itertools.itSsizeArg
    refine wpAny_bind ?_
    show wpAny _ _ (pure r) _ _ _
    refine wpAny_pure ?_
    have c1 : (decide (r < -2 ^ 63) || decide (r ≥ 2 ^ 63)) = false := by
      rw [decide_eq_false (by omega), decide_eq_false (by omega)]
      rfl
    refine wpAny_ite_false (by rw [c1]; decide) (wpAny_pure ?_)
    refine wpAny_bind (wpAny_collect_seq a hT ht hc hd0 (fun h' hk => ?_) (by rw [sizeLine_eq]; omega))
    refine wpAny_ite_false (decide_eq_false (by omega)) ?_
    have c2 : Builtin.Itertools.itTooMany r = false := by
      show decide (r > 2 ^ 20) = false
      exact decide_eq_false (by omega)
    rw [c2]
    refine wpAny_ite_false (by decide) ?_
    refine wpAny_bind (wpAny_newTuple ?_ (by rw [Array.length_toList, sizeLine_eq]; omega))
    refine wpAny_pure (wpAny_bind ?_)
    unfold Builtin.Itertools.itNewRecord
    dsimp only
    rw [hd]
    refine wpAny_ite_true (by decide) ?_
    have lt : (if r.toNat > items.toList.length then (2 : Int) else 0) = if r.toNat > items.size then 2 else 0 := by rw [Array.length_toList]
    have fin := h h' hk
    refine wpAny_newObj_type ?_ ?_
    · show wpAny _ _ (ret _) _ _ _
      refine wpAny_pure ⟨_, rfl, ?_⟩
      rw [Heap.size_push]
      exact fin
    · show ([Value.ref h'.objs.size, rawInt (if r.toNat > items.toList.length then 2 else 0), Value.none] ++ List.map (fun (i : Nat) => rawInt i) (List.range r.toNat)).toArray.size ≤ sizeLine + 2
      rw [List.size_toArray, List.length_append, List.length_map, List.length_range, sizeLine_eq]
      show 3 + r.toNat ≤ _
      omega
end Cmb
-- part VComb
/-! Choices of so many of a list. -/
namespace La
def combsL {α : Type} : List α → Nat → List (List α)
  | _, 0 => [[]]
  | [], _ + 1 => []
  | a :: l, r + 1 => (combsL l r).map (a :: ·) ++ combsL l (r + 1)
theorem combs_map {α β : Type} (f : α → β) : ∀ (l : List α) (r : Nat), combsL (l.map f) r = (combsL l r).map (List.map f)
  | [], 0 => rfl
  | _ :: _, 0 => rfl
  | [], _ + 1 => rfl
  | a :: l, r + 1 => by
    show (combsL (l.map f) r).map (f a :: ·) ++ combsL (l.map f) (r + 1) = ((combsL l r).map (a :: ·) ++ combsL l (r + 1)).map (List.map f)
    rw [combs_map f l r, combs_map f l (r + 1), List.map_append, List.map_map, List.map_map]
    rfl
theorem mem_combs {α : Type} {x : List α} : ∀ {l : List α} {r : Nat}, x ∈ combsL l r ↔ List.Sublist x l ∧ x.length = r
  | l, 0 => by
    have e : combsL l 0 = [[]] := by cases l <;> rfl
    rw [e, List.mem_singleton]
    exact ⟨fun h => by rw [h]; exact ⟨List.nil_sublist _, rfl⟩, fun h => List.eq_nil_of_length_eq_zero h.2⟩
  | [], r + 1 => by
    refine ⟨fun h => (List.not_mem_nil h).elim, fun h => ?_⟩
    have z := List.sublist_nil.mp h.1
    rw [z] at h
    exact absurd h.2 (by simp)
  | a :: l, r + 1 => by
    show x ∈ (combsL l r).map (a :: ·) ++ combsL l (r + 1) ↔ _
    rw [List.mem_append, mem_combs (l := l) (r := r + 1), List.mem_map]
    constructor
    · rintro (⟨y, hy, rfl⟩ | h)
      · have z := mem_combs.mp hy
        exact ⟨z.1.cons_cons a, by rw [List.length_cons, z.2]⟩
      · exact ⟨h.1.cons a, h.2⟩
    · rintro ⟨s, e⟩
      cases s with
      | cons _ s => exact .inr ⟨s, e⟩
      | cons_cons _ s => exact .inl ⟨_, mem_combs.mpr ⟨s, by simpa using e⟩, rfl⟩
def dblF {α : Type} (l : List α) : List (List α) := l.foldl (fun ch s => ch ++ ch.map (· ++ [s])) [[]]
theorem mem_dbl {α : Type} {x : List α} {l : List α} : x ∈ dblF l ↔ List.Sublist x l := by
  suffices h : ∀ (n : Nat) (l : List α) (x : List α), l.length = n → (x ∈ dblF l ↔ List.Sublist x l) from h _ l x rfl
  intro n
  induction n with
  | zero =>
    intro l x e
    rw [List.eq_nil_of_length_eq_zero e]
    show x ∈ [[]] ↔ _
    rw [List.mem_singleton, List.sublist_nil]
  | succ n ih =>
    intro l x e
    have ne : l ≠ [] := fun z => by rw [z] at e; cases e
    have el := List.dropLast_concat_getLast ne
    have ld : l.dropLast.length = n := by rw [List.length_dropLast]; omega
    have ih' := fun y => ih l.dropLast y ld
    rw [← el]
    generalize l.getLast ne = a
    generalize l.dropLast = d at ih'
    unfold dblF at ih' ⊢
    rw [List.foldl_append]
    show x ∈ _ ++ List.map _ _ ↔ _
    rw [List.mem_append, ih', List.mem_map]
    constructor
    · rintro (h | ⟨y, hy, rfl⟩)
      · exact h.trans (List.sublist_append_left _ _)
      · exact ((ih' y).mp hy).append (List.Sublist.refl _)
    · intro h
      obtain ⟨x1, x2, rfl, h1, h2⟩ := List.sublist_append_iff.mp h
      rcases List.sublist_cons_iff.mp h2 with z | ⟨r, rfl, z⟩
      · rw [List.sublist_nil.mp z, List.append_nil]
        exact .inl h1
      · rw [List.sublist_nil.mp z]
        exact .inr ⟨x1, (ih' x1).mpr h1, rfl⟩
end La
-- part VCm2
set_option maxHeartbeats 2000000
/-! The items of a combinations object. -/
namespace Cmb
open PySem PySem.Spec La
open Sem (wp)
/-- one choice behind the other -/
def okSeq (f : Nat → List Nat → Option (List Nat)) (n : Nat) : List (List Nat) → Bool
  | [] => true
  | [c] => decide (f n c = none)
  | c :: c2 :: t => decide (f n c = some c2) && okSeq f n (c2 :: t)
abbrev StepF (f : Nat → List Nat → Option (List Nat)) : Prop := ((List.range 9).all fun n => (List.range (n + 1)).all fun r => okSeq f n (combsL (List.range n) r)) = true
theorem okSeq_at {f : Nat → List Nat → Option (List Nat)} {n : Nat} : ∀ {cs : List (List Nat)} {i : Nat} {c : List Nat}, okSeq f n cs = true → cs[i]? = some c → f n c = cs[i + 1]?
  | [], i, c, _, e => by cases i <;> cases e
  | [c0], 0, c, h, e => by cases e; exact of_decide_eq_true h
  | [c0], i + 1, c, _, e => by cases i <;> cases e
  | c0 :: c2 :: t, 0, c, h, e => by
    cases e
    exact of_decide_eq_true (Bool.and_eq_true_iff.mp h).1
  | c0 :: c2 :: t, i + 1, c, h, e => okSeq_at (cs := c2 :: t) (i := i) (Bool.and_eq_true_iff.mp (show (decide (f n c0 = some c2) && okSeq f n (c2 :: t)) = true from h)).2 e
theorem step_at {f : Nat → List Nat → Option (List Nat)} (h : StepF f) {n r i : Nat} {c : List Nat} (hn : n ≤ 8) (hr : r ≤ n) (e : (combsL (List.range n) r)[i]? = some c) : f n c = (combsL (List.range n) r)[i + 1]? := by
  refine okSeq_at ?_ e
  have z := List.all_eq_true.mp h n (List.mem_range.mpr (by omega))
  exact List.all_eq_true.mp z r (List.mem_range.mpr (by omega))
theorem comb_first {n r : Nat} : (combsL (List.range n) r)[0]? = if r ≤ n then some (List.range r) else none := by
  suffices h : ∀ (r : Nat) (l : List Nat), (combsL l r)[0]? = if r ≤ l.length then some (l.take r) else none by
    rw [h, List.length_range]
    split
    · rw [List.take_range, Nat.min_eq_left (by assumption)]
    · rfl
  intro r
  induction r with
  | zero =>
    intro l
    cases l <;> rfl
  | succ r ih =>
    intro l
    induction l with
    | nil => rfl
    | cons a l ih2 =>
      show ((combsL l r).map (a :: ·) ++ combsL l (r + 1))[0]? = _
      have z := ih l
      cases e : combsL l r with
      | nil =>
        rw [e] at z
        have y := ih2
        rw [List.map_nil, List.nil_append, y]
        by_cases c : r ≤ l.length
        · rw [if_pos c] at z
          cases z
        · rw [if_neg (by omega), if_neg (by rw [List.length_cons]; omega)]
      | cons b t =>
        rw [e] at z
        by_cases c : r ≤ l.length
        · rw [if_pos c] at z
          have z := Option.some.inj (show some b = some (l.take r) from z)
          rw [if_pos (by rw [List.length_cons]; omega), z]
          rfl
        · rw [if_neg c] at z
          cases z
theorem nums_ (tp : Addr) (st : Int) (res : Value) (idx : List Nat) : ((([Value.ref tp, .int st 0, res] ++ idx.map fun (i : Nat) => rawInt i).toArray.toList.drop 3).map fun | .int n _ => n.toNat | _ => 0) = idx := by
  show ((idx.map fun (i : Nat) => rawInt i).map _) = idx
  rw [List.map_map]
  refine (List.map_congr_left fun i _ => ?_).trans (List.map_id idx)
  show (match rawInt (i : Int) with | .int n _ => n.toNat | _ => 0) = i
  rfl
theorem nums_gen {tp : Addr} {st : Int} {res : Value} {idx : List Nat} {f : Value → Nat} (hf : ∀ n : Nat, f (rawInt n) = n) : ((([Value.ref tp, .int st 0, res] ++ idx.map fun (i : Nat) => rawInt i).toArray.toList.drop 3).map f) = idx := by
  show ((idx.map fun (i : Nat) => rawInt i).map f) = idx
  rw [List.map_map]
  exact (List.map_congr_left fun i _ => hf i).trans (List.map_id idx)
section
variable {prog : Program} {w : World} {A : Around} {E : Value → Shared → Prop} {s : Shared}
abbrev IsPool (h : Heap) (tp : Addr) (items : Array Value) : Prop := h.get? tp = some { cls := .type "tuple", data := .seq items }
theorem size_set1 {tp : Addr} {st : Int} {res : Value} {idx : List Nat} : ([Value.ref tp, .int st 0, res] ++ idx.map fun (i : Nat) => rawInt i).toArray.size = 3 + idx.length := by
  rw [List.size_toArray, List.length_append, List.length_map]
  rfl
theorem set_f1 {h : Heap} {it tp : Addr} {st : Int} {res : Value} {idx : List Nat} (hit : IsComb h it tp st res idx) (st' : Int) : IsComb (h.update it (Obj.mapFields fun x => x.setIfInBounds 1 (rawInt st'))) it tp st' res idx := by
  have z := Heap.get?_update_self (Obj.mapFields fun x => x.setIfInBounds 1 (rawInt st')) hit rfl
  exact z
theorem set_f2 {h : Heap} {it tp : Addr} {st : Int} {res : Value} {idx : List Nat} (hit : IsComb h it tp st res idx) (res' : Value) : IsComb (h.update it (Obj.mapFields fun x => x.setIfInBounds 2 res')) it tp st res' idx := by
  have z := Heap.get?_update_self (Obj.mapFields fun x => x.setIfInBounds 2 res') hit rfl
  exact z
theorem set_nums {h : Heap} {it tp : Addr} {st : Int} {res : Value} {idx idx' : List Nat} (hit : IsComb h it tp st res idx) : IsComb (h.update it (Obj.mapFields fun fs => fs.extract 0 3 ++ (idx'.map fun (n : Nat) => rawInt n).toArray)) it tp st res idx' := by
  have z := Heap.get?_update_self (Obj.mapFields fun fs => fs.extract 0 3 ++ (idx'.map fun (n : Nat) => rawInt n).toArray) hit rfl
  refine z.trans (congrArg some ?_)
  show ({ cls := .type "itertools.combinations", dict := none, data := .fields (([Value.ref tp, .int st 0, res] ++ idx.map fun (i : Nat) => rawInt i).toArray.extract 0 3 ++ (idx'.map fun (n : Nat) => rawInt n).toArray), slots := #[] } : Obj) = _
  have e : (([Value.ref tp, .int st 0, res] ++ idx.map fun (i : Nat) => rawInt i).toArray.extract 0 3 ++ (idx'.map fun (n : Nat) => rawInt n).toArray) = ([Value.ref tp, .int st 0, res] ++ idx'.map fun (i : Nat) => rawInt i).toArray := by
    simp
  rw [e]
end
end Cmb
-- part VCm3
set_option maxHeartbeats 2000000
/-! The items of a combinations object, drawn. -/
namespace Cmb
open PySem PySem.Spec La
open Sem (wp)
section
variable {prog : Program} {w : World} {A : Around} {E : Value → Shared → Prop} {s : Shared}
theorem call_comb {a : Addr} {o : Obj} {T : String} {items : Array Value} {n : Nat} {r : Int} {t : Tok} {Q : Value → Shared → Prop} (hT : T = "list" ∨ T = "tuple") (ho : s.heap.get? a = some o) (hc : o.cls = .type T) (hd : o.data = .seq items n) (hsz : items.size ≤ 100) (h0 : 0 ≤ r) (h1 : r ≤ 100)
    (h : ∀ h' h'' : Heap, (∀ b o', s.heap.get? b = some o' → h'.get? b = some o') → IsComb h'' (h'.objs.size + 1) h'.objs.size (if r.toNat > items.size then 2 else 0) .none (List.range r.toNat) → IsPool h'' h'.objs.size items → (∀ b o', h'.get? b = some o' → h''.get? b = some o') → Q (.ref (h'.objs.size + 1)) { s with heap := h'' }) :
    wpAny (model prog w) A (call (.type "itertools.combinations") [.ref a, .int r t]) Q E s := by
  refine callType_new called_ (by decide +kernel) (typeCall_2 _ _) (newCall_2 _ _) (fun obj => F.args_object_init_3 obj _ _) entry_new (meets_new r t hT hc hd hsz h0 h1) ⟨ho, fun h' hk => ?_⟩
  have e1 : (h'.push { cls := .type "tuple", data := .seq items }).objs.size = h'.objs.size + 1 := Heap.size_push ..
  have g1 : ((h'.push { cls := .type "tuple", data := .seq items }).push (combObj h'.objs.size (if r.toNat > items.size then 2 else 0) .none (List.range r.toNat))).get? (h'.objs.size + 1) = some (combObj h'.objs.size (if r.toNat > items.size then 2 else 0) .none (List.range r.toNat)) := by
    rw [← e1]
    exact Heap.get?_push_size _ rfl
  have g2 : ((h'.push { cls := .type "tuple", data := .seq items }).push (combObj h'.objs.size (if r.toNat > items.size then 2 else 0) .none (List.range r.toNat))).get? h'.objs.size = some { cls := .type "tuple", data := .seq items } := Heap.get?_push_of_some _ (Heap.get?_push_size _ rfl)
  exact ⟨⟨_, g1, rfl⟩, h h' _ hk g1 g2 fun b o' q => Heap.get?_push_of_some _ (Heap.get?_push_of_some _ q)⟩
theorem iter_comb {it tp : Addr} {st : Int} {res : Value} {idx : List Nat} {Q : Value → Shared → Prop} (hit : IsComb s.heap it tp st res idx) (h : Q (.ref it) s) : wpAny (model prog w) A (pyIter (.ref it)) Q E s := by
  have hT : s.TypeIs (.ref it) "itertools.combinations" := ⟨_, hit, rfl⟩
  refine wpAny_pyIter_slot hT slot_iter (wpAny_call_entry slot_iter hT entry_iter ?_ (args_iter _))
  show wpAny _ _ (ret (.ref it)) _ _ s
  exact wpAny_pure ⟨_, rfl, "itertools.combinations", _, hT, slot_next.lookup, h⟩
theorem comb_item {it tp : Addr} {items : Array Value} {st : Int} {res : Value} {idx idx' : List Nat} {Q : Option Value → Shared → Prop} (hit : IsComb s.heap it tp st res idx) (hp : IsPool s.heap tp items) (hne : tp ≠ it) (hl : idx'.length ≤ 100)
    (hnext : (st = 0 ∧ idx' = idx) ∨ (st = 1 ∧ ∀ f, StepF f → f items.size idx = some idx'))
    (hQ : ∀ h', IsComb h' it tp 1 (.ref s.heap.objs.size) idx' → h'.get? s.heap.objs.size = some { cls := .type "tuple", data := .seq (idx'.map fun i => items.getD i .none).toArray } → (∀ b o, b ≠ it → s.heap.get? b = some o → h'.get? b = some o) → Q (some (.ref s.heap.objs.size)) { s with heap := h' }) :
    wpAny (model prog w) A (callSpecial? (.ref it) "__next__") Q E s := by
  have hT : s.TypeIs (.ref it) "itertools.combinations" := ⟨_, hit, rfl⟩
  refine wpAny_callSpecial?_slot (name := Str.ofString "__next__") hT slot_next (wpAny_call_entry slot_next hT entry_next ?_ (args_next _))
  show wpAny _ _ (field (.ref it) 0 >>= _) _ _ s
  refine wpAny_bind (wpAny_field hit rfl (x := .ref tp) rfl ?_)
  show wpAny _ _ (Builtin.Itertools.itNumbersFrom (.ref it) 3 >>= _) _ _ s
  refine wpAny_bind ?_
  unfold Builtin.Itertools.itNumbersFrom
  refine wpAny_bind (wpAny_load hit ?_)
  refine wpAny_pure ?_
  rw [nums_gen]
  show wpAny _ _ (Builtin.Itertools.itIntField (.ref it) 1 >>= _) _ _ s
  refine wpAny_bind ?_
  unfold Builtin.Itertools.itIntField
  refine wpAny_bind (wpAny_field hit rfl (x := .int st 0) rfl ?_)
  refine wpAny_pure ?_
  rcases hnext with ⟨rfl, rfl⟩ | ⟨rfl, hs⟩
  · show wpAny _ _ (setField (.ref it) 1 (rawInt 1) >>= _) _ _ s
    refine wpAny_bind (wpAny_setField hit rfl (by rw [size_set1]; omega) ?_)
    have hit1 := set_f1 hit 1
    have hp1 : IsPool (s.heap.update it (Obj.mapFields fun x => x.setIfInBounds 1 (rawInt 1))) tp items := (Heap.get?_update_other _ _ (Ne.symm hne)).trans hp
    have sz1 : (s.heap.update it (Obj.mapFields fun x => x.setIfInBounds 1 (rawInt 1))).objs.size = s.heap.objs.size := Heap.size_update ..
    have kp1 : ∀ b o, b ≠ it → s.heap.get? b = some o → (s.heap.update it (Obj.mapFields fun x => x.setIfInBounds 1 (rawInt 1))).get? b = some o := fun b o n e => (Heap.get?_update_other _ _ (Ne.symm n)).trans e
    generalize s.heap.update it (Obj.mapFields fun x => x.setIfInBounds 1 (rawInt 1)) = h1 at hit1 hp1 sz1 kp1 ⊢
    refine wpAny_bind ?_
    show wpAny _ _ (Builtin.Itertools.itPoolItems (.ref tp) >>= _) _ _ _
    refine wpAny_bind ?_
    unfold Builtin.Itertools.itPoolItems
    refine wpAny_bind (wpAny_seqItems hp1 rfl ?_)
    refine wpAny_pure ?_
    refine wpAny_newTuple ?_ (by rw [List.length_map, sizeLine_eq]; omega)
    have hit2 : IsComb (h1.push { cls := .type "tuple", data := .seq (idx'.map fun i => items.getD i .none).toArray }) it tp 1 res idx' := Heap.get?_push_of_some _ hit1
    have e2 : (h1.push { cls := .type "tuple", data := .seq (idx'.map fun i => items.getD i .none).toArray }).get? h1.objs.size = some { cls := .type "tuple", data := .seq (idx'.map fun i => items.getD i .none).toArray } := Heap.get?_push_size _ rfl
    have kp2 : ∀ b o, b ≠ it → s.heap.get? b = some o → (h1.push { cls := .type "tuple", data := .seq (idx'.map fun i => items.getD i .none).toArray }).get? b = some o := fun b o n e => Heap.get?_push_of_some _ (kp1 b o n e)
    have itl : it < h1.objs.size := Heap.lt_size hit1
    refine wpAny_bind (wpAny_field hit2 rfl (x := res) rfl ?_)
    refine wpAny_bind (wpAny_setField hit2 rfl (by rw [size_set1]; omega) ?_)
    refine wpAny_bind (wpAny_letGo ?_)
    show wpAny _ _ (ret _) _ _ _
    refine wpAny_pure ⟨_, rfl, ?_⟩
    rw [show Value.ref h1.objs.size = Value.ref s.heap.objs.size by rw [sz1]]
    refine hQ _ ?_ ?_ fun b o n e => (Heap.get?_update_other _ _ (Ne.symm n)).trans (kp2 b o n e)
    · rw [← sz1]
      exact set_f2 hit2 _
    · rw [← sz1]
      exact (Heap.get?_update_other _ _ (Nat.ne_of_lt itl)).trans e2
  · show wpAny _ _ (Builtin.Itertools.itPoolItems (.ref tp) >>= _) _ _ s
    refine wpAny_bind ?_
    unfold Builtin.Itertools.itPoolItems
    refine wpAny_bind (wpAny_seqItems hp rfl ?_)
    refine wpAny_pure ?_
    split
    case h_2 heq =>
      have z := (hs _ (by decide +kernel)).symm.trans heq
      cases z
    case h_1 nx heq =>
    have z := (hs _ (by decide +kernel)).symm.trans heq
    cases z
    refine wpAny_bind ?_
    unfold Builtin.Itertools.itSetNumbersFrom
    refine wpAny_updateFields hit rfl ?_ ?_
    rotate_left
    · rw [Array.size_append, Array.size_extract, size_set1, List.size_toArray, List.length_map, sizeLine_eq]
      omega
    have hit1 := set_nums (idx' := idx') hit
    have hp1 : IsPool (s.heap.update it (Obj.mapFields fun fs => fs.extract 0 3 ++ (idx'.map fun (n : Nat) => rawInt n).toArray)) tp items := (Heap.get?_update_other _ _ (Ne.symm hne)).trans hp
    have sz1 : (s.heap.update it (Obj.mapFields fun fs => fs.extract 0 3 ++ (idx'.map fun (n : Nat) => rawInt n).toArray)).objs.size = s.heap.objs.size := Heap.size_update ..
    have kp1 : ∀ b o, b ≠ it → s.heap.get? b = some o → (s.heap.update it (Obj.mapFields fun fs => fs.extract 0 3 ++ (idx'.map fun (n : Nat) => rawInt n).toArray)).get? b = some o := fun b o n e => (Heap.get?_update_other _ _ (Ne.symm n)).trans e
    generalize s.heap.update it (Obj.mapFields fun fs => fs.extract 0 3 ++ (idx'.map fun (n : Nat) => rawInt n).toArray) = h1 at hit1 hp1 sz1 kp1 ⊢
    refine wpAny_bind ?_
    show wpAny _ _ (Builtin.Itertools.itPoolItems (.ref tp) >>= _) _ _ _
    refine wpAny_bind ?_
    unfold Builtin.Itertools.itPoolItems
    refine wpAny_bind (wpAny_seqItems hp1 rfl ?_)
    refine wpAny_pure ?_
    refine wpAny_newTuple ?_ (by rw [List.length_map, sizeLine_eq]; omega)
    have hit2 : IsComb (h1.push { cls := .type "tuple", data := .seq (idx'.map fun i => items.getD i .none).toArray }) it tp 1 res idx' := Heap.get?_push_of_some _ hit1
    have e2 : (h1.push { cls := .type "tuple", data := .seq (idx'.map fun i => items.getD i .none).toArray }).get? h1.objs.size = some { cls := .type "tuple", data := .seq (idx'.map fun i => items.getD i .none).toArray } := Heap.get?_push_size _ rfl
    have kp2 : ∀ b o, b ≠ it → s.heap.get? b = some o → (h1.push { cls := .type "tuple", data := .seq (idx'.map fun i => items.getD i .none).toArray }).get? b = some o := fun b o n e => Heap.get?_push_of_some _ (kp1 b o n e)
    have itl : it < h1.objs.size := Heap.lt_size hit1
    refine wpAny_bind (wpAny_field hit2 rfl (x := res) rfl ?_)
    refine wpAny_bind (wpAny_setField hit2 rfl (by rw [size_set1]; omega) ?_)
    refine wpAny_bind (wpAny_letGo ?_)
    show wpAny _ _ (ret _) _ _ _
    refine wpAny_pure ⟨_, rfl, ?_⟩
    rw [show Value.ref h1.objs.size = Value.ref s.heap.objs.size by rw [sz1]]
    refine hQ _ ?_ ?_ fun b o n e => (Heap.get?_update_other _ _ (Ne.symm n)).trans (kp2 b o n e)
    · rw [← sz1]
      exact set_f2 hit2 _
    · rw [← sz1]
      exact (Heap.get?_update_other _ _ (Nat.ne_of_lt itl)).trans e2
  · intro n
    rfl
end
end Cmb
-- part VCm4
set_option maxHeartbeats 2000000
/-! pyNext of a combinations object. -/
namespace Cmb
open PySem PySem.Spec La
open Sem (wp)
section
variable {prog : Program} {w : World} {A : Around} {E : Value → Shared → Prop} {s : Shared}
theorem next_item {it tp : Addr} {items : Array Value} {st : Int} {res : Value} {idx idx' : List Nat} {Q : Option Value → Shared → Prop} (hit : IsComb s.heap it tp st res idx) (hp : IsPool s.heap tp items) (hne : tp ≠ it) (hl : idx'.length ≤ 100)
    (hnext : (st = 0 ∧ idx' = idx) ∨ (st = 1 ∧ ∀ f, StepF f → f items.size idx = some idx'))
    (hQ : ∀ h', IsComb h' it tp 1 (.ref s.heap.objs.size) idx' → h'.get? s.heap.objs.size = some { cls := .type "tuple", data := .seq (idx'.map fun i => items.getD i .none).toArray } → (∀ b o, b ≠ it → s.heap.get? b = some o → h'.get? b = some o) → Q (some (.ref s.heap.objs.size)) { s with heap := h' }) :
    wpAny (model prog w) A (pyNext (.ref it)) Q E s := by
  unfold pyNext
  exact wpAny_bind (wpAny_attempt (comb_item hit hp hne hl hnext fun h' h1 h2 h3 => wpAny_pure (hQ h' h1 h2 h3)))
theorem next_end {it tp : Addr} {items : Array Value} {st : Int} {res : Value} {idx : List Nat} {Q : Option Value → Shared → Prop} (hh : A.handled = none) (hit : IsComb s.heap it tp st res idx) (hp : IsPool s.heap tp items) (hne : tp ≠ it)
    (hend : (st = 1 ∧ ∀ f, StepF f → f items.size idx = none) ∨ st = 2)
    (hQ : ∀ h', (∀ b o, b ≠ it → s.heap.get? b = some o → h'.get? b = some o) → Q none { s with heap := h' }) :
    wpAny (model prog w) A (pyNext (.ref it)) Q E s := by
  have hT : s.TypeIs (.ref it) "itertools.combinations" := ⟨_, hit, rfl⟩
  unfold pyNext
  refine wpAny_bind (wpAny_attempt (wpAny_callSpecial?_slot (name := Str.ofString "__next__") hT slot_next (wpAny_call_entry slot_next hT entry_next ?_ (args_next _))))
  show wpAny _ _ (field (.ref it) 0 >>= _) _ _ s
  refine wpAny_bind (wpAny_field hit rfl (x := .ref tp) rfl ?_)
  show wpAny _ _ (Builtin.Itertools.itNumbersFrom (.ref it) 3 >>= _) _ _ s
  refine wpAny_bind ?_
  unfold Builtin.Itertools.itNumbersFrom
  refine wpAny_bind (wpAny_load hit ?_)
  refine wpAny_pure ?_
  rw [nums_gen]
  show wpAny _ _ (Builtin.Itertools.itIntField (.ref it) 1 >>= _) _ _ s
  refine wpAny_bind ?_
  unfold Builtin.Itertools.itIntField
  refine wpAny_bind (wpAny_field hit rfl (x := .int st 0) rfl ?_)
  refine wpAny_pure ?_
  rcases hend with ⟨rfl, hs⟩ | rfl
  · show wpAny _ _ (Builtin.Itertools.itPoolItems (.ref tp) >>= _) _ _ s
    refine wpAny_bind ?_
    unfold Builtin.Itertools.itPoolItems
    refine wpAny_bind (wpAny_seqItems hp rfl ?_)
    refine wpAny_pure ?_
    split
    case h_1 nx heq =>
      have z := (hs _ (by decide +kernel)).symm.trans heq
      cases z
    case h_2 heq =>
    refine wpAny_bind (wpAny_setField hit rfl (by rw [size_set1]; omega) ?_)
    have kp1 : ∀ b o, b ≠ it → s.heap.get? b = some o → (s.heap.update it (Obj.mapFields fun x => x.setIfInBounds 1 (rawInt 2))).get? b = some o := fun b o n e => (Heap.get?_update_other _ _ (Ne.symm n)).trans e
    generalize s.heap.update it (Obj.mapFields fun x => x.setIfInBounds 1 (rawInt 2)) = h1 at kp1 ⊢
    unfold Builtin.Itertools.itStop
    refine wpAny_bind ?_
    simp only [newExc, newTuple]
    refine wpAny_bind (wpAny_newObj_type ?_ (by size_fits))
    refine wpAny_bind (m := firstArgMember _ _) (wpAny_of_eq (a := Value.none) (by first | rfl | (simp only [firstArgMember]; rfl)) ?_)
    refine wpAny_newObj_type ?_ (by size_fits)
    simp only [raiseNew]
    refine wpAny_bind (wpAny_handled ?_)
    first | rw [show A.in1.handled = none from hh] | rw [hh]
    refine wpAny_bind (wpAny_pure (wpAny_throw ?_))
    refine wpAny_bind (wpAny_isInstance (T := "StopIteration") (b := true) ⟨_, Heap.get?_push_size _ rfl, rfl⟩ isSubtype_stop ?_)
    exact wpAny_pure (hQ _ fun b o n e => Heap.get?_push_of_some _ (Heap.get?_push_of_some _ (kp1 b o n e)))
  · show wpAny _ _ (rule _ >>= _) _ _ s
    refine wpAny_bind (wpAny_rule ?_)
    unfold Builtin.Itertools.itStop
    refine wpAny_bind ?_
    simp only [newExc, newTuple]
    refine wpAny_bind (wpAny_newObj_type ?_ (by size_fits))
    refine wpAny_bind (m := firstArgMember _ _) (wpAny_of_eq (a := Value.none) (by first | rfl | (simp only [firstArgMember]; rfl)) ?_)
    refine wpAny_newObj_type ?_ (by size_fits)
    simp only [raiseNew]
    refine wpAny_bind (wpAny_handled ?_)
    first | rw [show A.in1.handled = none from hh] | rw [hh]
    refine wpAny_bind (wpAny_pure (wpAny_throw ?_))
    refine wpAny_bind (wpAny_isInstance (T := "StopIteration") (b := true) ⟨_, Heap.get?_push_size _ rfl, rfl⟩ isSubtype_stop ?_)
    exact wpAny_pure (hQ _ fun b o n e => Heap.get?_push_of_some _ (Heap.get?_push_of_some _ e))
  · intro n
    rfl
end
end Cmb
-- part VItc
set_option maxHeartbeats 4000000
/-! for x in combinations(seq, r). -/
namespace L2
open PySem PySem.Spec PyProof.Rows La
/-- the choices of r of xs, each a new tuple -/
def ItC (xs : List V) (r : Nat) : It :=
  ⟨fun i _ => i < (combsL xs r).length, fun i H v H' => ∃ T c, v = .ref T ∧ H T = none ∧ H' = upd H T (.tup c) ∧ (combsL xs r)[i]? = some c, fun i _ => i = (combsL xs r).length⟩
theorem combs_at {α : Type} {xs : List α} {r : Nat} (d : α) : combsL xs r = (combsL (List.range xs.length) r).map fun c => c.map fun i => xs.getD i d := by
  have e : xs = (List.range xs.length).map fun i => xs.getD i d := by
    refine List.ext_getElem (by rw [List.length_map, List.length_range]) fun i h1 h2 => ?_
    rw [List.getElem_map, List.getElem_range, List.getD_eq_getElem?_getD, List.getElem?_eq_getElem h1]
    rfl
  conv => lhs; rw [e]
  exact combs_map _ _ _
theorem combs_cnt {α : Type} {xs : List α} {r : Nat} (d : α) : (combsL xs r).length = (combsL (List.range xs.length) r).length := by
  rw [combs_at d, List.length_map]
theorem vals_get {xs : List V} {us : List Value} (h : Vals xs us) : ∀ (c : List Nat), (∀ i ∈ c, i < xs.length) → Vals (c.map fun i => xs.getD i .non) (c.map fun i => us.toArray.getD i .none)
  | [], _ => .nil
  | i :: c, hc => by
    have hi := hc i (List.mem_cons_self ..)
    obtain ⟨u, hu, ru⟩ := h.get (List.getElem?_eq_getElem hi)
    refine .cons ?_ (vals_get h c fun j hj => hc j (List.mem_cons_of_mem _ hj))
    have e1 : xs.getD i .non = xs[i] := by rw [List.getD_eq_getElem?_getD, List.getElem?_eq_getElem hi]; rfl
    have e2 : us.toArray.getD i .none = u := by
      rw [Array.getD_eq_getD_getElem?]
      simp [hu]
    dsimp only
    rw [e1, e2]
    exact ru
theorem comb_lt {n r : Nat} {c : List Nat} (h : c ∈ combsL (List.range n) r) : (∀ i ∈ c, i < n) ∧ c.length = r := by
  obtain ⟨s, l⟩ := mem_combs.mp h
  exact ⟨fun i hi => List.mem_range.mp (s.subset hi), l⟩
def tnC (xs : List V) (r : Nat) (it tp : Addr) (i : Nat) (h : Heap) : Prop := ∃ us : List Value, Vals xs us ∧ Cmb.IsPool h tp us.toArray ∧
  ((i = 0 ∧ r ≤ xs.length ∧ ∃ res, Cmb.IsComb h it tp 0 res (List.range r)) ∨ (∃ j c, i = j + 1 ∧ (combsL (List.range xs.length) r)[j]? = some c ∧ ∃ res, Cmb.IsComb h it tp 1 res c) ∨ (xs.length < r ∧ i = 0 ∧ ∃ res idx, Cmb.IsComb h it tp 2 res idx))
theorem combs_none {n r : Nat} (h : n < r) : combsL (List.range n) r = [] := by
  cases e : combsL (List.range n) r with
  | nil => rfl
  | cons a l =>
    have z := Cmb.comb_first (n := n) (r := r)
    rw [e, if_neg (by omega)] at z
    cases z
theorem turn_comb {P : Program} {w : World} {K : PySem.W.Frag} {tg : Expr} {xs : List V} {r : Nat} {it tp : Addr} (hne : tp ≠ it) (hn : xs.length ≤ 8) (hr : r ≤ 8) : Turn P w K tg (ItC xs r) [it, tp] it (tnC xs r it tp) where
  mem := by simp
  obj := fun i h st c hc => by
    obtain ⟨us, _, hp, st⟩ := st
    have e' : c = it ∨ c = tp := by simpa using hc
    rcases e' with q | q
    · rcases st with ⟨_, _, res, hi⟩ | ⟨j, cc, _, _, res, hi⟩ | ⟨_, _, res, idx, hi⟩
      · rw [q]; exact ⟨_, hi, fun v q => nomatch q⟩
      · rw [q]; exact ⟨_, hi, fun v q => nomatch q⟩
      · rw [q]; exact ⟨_, hi, fun v q => nomatch q⟩
    · rw [q]; exact ⟨_, hp, fun v q => nomatch q⟩
  keep := fun i h h' st k => by
    obtain ⟨us, v, hp, st⟩ := st
    refine ⟨us, v, k tp (by simp) _ hp, ?_⟩
    rcases st with ⟨e, l, res, hi⟩ | ⟨j, cc, e, e2, res, hi⟩ | ⟨l, e, res, idx, hi⟩
    · exact .inl ⟨e, l, res, k it (by simp) _ hi⟩
    · exact .inr (.inl ⟨j, cc, e, e2, res, k it (by simp) _ hi⟩)
    · exact .inr (.inr ⟨l, e, res, idx, k it (by simp) _ hi⟩)
  item := by
    intro X hP hw hK hc i pins s σ H E I hf st hg
    subst hP hw hK
    obtain ⟨us, hv, hp, st⟩ := st
    have lus : us.toArray.size = xs.length := by
      have z := hv.length
      simpa using z.symm
    have hg : i < (combsL xs r).length := hg
    rw [combs_cnt V.non] at hg
    obtain ⟨c, hcm⟩ : ∃ c, (combsL (List.range xs.length) r)[i]? = some c := ⟨_, List.getElem?_eq_getElem hg⟩
    obtain ⟨cl, cr⟩ := comb_lt (List.mem_of_getElem? hcm)
    obtain ⟨st0, res, idx, hit, hnext⟩ : ∃ (st0 : Int) (res : Value) (idx : List Nat), Cmb.IsComb s.heap it tp st0 res idx ∧ ((st0 = 0 ∧ c = idx) ∨ (st0 = 1 ∧ ∀ f, Cmb.StepF f → f us.toArray.size idx = some c)) := by
      rcases st with ⟨rfl, l, res, hi⟩ | ⟨j, cc, rfl, e2, res, hi⟩ | ⟨l, rfl, res, idx, hi⟩
      · refine ⟨0, res, _, hi, .inl ⟨rfl, ?_⟩⟩
        rw [Cmb.comb_first, if_pos l] at hcm
        exact (Option.some.inj hcm).symm
      · refine ⟨1, res, _, hi, .inr ⟨rfl, fun f hf => ?_⟩⟩
        rw [lus, Cmb.step_at hf hn (by
          obtain ⟨s1, l1⟩ := mem_combs.mp (List.mem_of_getElem? e2)
          have y := s1.length_le
          rw [List.length_range] at y
          omega) e2]
        exact hcm
      · rw [combs_none l] at hg
        exact absurd hg (Nat.not_lt_zero _)
    have itl : it < s.heap.objs.size := Heap.lt_size hit
    have tpl : tp < s.heap.objs.size := Heap.lt_size hp
    refine Cmb.next_item hit hp hne (by omega) hnext fun h' hit' hT kp => ⟨_, rfl, ?_⟩
    have hcls : ["enumerate", "zip", "dict_itemiterator", "dict_reverseitemiterator", "odict_iterator", "itertools.zip_longest", "itertools.pairwise"].contains "itertools.combinations" = false := by decide
    refine go_of hit' rfl rfl hcls ?_
    have vv := vals_get hv c cl
    have new : ObjOk X.prog X.w (upd H s.heap.objs.size (.tup (c.map fun i => xs.getD i .non))) h' s.heap.objs.size (.tup (c.map fun i => xs.getD i .non)) :=
      ⟨by rw [List.length_map, sizeLine_eq]; omega, _, vv, ⟨_, hT, rfl, _, rfl⟩⟩
    have I1 : Inv X pins σ (upd H s.heap.objs.size (.tup (c.map fun i => xs.getD i .non))) { s with heap := h' } :=
      I.turnedNew (t' := s.toks) (ch := [it, tp]) (fun b o hb q => kp b o (fun z => hb (by simp [z])) q) hf (Nat.le_refl _) new
    refine ⟨.ref s.heap.objs.size, _, I1, rfl, ⟨_, _, rfl, I.hok.fresh (Nat.le_refl _), rfl, ?_⟩, ⟨us, hv, kp tp _ hne hp, .inr (.inl ⟨i, c, rfl, hcm, _, hit'⟩)⟩, fun b hb => ?_⟩
    · rw [combs_at V.non, List.getElem?_map, hcm]
      rfl
    · have hlt : b < s.heap.objs.size := by
        have e' : b = it ∨ b = tp := by simpa using hb
        rcases e' with q | q
        · rw [q]; exact itl
        · rw [q]; exact tpl
      rw [upd_ne (Nat.ne_of_lt hlt)]
      exact (hf b hb).1
  done := by
    intro X hP hw hK hc i pins s σ H E I hf st hg
    subst hP hw hK
    obtain ⟨us, hv, hp, st⟩ := st
    have lus : us.toArray.size = xs.length := by
      have z := hv.length
      simpa using z.symm
    have hg : i = (combsL xs r).length := hg
    rw [combs_cnt V.non] at hg
    obtain ⟨st0, res, idx, hit, hend⟩ : ∃ (st0 : Int) (res : Value) (idx : List Nat), Cmb.IsComb s.heap it tp st0 res idx ∧ ((st0 = 1 ∧ ∀ f, Cmb.StepF f → f us.toArray.size idx = none) ∨ st0 = 2) := by
      rcases st with ⟨rfl, l, res, hi⟩ | ⟨j, cc, rfl, e2, res, hi⟩ | ⟨l, rfl, res, idx, hi⟩
      · have z := Cmb.comb_first (n := xs.length) (r := r)
        rw [if_pos l, List.getElem?_eq_none (by omega)] at z
        cases z
      · refine ⟨1, res, _, hi, .inl ⟨rfl, fun f hf => ?_⟩⟩
        rw [lus, Cmb.step_at hf hn (by
          obtain ⟨s1, l1⟩ := mem_combs.mp (List.mem_of_getElem? e2)
          have y := s1.length_le
          rw [List.length_range] at y
          omega) e2]
        exact List.getElem?_eq_none (by omega)
      · exact ⟨2, res, idx, hi, .inr rfl⟩
    exact Cmb.next_end (I.ok.hd hc) hit hp hne hend fun h' hk => ⟨rfl, I.turnedL (t' := s.toks) (ch := [it, tp]) (fun c o hb q => hk c o (fun z => hb (by simp [z])) q) hf⟩
  self := fun A i s Q E st h => by
    obtain ⟨us, hv, hp, st⟩ := st
    rcases st with ⟨_, _, res, hi⟩ | ⟨j, cc, _, _, res, hi⟩ | ⟨_, _, res, idx, hi⟩
    · exact Cmb.iter_comb hi h
    · exact Cmb.iter_comb hi h
    · exact Cmb.iter_comb hi h
def iComb (K : PySem.W.Frag) (ta : TA) : TI := fun σ H R => ta σ H fun vs H1 => ∃ a xs, ∃ r : Nat, vs = [.ref a, .int r] ∧ (SqL K H1 a xs ∨ SqT K H1 a xs) ∧ xs.length ≤ 8 ∧ r ≤ 8 ∧ R (ItC xs r) H1
theorem pi_comb {X : Cx} {tg e e2 : Expr} {ta : TA} {p pos : Pos} {x : Str} (hg : Gl X x) (hm : X.mg x = some (.type "itertools.combinations")) (ha : PA X [e, e2] ta) (hdb : (x == ("__debug__" : Str)) = false := by decide)
    (hs : starEach [e, e2] X.env = (false, eval e X.env) :: starEach [e2] X.env := by rfl) (hpl : (backTo pos (starEach [e2] X.env)).any (·.1) = false := by rfl) :
    PI X tg (.Call (.Name x p) [e, e2] [] pos) (iComb X.K ta) := by
  refine ⟨fun pins s σ H R I h => ?_⟩
  refine wpAny_Call_Name_kw (ld_glob I hg hm ?_ hdb)
  refine PyProof.Rows.callWith_type1 (thn (ha.run pos pins s σ H _ I h) fun us s1 ⟨vs, H1, I1, r1, q1⟩ => ?_) hs hpl
  obtain ⟨a, xs, r, ex, hq, hn, hr, q⟩ := q1
  subst ex
  cases r1 with
  | cons ra rr =>
    cases rr with
    | cons rb rr =>
      cases rr
      cases ra
      obtain ⟨t, rfl⟩ := rb
      obtain ⟨T, o, its, n, hT, ho, hc, hd, rv⟩ : ∃ (T : String) (o : Obj) (its : List Value) (n : Nat), (T = "list" ∨ T = "tuple") ∧ s1.heap.get? a = some o ∧ o.cls = .type T ∧ o.data = .seq its.toArray n ∧ Vals xs its := by
        rcases hq with hq | hq
        · obtain ⟨its, rv, p, _⟩ := I1.list hq
          obtain ⟨o, ho, hc, n, hd⟩ := p.isList
          exact ⟨"list", o, its, n, .inl rfl, ho, hc, hd, rv⟩
        · obtain ⟨its, rv, ⟨o, ho, hc, n, hd⟩, _⟩ := I1.tuple hq
          exact ⟨"tuple", o, its, n, .inr rfl, ho, hc, hd, rv⟩
      have lz : its.toArray.size = xs.length := by
        have z := rv.length
        simpa using z.symm
      refine Cmb.call_comb hT ho hc hd (by omega) (by omega) (by omega) fun h' h'' hk hit hpl2 hk2 => Cmb.iter_comb hit ?_
      rw [lz, Int.toNat_natCast] at hit
      have I2 : Inv X pins σ H1 { s1 with heap := h' } := I1.kept (t' := s1.toks) hk
      have I3 : Inv X pins σ H1 { s1 with heap := h'' } := I2.kept (t' := s1.toks) hk2
      refine ⟨h'.objs.size + 1, [h'.objs.size + 1, h'.objs.size], _, _, H1, rfl, I3, turn_comb (Nat.ne_of_lt (Nat.lt_succ_self _)) hn hr, ⟨its, rv, hpl2, ?_⟩, fun c hcm => ?_, q⟩
      · by_cases c : r > xs.length
        · rw [if_pos c] at hit
          exact .inr (.inr ⟨c, rfl, _, _, hit⟩)
        · rw [if_neg c] at hit
          exact .inl ⟨rfl, by omega, _, hit⟩
      · have e' : c = h'.objs.size + 1 ∨ c = h'.objs.size := by simpa using hcm
        have hle : h'.objs.size ≤ c := by
          rcases e' with z | z
          · rw [z]; exact Nat.le_add_right _ _
          · rw [z]; exact Nat.le_refl _
        exact I2.fpOk hle (I2.hok.fresh hle)
theorem walk_comb {xs : List V} {r : Nat} : Walk (ItC xs r) (combsL xs r).length (fun _ => True) (fun i H v H' => ∃ T c, v = .ref T ∧ H T = none ∧ H' = upd H T (.tup c) ∧ (combsL xs r)[i]? = some c) :=
  ⟨fun _ _ hi _ => hi, fun _ _ => rfl, fun _ _ _ _ _ _ y => y⟩
end L2
-- part VAsc
set_option maxHeartbeats 8000000
/-! is_ascending. -/
namespace Kn
open PySem PySem.Spec PyProof.Rows L2 La
abbrev sAsc : Stmt := topS 31
abbrev NAs : List Str := ["seats", "seat", "one", "other"]
theorem scAs : FnScope NAs ["seats"] (defScope sAsc) := ⟨rfl, rfl, rfl, by decide +kernel, rfl, by decide +kernel, by decide +kernel⟩
def intW : W → Int
  | .int n => n
  | _ => 0
def ascB (l : List Int) : Bool := (List.zipWith (fun a b => decide (a < b)) l l.tail).all id
def ascW (ws : List W) : Bool := ws.all (withinW 1 9) && ascB (ws.map intW)
theorem within_int {a b : Int} {w : W} (h : withinW a b w = true) : w = .int (intW w) ∧ a ≤ intW w ∧ intW w ≤ b := by
  cases w with
  | int n =>
    have z : (decide (a ≤ n) && decide (n ≤ b)) = true := h
    rw [Bool.and_eq_true] at z
    exact ⟨rfl, of_decide_eq_true z.1, of_decide_eq_true z.2⟩
  | _ => cases h
def spAsc : Sp := fun vs H Q _ => ∃ a xs ws, vs = [.ref a] ∧ Rd H a (.tup xs) ∧ IsAll H xs ws ∧ xs.length ≤ 900 ∧ ∀ H', Same H H' → Q (.bl (ascW ws)) H'
theorem vI_of {H : Hp} : ∀ {xs : List V} {ws : List W}, IsAll H xs ws → ws.all (withinW 1 9) = true → xs = vI (ws.map intW)
  | _, _, .nil, _ => rfl
  | _, _, .cons h t, e => by
    rw [List.all_cons, Bool.and_eq_true] at e
    have z := (within_int e.1).1
    rw [z] at h
    cases h with
    | int i =>
      show _ :: _ = _ :: _
      rw [vI_of t e.2]
section
variable {P : Program} {w : World} {K : PySem.W.Frag} {mg : Str → Option Value} {base : Heap}
theorem ok_asc {f f1 : Addr} {fd fd1 : FuncData} (F : Fun K "is_ascending" "is_ascending" sAsc f fd) (G1 : FnOk P w K mg base CX0 3 f1 fd1 ["value"] spSeat) (k1 : PySem.W.keepIn K (.ref f1) = true) (b1 : Binds K fd1 ["value"] []) (g1 : mg "is_seat" = some (.ref f1)) (ma : mg "all" = none) (mz : mg "zip" = none) : FnOk P w K mg base CX0 4 f fd ["seats"] spAsc := by
  have S := scAs
  refine F.ok S (fun vs H Q E h => ?_) (fun cdv A outer s H vs Q E hr h => ?_)
  · obtain ⟨a, xs, ws, rfl, _⟩ := h
    rfl
  · obtain ⟨a, xs, ws, rfl, ha, hx, x9, q⟩ := h
    refine ⟨_, pss_one (ps_ret (pe_and (pe_callB (cr_all (by rfl)) (by rfl) ma (by decide +kernel) (pa_cons (pe_lc (own := [("seat", 1)]) (g := gName 1) rfl S.nd (pi_tup (pv 0)) (blkOk_by (N := NAs) (sc := defScope sAsc) (by decide +kernel)) (fun _ _ _ _ _ => pg_name (i := 1) S.nd rfl (.inl rfl)) (fun _ _ _ _ _ => pts_nil) (fun _ _ _ _ _ => pe_call G1 hr (by rfl) g1 k1 b1 .nil pass0 (pa_cons (pv 1) pa_nil))) pa_nil))
      (pe_one (pe_callB (cr_all (by rfl)) (by rfl) ma (by decide +kernel) (pa_cons (pe_lc (own := [("one", 2), ("other", 3)]) (g := gTup K 2 (gCons (gName 2) (gCons (gName 3) gNil))) rfl S.nd (RZ.pi_zipA (by rfl) mz (pa_cons (pv 0) (pa_cons (pe_slice (show L2.SlR _ (rSlA K) from sl_tupA) (pv 0) (po_some pe_int) po_none) pa_nil))) (blkOk_by (N := NAs) (sc := defScope sAsc) (by decide +kernel)) (fun _ _ _ _ _ => (pg_tup rfl (pgs_cons (pg_name (i := 2) S.nd rfl (.inl rfl)) (pgs_cons (pg_name (i := 3) S.nd rfl (.inl rfl)) pgs_nil)))) (fun _ _ _ _ _ => pts_nil) (fun _ _ _ _ _ => (pe_cmp (pc_lt (pv 2) (pv 3))))) pa_nil))))), ?_⟩
    have lx : ws.length = xs.length := hx.len.symm
    have wk : Walk (Itt K a) xs.length (fun H' => Same H H') (YAt xs) := walk_tup.mono (fun H' s => .inl (Rd.same ha s)) (fun _ _ _ _ _ _ y => y)
    refine ⟨_, rfl, a, rfl, ⟨xs, .inl ha⟩, fun D nD => lc_it (D := D) wk (PB H D (ws.map (withinW 1 9))) (PB.zero nD) (fun _ _ _ p => p.1) ?_ ?_⟩
    · rintro i x H3 H4 hi pb ⟨rfl, hx2⟩
      obtain ⟨wi, hwi, his⟩ := hx.get hx2
      refine ⟨rfl, ?_⟩
      dsimp only [tYes]
      rw [if_pos rfl]
      exact ⟨_, rfl, x, wi, rfl, his.same pb.1, pb.step (Same.refl _) nD (by omega) (by rw [List.getElem?_map, hwi]; rfl)⟩
    · intro H1 pb
      have hl : (ws.map (withinW 1 9)).length = xs.length := by rw [List.length_map, lx]
      rw [← hl] at pb
      refine ⟨D, _, rfl, SqL.of pb.all, ?_⟩
      have e1 : (ws.map (withinW 1 9)).all id = ws.all (withinW 1 9) := by rw [List.all_map]; rfl
      rw [e1]
      have ev : ascW ws = (ws.all (withinW 1 9) && ascB (ws.map intW)) := rfl
      cases en : ws.all (withinW 1 9) with
      | false =>
        rw [en] at ev
        have z := q H1 pb.1
        rw [ev, Bool.false_and] at z
        exact ⟨_, rfl, iteF z⟩
      | true =>
        rw [en, Bool.true_and] at ev
        have exs := vI_of hx en
        have lw : (ws.map intW).length = xs.length := by rw [List.length_map, lx]
        generalize ws.map intW = l at exs ev lw
        subst exs
        have ha1 := Rd.same ha pb.1
        refine ⟨_, rfl, iteT ?_⟩
        dsimp only [tCB, tCons, tNil, List.map]
        have lt : l.tail.length = l.length - 1 := List.length_tail
        refine wf_lcH (bs := (List.zipWith (fun a b => decide (a < b)) l l.tail).map some) (H := H1) (n := min l.length l.tail.length) (Y := YPair (fun i => (vI l)[i]?) (fun i => (vI l.tail)[i]?)) (fun _ y b => y = V.bl b) (fun _ _ _ _ _ e => e) (fun R hR => ?_) ?_ (by omega) (fun k x H2 H3 bb hb s2 y Dl hDl nDl R Z hRR hZ => ?_) fun p ys H2 s2 np ep hp => ?_
        · have mk : ∀ (b : Addr) (H2 : Hp), Same H1 H2 → SqT K H2 b (vI l.tail) → (∀ H3, Same H2 H3 → SqT K H3 b (vI l.tail)) → R (RZ.ItzT K a b) H2 := fun b H2 s2 h2 h3 => hR _ _ H2 s2 (walk_zipT (by rw [List.length_map, List.length_map])) fun H3 s3 => ⟨.inl (Rd.same (Rd.same ha1 s2) s3), h3 H3 s3⟩
          refine ⟨_, rfl, _, rfl, 1, rfl, a, vI l, rfl, .inl ha1, fun hw => ?_, fun hw p np => ?_⟩
          · have l0 : l = [] := by
              cases l with
              | nil => rfl
              | cons a l =>
                have z := hw.1
                rw [show ((1 : Int)) = ((1 : Nat) : Int) from rfl, HT.sIx_nat, List.length_map, List.length_cons] at z
                omega
            subst l0
            exact ⟨a, a, _, _, rfl, .inr ⟨.inl ha1, .inl ha1, mk a H1 (Same.refl _) (.inl ha1) fun H3 s3 => .inl (Rd.same ha1 s3)⟩⟩
          · have l0 : 0 < (vI l).length := by
              rcases Nat.eq_zero_or_pos (vI l).length with z | z
              · exact absurd ⟨by rw [z]; rfl, rfl⟩ hw
              · exact z
            have ec : cutV (vI l) (some 1) none = vI l.tail := by
              have e1 : HT.sIx (vI l).length 0 (some 1) = 1 := by
                have z := HT.sIx_nat (vI l).length 0 1
                rw [show ((1 : Nat) : Int) = 1 from rfl] at z
                omega
              have e2 : HT.sIx (vI l).length (vI l).length none = (vI l).length := rfl
              unfold cutV
              rw [e1, e2, List.take_of_length_le (by rw [List.length_drop]; omega), List.drop_one]
              exact List.map_tail.symm
            rw [ec]
            refine ⟨a, p, _, _, rfl, .inr ⟨.inl (Rd.same ha1 (same_new np)), SqT.of upd_same, mk p _ (same_new np) (SqT.of upd_same) fun H3 s3 => SqT.of (s3 _ _ upd_same)⟩⟩
        · rw [List.length_map, List.length_zipWith]
        · obtain ⟨T, u, v, rfl, nT, rfl, e1, e2⟩ := y
          rw [List.getElem?_map] at hb
          obtain ⟨bv, hbv, rfl⟩ := Option.map_eq_some_iff.mp hb
          have e1 : (vI l)[k]? = some u := e1
          have e2 : (vI l.tail)[k]? = some v := e2
          rw [List.getElem?_map] at e1 e2
          obtain ⟨n1, h1, rfl⟩ := Option.map_eq_some_iff.mp e1
          obtain ⟨n2, h2, rfl⟩ := Option.map_eq_some_iff.mp e2
          rw [List.getElem?_zipWith, h1, h2] at hbv
          cases hbv
          refine ⟨T, _, rfl, SqT.of upd_same, rfl, _, _, rfl, _, _, rfl, rfl, rfl, ?_⟩
          dsimp only [tYes]
          rw [if_pos rfl]
          exact ⟨_, rfl, _, rfl, n1, n2, rfl, rfl, hRR _ _ _ rfl (same_new nT) rfl⟩
        · rw [List.filterMap_map, show (id ∘ some : Bool → Option Bool) = some from rfl, List.filterMap_some] at hp
          have ey : ys = (List.zipWith (fun a b => decide (a < b)) l l.tail).map V.bl := by
            clear ep
            generalize List.zipWith (fun a b => decide (a < b)) l l.tail = B at hp
            induction hp with
            | nil => rfl
            | cons e _ ih => rw [e, ih]; rfl
          rw [ey] at ep
          refine ⟨p, _, rfl, SqL.of ep, ?_⟩
          have z := q H2 (pb.1.trans s2)
          rw [ev] at z
          exact z
end
end Kn
-- part TOf
set_option maxHeartbeats 4000000
/-! check_tuples, check_count, checks_of. -/
namespace Kn
open PySem PySem.Spec PyProof.Rows L2 Err
abbrev sCheckC : Stmt := topS 29
theorem scCC : FnScope ["count", "most"] ["count", "most"] (defScope sCheckC) := ⟨rfl, rfl, rfl, by decide +kernel, rfl, by decide +kernel, by decide +kernel⟩
def spCheckC (CC : Addr) : Sp := fun vs H Q E => ∃ v w, ∃ n : Int, vs = [v, .int n] ∧ Is H v w ∧ ((withinW 0 n w = false ∧ E (.ref CC) none H) ∨ (withinW 0 n w = true ∧ Q .non H))
section
variable {P : Program} {w : World} {K : PySem.W.Frag} {mg : Str → Option Value} {base : Heap}
theorem ok_cc {f f1 CS CC : Addr} {fd fd1 : FuncData} (F : Fun K "check_count" "check_count" sCheckC f fd) (G1 : FnOk P w K mg base CX0 2 f1 fd1 ["value", "least", "greatest"] spWithin) (k1 : PySem.W.keepIn K (.ref f1) = true) (b1 : Binds K fd1 ["value", "least", "greatest"] []) (g1 : mg "is_within" = some (.ref f1))
    (T : EC K mg CS "BadCount" CC) : FnOk P w K mg base (L2.CX P w) 3 f fd ["count", "most"] (spCheckC CC) := by
  have S := scCC
  refine F.okX S (fun vs H Q E h => ?_) (fun cdv A outer s H vs Q E hr h => ?_)
  · obtain ⟨v, u, n, rfl, _⟩ := h
    rfl
  · obtain ⟨v, u, n, rfl, hv, h⟩ := h
    have tk : Takes (cxOf (L2.CX P w) P w K mg base ["count", "most"] "check_count" (defScope sCheckC) f cdv A outer s H E) (fun cls d _ H => E cls d H) := takes_of rfl rfl rfl rfl
    refine ⟨_, pss_one (ps_if (pt_not (pt_val (pe_call G1 hr (by rfl) g1 k1 b1 .nil pass0 (pa_cons (pv 0) (pa_cons pe_int (pa_cons (pv 1) pa_nil)))))) (pss_one (ps_raise rfl tk (SkE.pmk_own1 PySem.F.excBase_ValueError T.ex T.glob T.kp (raises_own T.sb T.ty) (by rfl) pe_str))) pss_nil), ?_⟩
    refine ⟨_, rfl, _, rfl, v, u, 0, n, rfl, hv, _, rfl, ?_⟩
    rcases h with ⟨e, h⟩ | ⟨e, h⟩
    · rw [e]
      exact iteT h
    · rw [e]
      exact iteF h
end
end Kn
-- part VChk
set_option maxHeartbeats 8000000
/-! check_seats_and_width, check_scheme. -/
namespace Kn
open PySem PySem.Spec PyProof.Rows L2 La Err
abbrev sCsw : Stmt := topS 30
abbrev sCs : Stmt := topS 32
abbrev NCw : List Str := ["seats", "width"]
abbrev NCs : List Str := ["seats", "width", "scheme", "silent", "shares"]
theorem scCw : FnScope NCw ["seats", "width"] (defScope sCsw) := ⟨rfl, rfl, rfl, by decide +kernel, rfl, by decide +kernel, by decide +kernel⟩
theorem scCs : FnScope NCs ["seats", "width", "scheme", "silent"] (defScope sCs) := ⟨rfl, rfl, rfl, by decide +kernel, rfl, by decide +kernel, by decide +kernel⟩
/-- from 1 to 8 seats, ascending -/
def seatsW : W → Bool
  | .tup ws => decide ((1 : Int) ≤ (ws.length : Int)) && (decide ((ws.length : Int) ≤ 8) && ascW ws)
  | _ => false
def spCsw (CS CW : Addr) : Sp := fun vs H Q E => ∃ v u wv wu, vs = [v, u] ∧ Is H v wv ∧ Is H u wu ∧
  ((seatsW wv = false ∧ ∀ H', Same H H' → E (.ref CS) none H') ∨ (seatsW wv = true ∧ withinW 1 6 wu = false ∧ ∀ H', Same H H' → E (.ref CW) none H') ∨ (seatsW wv = true ∧ withinW 1 6 wu = true ∧ ∀ H', Same H H' → Q .non H'))
/-- rows of n numbers each, 24 at most -/
def schW (n : Int) : W → Bool
  | .lst ws => decide ((ws.length : Int) ≤ 24) && ws.all (numsW n)
  | .tup ws => decide ((ws.length : Int) ≤ 24) && ws.all (numsW n)
  | _ => false
def lenT : W → Int
  | .tup ws => ws.length
  | _ => 0
def spCs (CS CW CB CC : Addr) : Sp := fun vs H Q E => ∃ v u x y wv wu wx wy, vs = [v, u, x, y] ∧ Is H v wv ∧ Is H u wu ∧ Is H x wx ∧ Is H y wy ∧
  ((seatsW wv = false ∧ ∀ H', Same H H' → E (.ref CS) none H') ∨ (seatsW wv = true ∧ withinW 1 6 wu = false ∧ ∀ H', Same H H' → E (.ref CW) none H') ∨
   (seatsW wv = true ∧ withinW 1 6 wu = true ∧ schW (lenT wv * intW wu) wx = false ∧ ∀ H', Same H H' → E (.ref CB) none H') ∨
   (seatsW wv = true ∧ withinW 1 6 wu = true ∧ schW (lenT wv * intW wu) wx = true ∧ withinW 0 (lenT wv) wy = false ∧ ∀ H', Same H H' → E (.ref CC) none H') ∨
   (seatsW wv = true ∧ withinW 1 6 wu = true ∧ schW (lenT wv * intW wu) wx = true ∧ withinW 0 (lenT wv) wy = true ∧ ∀ H', Same H H' → Q .non H'))
section
variable {P : Program} {w : World} {K : PySem.W.Frag} {mg : Str → Option Value} {base : Heap}
theorem ok_csw {f fA fW CB CS CW : Addr} {fd fdA fdW : FuncData} (F : Fun K "check_seats_and_width" "check_seats_and_width" sCsw f fd) (GA : FnOk P w K mg base CX0 4 fA fdA ["seats"] spAsc) (kA : PySem.W.keepIn K (.ref fA) = true) (bA : Binds K fdA ["seats"] []) (gA : mg "is_ascending" = some (.ref fA))
    (GW : FnOk P w K mg base CX0 2 fW fdW ["value", "least", "greatest"] spWithin) (kW : PySem.W.keepIn K (.ref fW) = true) (bW : Binds K fdW ["value", "least", "greatest"] []) (gW : mg "is_within" = some (.ref fW))
    (TS : EC K mg CB "BadSeats" CS) (TW : EC K mg CB "BadWidth" CW) (m8 : ∃ u, mg "MOST_SEATS" = some u ∧ RelV (.int 8) u) (m6 : ∃ u, mg "WIDEST_WORKER" = some u ∧ RelV (.int 6) u)
    (mi : mg "isinstance" = none) (m1 : mg "tuple" = none) (mn : mg "len" = none) : FnOk P w K mg base (L2.CX P w) 5 f fd ["seats", "width"] (spCsw CS CW) := by
  have S := scCw
  refine F.okX S (fun vs H Q E h => ?_) (fun cdv A outer s H vs Q E hr h => ?_)
  · obtain ⟨v, u, wv, wu, rfl, _⟩ := h
    rfl
  · obtain ⟨v, u, wv, wu, rfl, hv, hu, h⟩ := h
    have hr2 := hr.mono (show 2 ≤ 4 by decide)
    have tk : Takes (cxOf (L2.CX P w) P w K mg base NCw "check_seats_and_width" (defScope sCsw) f cdv A outer s H E) (fun cls d _ H => E cls d H) := takes_of rfl rfl rfl rfl
    refine ⟨_, (pss_cons (ps_if (PW.pt (pw_or (pt_not (pt_val (pe_callB call_isi (by rfl) mi PyProof.Rows.boot_isinstance (pa_cons (pv 0) (pa_cons (pe_bltn (v := .ty "tuple") (by rfl) m1 (by decide +kernel) rfl) pa_nil))))) (pw_or (pt_not (pt_chain op_le op_le pe_int (pe_callB (show CallR _ (.builtin "len") (rLenS K) from call_len_seq) (by rfl) mn PySem.boot_len (pa_cons (pv 0) pa_nil)) (pe_known (by rfl) m8))) (pw_or1 (pt_not (pt_val (pe_call GA hr (by rfl) gA kA bA .nil pass0 (pa_cons (pv 0) pa_nil)))))))) (pss_one (ps_raise rfl tk (SkE.pmk_own1 PySem.F.excBase_ValueError TS.ex TS.glob TS.kp (raises_own TS.sb TS.ty) (by rfl) pe_str))) pss_nil)
      (pss_one (ps_if (pt_not (pt_val (pe_call GW hr2 (by rfl) gW kW bW .nil pass0 (pa_cons (pv 1) (pa_cons pe_int (pa_cons (pe_known (by rfl) m6) pa_nil)))))) (pss_one (ps_raise rfl tk (SkE.pmk_own1 PySem.F.excBase_ValueError TW.ex TW.glob TW.kp (raises_own TW.sb TW.ty) (by rfl) pe_str))) pss_nil))), ?_⟩
    refine ⟨_, rfl, v, .ty "tuple", .type (tyN wv), .type "tuple", isTy "tuple" wv, rfl, .ty _, hv.ty, Is.kit (by decide), _, rfl, ?_⟩
    -- what is left behind the seats
    have bad : seatsW wv = false → ∀ H', Same H H' → E (.ref CS) none H' := fun e => by
      rcases h with ⟨_, h⟩ | ⟨e1, _⟩ | ⟨e1, _⟩
      · exact h
      · rw [e] at e1; cases e1
      · rw [e] at e1; cases e1
    cases hv with
    | @tup a xs ws hz e t =>
      have e1 : isTy "tuple" (.tup ws) = true := by kernel_rfl
      have lx : xs.length = ws.length := t.len
      have ev : seatsW (.tup ws) = (decide ((1 : Int) ≤ (ws.length : Int)) && (decide ((ws.length : Int) ≤ 8) && ascW ws)) := rfl
      rw [e1]
      refine iteF ⟨_, rfl, a, xs, rfl, .inr (.inl e), _, _, rfl, rfl, _, rfl, ?_⟩
      rw [lx]
      cases c1 : decide ((1 : Int) ≤ (ws.length : Int)) with
      | false => exact iteF ⟨_, rfl, iteT (bad (by rw [ev, c1]; rfl) _ (Same.refl _))⟩
      | true =>
        refine iteT ⟨_, _, rfl, rfl, _, rfl, ?_⟩
        cases c2 : decide ((ws.length : Int) ≤ 8) with
        | false => exact iteT (bad (by rw [ev, c1, c2]; rfl) _ (Same.refl _))
        | true =>
          rw [c1, c2, Bool.true_and, Bool.true_and] at ev
          refine iteF ⟨_, rfl, a, xs, ws, rfl, e, t, by omega, fun H1 s1 => ⟨_, rfl, ?_⟩⟩
          cases c3 : ascW ws with
          | false => exact iteT (bad (by rw [ev, c3]) H1 s1)
          | true =>
            rw [c3] at ev
            refine iteF ⟨_, rfl, u, wu, 1, 6, rfl, hu.same s1, _, rfl, ?_⟩
            rcases h with ⟨e5, _⟩ | ⟨_, e6, h⟩ | ⟨_, e6, h⟩
            · rw [ev] at e5; cases e5
            · rw [e6]
              exact iteT (h H1 s1)
            · rw [e6]
              exact iteF (h H1 s1)
    | _ => exact iteT (bad rfl _ (Same.refl _))
theorem isSeq_cases {H : Hp} {x : V} {wx : W} (h : Is H x wx) : (isSeq wx = false ∧ ∀ n, schW n wx = false) ∨ ∃ a xs ws, x = .ref a ∧ (H a = some (.lst xs) ∨ Rd H a (.tup xs)) ∧ IsAll H xs ws ∧ xs.length ≤ 900 ∧ isSeq wx = true ∧ ∀ n, schW n wx = (decide ((ws.length : Int) ≤ 24) && ws.all (numsW n)) := by
  cases h with
  | @lst a xs ws hz e t => exact .inr ⟨a, xs, ws, rfl, .inl e, t, hz, by kernel_rfl, fun _ => rfl⟩
  | @tup a xs ws hz e t => exact .inr ⟨a, xs, ws, rfl, .inr e, t, hz, by kernel_rfl, fun _ => rfl⟩
  | non => exact .inl ⟨by kernel_rfl, fun _ => rfl⟩
  | bl b => exact .inl ⟨by kernel_rfl, fun _ => rfl⟩
  | int i => exact .inl ⟨by kernel_rfl, fun _ => rfl⟩
  | str x _ _ => exact .inl ⟨by kernel_rfl, fun _ => rfl⟩
  | dct _ _ _ => exact .inl ⟨by kernel_rfl, fun _ => rfl⟩
/-- all of a list or a tuple, by a promise -/
theorem all_seq {K : PySem.W.Frag} {σ : L2.St} {H : Hp} {Q : List V → Hp → Prop} {a : Addr} {xs : List V} {ws : List W} {j n : Nat} {te : TE} (f : W → Bool) (h0 : σ[j]? = some (some (.ref a))) (h : H a = some (.lst xs) ∨ Rd H a (.tup xs)) (hx : IsAll H xs ws) (x9 : xs.length ≤ 900)
    (ht : ∀ x w H2, IsAll H xs ws → Same H H2 → Is H2 x w → ∀ R : VK, (∀ H3, Same H2 H3 → R (.bl (f w)) H3) → te ((wipe σ [n]).set n (some x)) H2 R)
    (q : ∀ p H', Same H H' → SqL K H' p ((ws.map f).map V.bl) → Q [.ref p] H') : tCons (tLc (fun σ H R => iList K (tVar j) σ H R ∨ iTup K (tVar j) σ H R) (gName n) tYes te [n]) tNil σ H Q := by
  have lx : ws.length = xs.length := hx.len.symm
  refine seq_wf (bs := (ws.map f).map some) h0 h (fun _ y b => y = V.bl b) (fun _ _ _ _ _ e => e) (by rw [List.length_map, List.length_map, lx]) x9 (fun k x H2 H3 bb hb s2 y Dl hDl nDl R Z hRR hZ => ?_) fun p ys H2 s2 np ep hp => ?_
  · obtain ⟨rfl, hx2⟩ := y
    obtain ⟨wi, hwi, his⟩ := hx.get hx2
    rw [List.getElem?_map, List.getElem?_map, hwi] at hb
    cases hb
    refine ⟨wipe1 _ _ _, ?_⟩
    dsimp only [tYes]
    rw [if_pos rfl]
    exact ht x wi _ hx s2 (his.same s2) R fun H4 s4 => hRR _ _ _ rfl s4 rfl
  · rw [List.filterMap_map, show (id ∘ some : Bool → Option Bool) = some from rfl, List.filterMap_some] at hp
    have ey : ys = (ws.map f).map V.bl := by
      clear ep
      generalize ws.map f = B at hp
      induction hp with
      | nil => rfl
      | cons e _ ih => rw [e, ih]; rfl
    rw [ey] at ep
    exact q p H2 s2 (SqL.of ep)
theorem ok_cs {f fC fL fN fK CB CS CW CM CC : Addr} {fd fdC fdL fdN fdK : FuncData} (F : Fun K "check_scheme" "check_scheme" sCs f fd) (GC : FnOk P w K mg base (L2.CX P w) 5 fC fdC ["seats", "width"] (spCsw CS CW)) (kC : PySem.W.keepIn K (.ref fC) = true) (bC : Binds K fdC ["seats", "width"] []) (gC : mg "check_seats_and_width" = some (.ref fC))
    (GL : FnOk P w K mg base CX0 1 fL fdL ["value"] (fun vs H Q _ => ∃ v w, vs = [v] ∧ Is H v w ∧ ∀ H', Same H H' → Q (.bl (isSeq w)) H')) (kL : PySem.W.keepIn K (.ref fL) = true) (bL : Binds K fdL ["value"] []) (gL : mg "is_list" = some (.ref fL))
    (GN : FnOk P w K mg base CX0 2 fN fdN ["value", "many"] spNums) (kN : PySem.W.keepIn K (.ref fN) = true) (bN : Binds K fdN ["value", "many"] []) (gN : mg "are_numbers" = some (.ref fN))
    (GK : FnOk P w K mg base (L2.CX P w) 3 fK fdK ["count", "most"] (spCheckC CC)) (kK : PySem.W.keepIn K (.ref fK) = true) (bK : Binds K fdK ["count", "most"] []) (gK : mg "check_count" = some (.ref fK))
    (TB : EC K mg CB "BadScheme" CM) (m24 : ∃ u, mg "LONGEST_SCHEME" = some u ∧ RelV (.int 24) u) (mn : mg "len" = none) (ma : mg "all" = none) : FnOk P w K mg base (L2.CX P w) 6 f fd ["seats", "width", "scheme", "silent"] (spCs CS CW CM CC) := by
  have S := scCs
  refine F.okX S (fun vs H Q E h => ?_) (fun cdv A outer s H vs Q E hr h => ?_)
  · obtain ⟨v, u, x, y, wv, wu, wx, wy, rfl, _⟩ := h
    rfl
  · obtain ⟨v, u, x, y, wv, wu, wx, wy, rfl, hv, hu, hx, hy, h⟩ := h
    have hr1 := hr.mono (show 1 ≤ 5 by decide)
    have hr2 := hr.mono (show 2 ≤ 5 by decide)
    have hr3 := hr.mono (show 3 ≤ 5 by decide)
    have tk : Takes (cxOf (L2.CX P w) P w K mg base NCs "check_scheme" (defScope sCs) f cdv A outer s H E) (fun cls d _ H => E cls d H) := takes_of rfl rfl rfl rfl
    refine ⟨_, (pss_cons (ps_expr (pe_call GC hr (by rfl) gC kC bC .nil (passes_call tk fun _ _ _ _ h => h) (pa_cons (pv 0) (pa_cons (pv 1) pa_nil))))
      (pss_cons (ps_if (PW.pt (pw_or (pt_not (pt_val (pe_call GL hr1 (by rfl) gL kL bL .nil pass0 (pa_cons (pv 2) pa_nil)))) (pw_or1 (pt_cmpR op_gt (pe_callB (show CallR _ (.builtin "len") (rLenS K) from call_len_seq) (by rfl) mn PySem.boot_len (pa_cons (pv 2) pa_nil)) (pe_known (by rfl) m24) (nomark _))))) (pss_one (ps_raise rfl tk (SkE.pmk_own1 PySem.F.excBase_ValueError TB.ex TB.glob TB.kp (raises_own TB.sb TB.ty) (by rfl) pe_str))) pss_nil)
      (pss_cons (ps_if (pt_not (pt_val (pe_callB (cr_all (by rfl)) (by rfl) ma (by decide +kernel) (pa_cons (pe_lc (own := [("shares", 4)]) (g := gName 4) rfl S.nd (pi_both (pi_list (pv 2)) (pi_tup (pv 2))) (blkOk_by (N := NCs) (sc := defScope sCs) (by decide +kernel)) (fun _ _ _ _ _ => (pg_name (i := 4) S.nd rfl (.inl rfl))) (fun _ _ _ _ _ => pts_nil) (fun _ _ _ _ _ => (pe_call GN hr2 (by rfl) gN kN bN .nil pass0 (pa_cons (pv 4) (pa_cons (pe_op op_mulW (pe_callB (show CallR _ (.builtin "len") (rLenS K) from call_len_seq) (by rfl) mn PySem.boot_len (pa_cons (pv 0) pa_nil)) (pv 1)) pa_nil))))) pa_nil)))) (pss_one (ps_raise rfl tk (SkE.pmk_own1 PySem.F.excBase_ValueError TB.ex TB.glob TB.kp (raises_own TB.sb TB.ty) (by rfl) pe_str))) pss_nil)
      (pss_one (ps_expr (pe_call GK hr3 (by rfl) gK kK bK .nil (passes_call tk fun _ _ _ _ h => h) (pa_cons (pv 3) (pa_cons (pe_callB (show CallR _ (.builtin "len") (rLenS K) from call_len_seq) (by rfl) mn PySem.boot_len (pa_cons (pv 0) pa_nil)) pa_nil)))))))), ?_⟩
    refine ⟨_, rfl, _, rfl, v, u, wv, wu, rfl, hv, hu, ?_⟩
    rcases h with ⟨e, h⟩ | ⟨e1, e2, h⟩ | h
    · exact .inl ⟨e, h⟩
    · exact .inr (.inl ⟨e1, e2, h⟩)
    have e12 : seatsW wv = true ∧ withinW 1 6 wu = true := by
      rcases h with ⟨e1, e2, _⟩ | ⟨e1, e2, _⟩ | ⟨e1, e2, _⟩ <;> exact ⟨e1, e2⟩
    refine .inr (.inr ⟨e12.1, e12.2, fun H1 s1 => ?_⟩)
    obtain ⟨ws, rfl⟩ : ∃ ws, wv = .tup ws := by
      cases wv with
      | tup ws => exact ⟨ws, rfl⟩
      | _ => cases e12.1
    obtain ⟨ew, w1, w2⟩ := within_int e12.2
    rw [ew] at hu h
    generalize intW wu = n at hu h w1 w2
    change _ ∨ _ ∨ _ at h
    have l8 : (ws.length : Int) ≤ 8 := by
      have z : (decide ((1 : Int) ≤ (ws.length : Int)) && (decide ((ws.length : Int) ≤ 8) && ascW ws)) = true := e12.1
      rw [Bool.and_eq_true, Bool.and_eq_true] at z
      exact of_decide_eq_true z.2.1
    cases hv with
    | @tup sa sxs _ sz se st =>
    have lsx : sxs.length = ws.length := st.len
    cases hu with
    | int _ =>
    have badM : schW ((ws.length : Int) * n) wx = false → ∀ H', Same H H' → E (.ref CM) none H' := fun e => by
      rcases h with ⟨_, _, _, h⟩ | ⟨_, _, e1, _⟩ | ⟨_, _, e1, _⟩
      · exact h
      · exact absurd (e1.symm.trans (show schW (lenT (.tup ws) * n) wx = false from e)) (by decide)
      · exact absurd (e1.symm.trans (show schW (lenT (.tup ws) * n) wx = false from e)) (by decide)
    have hx1 := hx.same s1
    refine ⟨_, rfl, x, wx, rfl, hx1, fun H2 s2 => ⟨_, rfl, ?_⟩⟩
    have s12 := s1.trans s2
    rcases isSeq_cases (hx.same s12) with ⟨q1, q2⟩ | ⟨a, xs, xws, rfl, ha, hall, x9, q1, q2⟩
    · rw [q1]
      exact iteT (badM (q2 _) _ s12)
    · rw [q1]
      have lx : xs.length = xws.length := hall.len
      refine iteF ⟨_, rfl, a, xs, rfl, ha.imp SqL.of .inl, _, _, rfl, rfl, _, rfl, ?_⟩
      rw [lx]
      by_cases c : (xws.length : Int) ≤ 24
      · rw [decide_eq_false (by omega)]
        refine iteF ?_
        dsimp only [tNext, tSeq, tIfS, tNot, tB, tCB, List.map]
        refine all_seq (j := 2) (numsW ((ws.length : Int) * n)) rfl ha hall x9 (fun z wz H3 _ s3 hz R hR => ⟨_, rfl, _, rfl, sa, sxs, rfl, .inr (.inl (Rd.same (Rd.same se s12) s3)), _, rfl, _, _, rfl, rfl, wide_mul (a := 10) (b := 10) (by rw [Int.natAbs_natCast]; omega) (by omega) (by decide) (by decide) (by decide), z, wz, _, rfl, hz, ?_⟩) fun p H3 s3 hp => ?_
        · rw [lsx]
          exact fun H4 s4 => hR H4 s4
        · have s13 := s12.trans s3
          have lw : lenT (.tup ws) = ws.length := rfl
          have sv : ∀ b, xws.all (numsW ((ws.length : Int) * n)) = b → schW (lenT (.tup ws) * n) wx = b := fun b e => by
            rw [lw, q2, decide_eq_true c, e]
            rfl
          refine ⟨p, _, rfl, hp, _, rfl, ?_⟩
          rw [show ((xws.map (numsW ((ws.length : Int) * n))).all id) = xws.all (numsW ((ws.length : Int) * n)) by rw [List.all_map]; rfl]
          cases e : xws.all (numsW ((ws.length : Int) * n)) with
          | false => exact iteT (badM (sv _ e) H3 s13)
          | true =>
            refine iteF ⟨_, rfl, _, rfl, sa, sxs, rfl, .inr (.inl (Rd.same se s13)), y, wy, ws.length, (by rw [lsx]; rfl), hy.same s13, ?_⟩
            rcases h with ⟨_, _, e1, _⟩ | ⟨_, _, _, e2, h⟩ | ⟨_, _, _, e2, h⟩
            · exact absurd (e1.symm.trans (sv _ e)) (by decide)
            · exact .inl ⟨e2, h H3 s13⟩
            · exact .inr ⟨e2, h H3 s13⟩
      · rw [decide_eq_true (by omega)]
        exact iteT (badM (by rw [q2, decide_eq_false c]; rfl) _ s12)
end
end Kn
-- part VUbA
set_option maxHeartbeats 4000000
/-! Lost seats' places: as many as they tell; sizes. -/
namespace Kn
open PySem PySem.Spec PyProof.Rows L2 La Err
theorem filter_sub {ss c : List Int} (h : List.Sublist c ss) (nd : ss.Nodup) : ss.filter (fun s => decide (s ∈ c)) = c := by
  induction h with
  | slnil => rfl
  | @cons c l a h ih =>
    have nd' := List.nodup_cons.mp nd
    rw [List.filter_cons, if_neg (by
      rw [decide_eq_true_iff]
      exact fun z => nd'.1 (h.subset z))]
    exact ih nd'.2
  | @cons_cons c l a h ih =>
    have nd' := List.nodup_cons.mp nd
    rw [List.filter_cons, if_pos (decide_eq_true (List.mem_cons_self ..))]
    congr 1
    refine (List.filter_congr fun x hx => ?_).trans (ih nd'.2)
    refine decide_eq_decide.mpr ⟨fun z => ?_, fun z => List.mem_cons_of_mem _ z⟩
    rcases List.mem_cons.mp z with rfl | z
    · exact absurd hx nd'.1
    · exact z
theorem lostI_map {ss c : List Int} : (lostI ss c).map (fun i => ss.getD i 0) = ss.filter fun s => decide (s ∈ c) := by
  have e : ss = (List.range ss.length).map fun i => ss.getD i 0 := by
    refine List.ext_getElem (by rw [List.length_map, List.length_range]) fun i h1 h2 => ?_
    rw [List.getElem_map, List.getElem_range, List.getD_eq_getElem?_getD, List.getElem?_eq_getElem h1]
    rfl
  conv => rhs; rw [e]
  rw [List.filter_map]
  rfl
theorem lostI_len {ss c : List Int} (h : List.Sublist c ss) (nd : ss.Nodup) : (lostI ss c).length = c.length := by
  have z := congrArg List.length (lostI_map (ss := ss) (c := c))
  rw [List.length_map, filter_sub h nd] at z
  exact z
theorem asc_pair : ∀ {l : List Int}, ascB l = true → l.Pairwise (· < ·)
  | [], _ => .nil
  | [a], _ => List.pairwise_singleton ..
  | a :: b :: l, h => by
    have z : (decide (a < b) && ascB (b :: l)) = true := h
    rw [Bool.and_eq_true] at z
    have ih := asc_pair z.2
    refine .cons (fun x hx => ?_) ih
    have ab := of_decide_eq_true z.1
    rcases List.mem_cons.mp hx with rfl | hx
    · exact ab
    · exact Int.lt_trans ab ((List.pairwise_cons.mp ih).1 x hx)
theorem asc_nodup {l : List Int} (h : ascB l = true) : l.Nodup := by
  rw [List.nodup_iff_pairwise_ne]
  exact (asc_pair h).imp fun z => by omega
structure SchOk (ss : List Int) (w k : Nat) (rows : List (List Int)) (m m2 kM : Nat) : Prop where
  asc : ascB ss = true
  rg : ∀ s ∈ ss, 1 ≤ s ∧ s ≤ 9
  n1 : 1 ≤ ss.length
  n8 : ss.length ≤ 8
  w1 : 1 ≤ w
  w6 : w ≤ 6
  sz : ss.length * w ≤ 45
  rl : ∀ r ∈ rows, r.length = ss.length * w
  r24 : rows.length ≤ 24
  bt : ∀ i r, rows[i]? = some r → i + 1 < rows.length → Bt m r
  bt2 : ∀ r ∈ rows, Bt m2 r
  m0 : 0 < m2
  kn : k ≤ ss.length
  km : rows.length ≤ kM + 1 ∨ k * w ≤ kM
  szz : m2 + 2 * eb m kM + 7 ≤ 8000
theorem bt_sub {b : Nat} {r : List Int} {ps : List Nat} (h : Bt b r) : Bt b (ps.map fun p => r.getD p 0) := fun x hx => by
  obtain ⟨p, _, rfl⟩ := List.mem_map.mp hx
  exact bt_getD h p
theorem SchOk.rw_ {ss c : List Int} {w k m m2 kM : Nat} {rows : List (List Int)} (h : SchOk ss w k rows m m2 kM) (hc : c ∈ combsL ss k) : RwB (k * w) (sharesF ss c w rows) m m2 kM := by
  obtain ⟨sub, lk⟩ := mem_combs.mp hc
  have ll := lostI_len sub (asc_nodup h.asc)
  have lr : (sharesF ss c w rows).length = rows.length := List.length_map ..
  refine ⟨fun r hr => ?_, fun i r e hi => ?_, fun r hr => ?_, h.m0, by rw [lr]; exact h.km, h.szz, Nat.le_trans (Nat.mul_le_mul_right w h.kn) h.sz⟩
  · obtain ⟨r0, _, rfl⟩ := List.mem_map.mp hr
    rw [List.length_map, plF_len, ll, lk]
  · rw [lr] at hi
    unfold sharesF at e
    rw [List.getElem?_map] at e
    obtain ⟨r0, h0, rfl⟩ := Option.map_eq_some_iff.mp e
    exact bt_sub (h.bt i r0 h0 hi)
  · obtain ⟨r0, h0, rfl⟩ := List.mem_map.mp hr
    exact bt_sub (h.bt2 r0 h0)
/-- what is not told of a choice of lost seats -/
def seeF (ss : List Int) (w k : Nat) (rows : List (List Int)) (c : List Int) : Option (List Int) := unseenF (k * w) (takesF (sharesF ss c w rows))
def ubF (ss : List Int) (w k : Nat) (rows : List (List Int)) : Option (List Int × List Int) := (combsL ss k).findSome? fun c => (seeF ss w k rows c).map fun ns => (c, ns)
end Kn
-- part VUb
set_option maxHeartbeats 8000000
/-! unborne. -/
namespace Kn
open PySem PySem.Spec PyProof.Rows L2 La Err
abbrev sUb : Stmt := topS 35
abbrev NUb : List Str := ["seats", "width", "scheme", "silent", "lost", "numbers"]
theorem scUb : FnScope NUb ["seats", "width", "scheme", "silent"] (defScope sUb) := ⟨rfl, rfl, rfl, by decide +kernel, rfl, by decide +kernel, by decide +kernel⟩
abbrev rowW (ns : List Int) : W := .tup (ns.map W.int)
theorem intsIs {H : Hp} : ∀ (ns : List Int), IsAll H (vI ns) (ns.map W.int)
  | [] => .nil
  | n :: ns => .cons (.int n) (intsIs ns)
theorem rowIs {H : Hp} {v : V} {ns : List Int} (h : Row H v ns) : Is H v (rowW ns) := by
  obtain ⟨a, rfl, e, l⟩ := h
  exact .tup (by rw [List.length_map]; omega) e (intsIs ns)
theorem rowsIs {H : Hp} : ∀ {xs : List V} {rows : List (List Int)}, RowsL H xs rows → IsAll H xs (rows.map rowW)
  | [], [], _ => .nil
  | [], _ :: _, h => by cases h.1
  | _ :: _, [], h => by cases h.1
  | x :: xs, r :: rows, h => by
    obtain ⟨ns, e, hr⟩ := h.2 0 x rfl
    cases e
    exact .cons (rowIs hr) (rowsIs ⟨by simpa using h.1, fun i v e => h.2 (i + 1) v e⟩)
theorem nums_row {n : Int} {ns : List Int} (h : (ns.length : Int) = n) : numsW n (rowW ns) = true := by
  show (decide (((ns.map W.int).length : Int) = n) && (ns.map W.int).all isNum) = true
  rw [List.length_map, decide_eq_true h, Bool.true_and, List.all_map]
  exact List.all_eq_true.mpr fun _ _ => rfl
theorem sch_is {H : Hp} {sc : Addr} {rows : List (List Int)} {n : Int} (h : SchH H sc rows) (rl : ∀ r ∈ rows, (r.length : Int) = n) (r24 : rows.length ≤ 24) : ∃ wx, Is H (.ref sc) wx ∧ schW n wx = true := by
  obtain ⟨xs, hx, hr⟩ := h
  have lx := hr.1
  have al : (rows.map rowW).all (numsW n) = true := List.all_eq_true.mpr fun w hw => by
    obtain ⟨r, hr, rfl⟩ := List.mem_map.mp hw
    exact nums_row (rl r hr)
  have z : (decide (((rows.map rowW).length : Int) ≤ 24) && (rows.map rowW).all (numsW n)) = true := by
    rw [al, Bool.and_true, List.length_map]
    exact decide_eq_true (by omega)
  rcases hx with e | e
  · exact ⟨.lst (rows.map rowW), .lst (by omega) e (rowsIs hr), z⟩
  · exact ⟨.tup (rows.map rowW), .tup (by omega) e (rowsIs hr), z⟩
theorem seats_is {ss : List Int} (asc : ascB ss = true) (rg : ∀ s ∈ ss, 1 ≤ s ∧ s ≤ 9) (n1 : 1 ≤ ss.length) (n8 : ss.length ≤ 8) : seatsW (rowW ss) = true := by
  show (decide ((1 : Int) ≤ ((ss.map W.int).length : Int)) && (decide (((ss.map W.int).length : Int) ≤ 8) && ascW (ss.map W.int))) = true
  have e1 : (ss.map W.int).all (withinW 1 9) = true := List.all_eq_true.mpr fun w hw => by
    obtain ⟨s, hs, rfl⟩ := List.mem_map.mp hw
    have z := rg s hs
    show (decide (1 ≤ s) && decide (s ≤ 9)) = true
    rw [decide_eq_true z.1, decide_eq_true z.2]
    rfl
  have e2 : (ss.map W.int).map intW = ss := by
    rw [List.map_map]
    exact (List.map_congr_left fun _ _ => rfl).trans (List.map_id ss)
  unfold ascW
  rw [e1, e2, asc, List.length_map, decide_eq_true (by omega), decide_eq_true (by omega)]
  rfl
/-- wrong arguments -/
def spUbE (CS CW CM CC : Addr) : Sp := fun vs H _ E => ∃ v u x y wv wu wx wy, vs = [v, u, x, y] ∧ Is H v wv ∧ Is H u wu ∧ Is H x wx ∧ Is H y wy ∧
  ((seatsW wv = false ∧ ∀ H', Same H H' → E (.ref CS) none H') ∨ (seatsW wv = true ∧ withinW 1 6 wu = false ∧ ∀ H', Same H H' → E (.ref CW) none H') ∨
   (seatsW wv = true ∧ withinW 1 6 wu = true ∧ schW (lenT wv * intW wu) wx = false ∧ ∀ H', Same H H' → E (.ref CM) none H') ∨
   (seatsW wv = true ∧ withinW 1 6 wu = true ∧ schW (lenT wv * intW wu) wx = true ∧ withinW 0 (lenT wv) wy = false ∧ ∀ H', Same H H' → E (.ref CC) none H'))
def spUbG : Sp := fun vs H Q _ => ∃ sa ss sc rows, ∃ w k m m2 kM : Nat, vs = [.ref sa, .int w, .ref sc, .int k] ∧ Row H (.ref sa) ss ∧ SchH H sc rows ∧ SchOk ss w k rows m m2 kM ∧
  (ubF ss w k rows = none → ∀ H', Same H H' → Q .non H') ∧ ∀ c ns, ubF ss w k rows = some (c, ns) → ∀ t a b H', Same H H' → H' t = some (.tup [.ref a, .ref b]) → H' a = some (.tup (vI c)) → H' b = some (.tup (vI ns)) → Q (.ref t) H'
/-- good arguments pass the check -/
theorem cs_good {CS CW CM CC : Addr} {H : Hp} {Q : VK} {E : XK} {sa sc : Addr} {ss : List Int} {rows : List (List Int)} {w k m m2 kM : Nat} (hs : Row H (.ref sa) ss) (hc : SchH H sc rows) (ok : SchOk ss w k rows m m2 kM) (q : ∀ H', Same H H' → Q .non H') : spCs CS CW CM CC [.ref sa, .int w, .ref sc, .int k] H Q E := by
  obtain ⟨wx, ix, sx⟩ := sch_is (n := lenT (rowW ss) * intW (.int w)) hc (fun r hr => by
    show (r.length : Int) = ((ss.map W.int).length : Int) * (w : Int)
    rw [ok.rl r hr, List.length_map, Int.natCast_mul]) ok.r24
  refine ⟨_, _, _, _, rowW ss, .int w, wx, .int k, rfl, rowIs hs, .int _, ix, .int _, .inr (.inr (.inr (.inr ⟨seats_is ok.asc ok.rg ok.n1 ok.n8, ?_, sx, ?_, q⟩)))⟩
  · have z1 := ok.w1
    have z2 := ok.w6
    show (decide ((1 : Int) ≤ (w : Int)) && decide ((w : Int) ≤ 6)) = true
    rw [decide_eq_true (by omega), decide_eq_true (by omega)]
    rfl
  · have z1 := ok.kn
    show (decide ((0 : Int) ≤ (k : Int)) && decide ((k : Int) ≤ ((ss.map W.int).length : Int))) = true
    rw [List.length_map, decide_eq_true (by omega), decide_eq_true (by omega)]
    rfl
theorem find_pre {α β : Type} {f : α → Option β} : ∀ {l : List α} {i : Nat} {a : α}, l[i]? = some a → (∀ j b, j < i → l[j]? = some b → f b = none) → (f a).isSome = true → l.findSome? f = f a
  | [], i, a, e, _, _ => by cases i <;> cases e
  | x :: l, 0, a, e, _, hs => by
    cases e
    rw [List.findSome?_cons]
    cases fx : f x with
    | none => rw [fx] at hs; cases hs
    | some b => rfl
  | x :: l, i + 1, a, e, h, hs => by
    rw [List.findSome?_cons, h 0 x (by omega) rfl]
    exact find_pre (l := l) (i := i) e (fun j b hj eb => h (j + 1) b (by omega) eb) hs
theorem find_no {α β : Type} {f : α → Option β} : ∀ {l : List α}, (∀ b ∈ l, f b = none) → l.findSome? f = none
  | [], _ => rfl
  | x :: l, h => by
    rw [List.findSome?_cons, h x (List.mem_cons_self ..)]
    exact find_no fun b hb => h b (List.mem_cons_of_mem _ hb)
section
variable {P : Program} {w : World} {K : PySem.W.Frag} {mg : Str → Option Value} {base : Heap}
theorem ok_ub {f fC fS fU CS CW CM CC : Addr} {fd fdC fdS fdU : FuncData} (F : Fun K "unborne" "unborne" sUb f fd) (GC : FnOk P w K mg base (L2.CX P w) 6 fC fdC ["seats", "width", "scheme", "silent"] (spCs CS CW CM CC)) (kC : PySem.W.keepIn K (.ref fC) = true) (bC : Binds K fdC ["seats", "width", "scheme", "silent"] []) (gC : mg "check_scheme" = some (.ref fC))
    (GS : FnOk P w K mg base CX0 1 fS fdS ["seats", "width", "scheme", "lost"] spSh) (kS : PySem.W.keepIn K (.ref fS) = true) (bS : Binds K fdS ["seats", "width", "scheme", "lost"] []) (gS : mg "shares_of" = some (.ref fS))
    (GU : FnOk P w K mg base CX0 4 fU fdU ["lines", "many"] spUn) (kU : PySem.W.keepIn K (.ref fU) = true) (bU : Binds K fdU ["lines", "many"] []) (gU : mg "unseen_numbers" = some (.ref fU))
    (gCb : mg "combinations" = some (.type "itertools.combinations")) (mi : mg "int" = none) (mn : mg "len" = none) (mt : mg "tuple" = none) : FnOk P w K mg base (L2.CX P w) 7 f fd ["seats", "width", "scheme", "silent"] (spOr (spUbE CS CW CM CC) spUbG) := by
  have S := scUb
  refine F.okX S (fun vs H Q E h => ?_) (fun cdv A outer s H vs Q E hr h => ?_)
  · rcases h with h | h
    · obtain ⟨v, u, x, y, wv, wu, wx, wy, rfl, _⟩ := h
      rfl
    · obtain ⟨sa, ss, sc, rows, w, k, m, m2, kM, rfl, _⟩ := h
      rfl
  · have hr1 := hr.mono (show 1 ≤ 6 by decide)
    have hr4 := hr.mono (show 4 ≤ 6 by decide)
    have tk : Takes (cxOf (L2.CX P w) P w K mg base NUb "unborne" (defScope sUb) f cdv A outer s H E) (fun cls d _ H => E cls d H) := takes_of rfl rfl rfl rfl
    refine ⟨_, (pss_cons (ps_expr (pe_call GC hr (by rfl) gC kC bC .nil (passes_call tk fun _ _ _ _ h => h) (pa_cons (pv 0) (pa_cons (pv 1) (pa_cons (pv 2) (pa_cons (pv 3) pa_nil))))))
      (pss_cons (ps_for (passes_of rfl) rfl (pi_comb (by rfl) gCb (pa_cons (pv 0) (pa_cons (pe_callTy call_int1 (by rfl) mi (by decide +kernel) (pa_cons (pv 3) pa_nil)) pa_nil))) (pg_name (i := 4) S.nd rfl (.inl rfl))
        (pss_cons (ps_set (i := 5) S.nd rfl (.inl rfl) (pe_call GU hr4 (by rfl) gU kU bU .nil pass0 (pa_cons (pe_call GS hr1 (by rfl) gS kS bS .nil pass0 (pa_cons (pv 0) (pa_cons (pv 1) (pa_cons (pv 2) (pa_cons (pv 4) pa_nil))))) (pa_cons (pe_op op_mulW (pe_callB (show CallR _ (.builtin "len") (rLenS K) from call_len_seq) (by rfl) mn PySem.boot_len (pa_cons (pv 4) pa_nil)) (pv 1)) pa_nil))))
        (pss_one (ps_if (pt_cmpR op_notN (pv 5) pe_non (nomark _)) (pss_one (ps_ret (pe_tup (pa_cons (pv 4) (pa_cons (pe_callTy (show CallR _ (.type "tuple") (rTupA K) from call_tuple_of) (by rfl) mt (by decide +kernel) (pa_cons (pv 5) pa_nil)) pa_nil))))) pss_nil))))
      (pss_one (ps_ret pe_non)))), ?_⟩
    rcases h with ⟨v, u, x, y, wv, wu, wx, wy, rfl, hv, hu, hx, hy, h⟩ | ⟨sa, ss, sc, rows, wd, k, m, m2, kM, rfl, hs, hc, ok, qN, qS⟩
    · refine ⟨_, rfl, _, rfl, _, rfl, _, rfl, v, u, x, y, wv, wu, wx, wy, rfl, hv, hu, hx, hy, ?_⟩
      rcases h with ⟨e, h⟩ | ⟨e1, e2, h⟩ | ⟨e1, e2, e3, h⟩ | ⟨e1, e2, e3, e4, h⟩
      · exact .inl ⟨e, h⟩
      · exact .inr (.inl ⟨e1, e2, h⟩)
      · exact .inr (.inr (.inl ⟨e1, e2, e3, h⟩))
      · exact .inr (.inr (.inr (.inl ⟨e1, e2, e3, e4, h⟩)))
    · refine ⟨_, rfl, _, rfl, _, rfl, _, rfl, ?_⟩
      dsimp only [tNil]
      refine cs_good hs hc ok fun H1 s1 => ?_
      obtain ⟨sa', ea, rs, l45⟩ := id hs
      cases ea
      have n8 := ok.n8
      have kn := ok.kn
      have w6 := ok.w6
      dsimp only [tSeq]
      refine ⟨_, rfl, _, rfl, .inl ⟨_, rfl, sa, vI ss, k, rfl, .inr (.inl (Rd.same rs s1)), by rw [List.length_map]; exact n8, by omega, for_it (walk_comb (xs := vI ss) (r := k)) (fun i σ H2 => ∃ y4 y5, σ = [some (.ref sa), some (.int wd), some (.ref sc), some (.int k), y4, y5] ∧ Same H H2 ∧ ∀ j b, j < i → (combsL ss k)[j]? = some b → seeF ss wd k rows b = none) ⟨none, none, rfl, s1, fun j b hj => absurd hj (Nat.not_lt_zero _)⟩ (fun _ _ _ _ _ => trivial) ?_ ?_⟩⟩
      · rintro i x σ H2 H3 hi ⟨y4, y5, rfl, s2, pre⟩ ⟨T, cv, rfl, nT, rfl, hcv⟩
        have hcv2 := hcv
        rw [show vI ss = ss.map V.int from rfl, combs_map, List.getElem?_map] at hcv2
        obtain ⟨c, hcm, rfl⟩ := Option.map_eq_some_iff.mp hcv2
        have mem := List.mem_of_getElem? hcm
        obtain ⟨sub, lk⟩ := mem_combs.mp mem
        have rb := ok.rw_ mem
        have sT : Same H2 (L2.upd H2 T (.tup (c.map V.int))) := same_new nT
        have eT : (L2.upd H2 T (.tup (c.map V.int))) T = some (.tup (vI c)) := upd_same
        have s3 := s2.trans sT
        generalize L2.upd H2 T (.tup (c.map V.int)) = H3 at sT eT s3 ⊢
        have lr : (sharesF ss c wd rows).length = rows.length := List.length_map ..
        refine ⟨_, rfl, _, rfl, _, rfl, _, rfl, .ref sa, sc, .ref T, ss, c, rows, wd, rfl, hs.same s3, ⟨T, rfl, .inl eT, by omega⟩, hc.same s3, ok.sz, by omega, ok.rl, by have := ok.r24; omega, fun p ps H4 s4 ep hm => ?_⟩
        refine ⟨_, rfl, T, vI c, rfl, .inr (SqT.of (s4 _ _ eT)), _, rfl, _, _, rfl, rfl, wide_mul (a := 10) (b := 10) (by rw [Int.natAbs_natCast, List.length_map]; omega) (by rw [Int.natAbs_natCast]; omega) (by decide) (by decide) (by decide), p, ps, sharesF ss c wd rows, k * wd, m, m2, kM, ?_, ep, hm, rb, by have := ok.r24; omega, fun hn H5 s5 => ?_, fun ns hn np H5 s5 e5 => ?_⟩
        · rw [List.length_map, lk, Int.natCast_mul]
          rfl
        · refine ⟨_, rfl, rfl, _, rfl, iteF ⟨_, _, rfl, (s3.trans s4).trans s5, fun j b hj eb => ?_⟩⟩
          by_cases e : j = i
          · subst e
            rw [hcm] at eb
            cases eb
            exact hn
          · exact pre j b (by omega) eb
        · have hu : ubF ss wd k rows = some (c, ns) := by
            unfold ubF
            have fc : (seeF ss wd k rows c).map (fun ns => (c, ns)) = some (c, ns) := by
              show (unseenF _ _).map _ = _
              rw [hn]
              rfl
            rw [find_pre (f := fun c => (seeF ss wd k rows c).map fun ns => (c, ns)) hcm (fun j b hj eb => by rw [pre j b hj eb]; rfl) (by rw [fc]; rfl)]
            exact fc
          refine ⟨_, rfl, rfl, _, rfl, iteT ⟨_, rfl, _, rfl, np, _, rfl, .inl ⟨SqL.of e5, fun l nl => ⟨by show 2 ≤ sizeLine; decide, fun t nt => ?_⟩⟩⟩⟩
          have s6 : Same H5 (L2.upd (L2.upd H5 l (.tup (vI ns))) t (.tup [.ref T, .ref l])) := (same_new nl).trans (same_new nt)
          exact qS c ns hu t T l _ (((s3.trans s4).trans s5).trans s6) upd_same (s6 _ _ (s5 _ _ (s4 _ _ eT))) (same_new nt _ _ upd_same)
      · rintro σ H2 ⟨y4, y5, rfl, s2, pre⟩
        refine qN (find_no fun b hb => ?_) H2 s2
        obtain ⟨j, hj, rfl⟩ := List.getElem_of_mem hb
        have e : (combsL (vI ss) k).length = (combsL ss k).length := by
          rw [show vI ss = ss.map V.int from rfl, combs_map, List.length_map]
        rw [pre j _ (by rw [e]; exact hj) (List.getElem?_eq_getElem hj)]
        rfl
end
end Kn
-- part UZlt
set_option maxHeartbeats 4000000
/-! zip of a list and a tuple. -/
namespace Kn
open PySem PySem.Spec PyProof.Rows L2 La
/-- the list at a and the tuple at b as they stand at each turn, the items in new pairs -/
def ItzM (K : PySem.W.Frag) (a b : Addr) : It :=
  ⟨fun i H => ∃ (xs ys : List V) (x y : V), SqL K H a xs ∧ SqT K H b ys ∧ xs[i]? = some x ∧ ys[i]? = some y,
    fun i H v H' => ∃ T x y, v = .ref T ∧ H T = none ∧ H' = upd H T (.tup [x, y]) ∧ (∀ xs, SqL K H a xs → xs[i]? = some x) ∧ ∀ ys, SqT K H b ys → ys[i]? = some y,
    fun i H => ∃ xs ys : List V, SqL K H a xs ∧ SqT K H b ys ∧ i ≤ xs.length ∧ i ≤ ys.length ∧ (i = xs.length ∨ i = ys.length)⟩
theorem ne_lt2 {x y : Nat} (h : x < y ∨ y < x) : x ≠ y := fun e => by rcases h with q | q <;> exact absurd q (by rw [e]; exact Nat.lt_irrefl _)
theorem sep_lt (I a b : Nat) (ha : a < I) (hb : b < I) : ZipSep2 (I + 4) (I + 2) (I + 3) I (I + 1) [I, a] [I + 1, b] := by
  have nm : ∀ {x y z : Nat}, x ≠ y → x ≠ z → ¬ x ∈ [y, z] := fun h h' m => by
    rcases List.mem_cons.mp m with q | q
    · exact h q
    · rcases List.mem_cons.mp q with q | q
      · exact h' q
      · cases q
  exact ⟨ne_lt2 (by omega), ne_lt2 (by omega), ne_lt2 (by omega), ne_lt2 (by omega), List.mem_cons_self .., nm (ne_lt2 (by omega)) (ne_lt2 (by omega)), nm (ne_lt2 (by omega)) (ne_lt2 (by omega)), ne_lt2 (by omega), List.mem_cons_self .., nm (ne_lt2 (by omega)) (ne_lt2 (by omega)), nm (ne_lt2 (by omega)) (ne_lt2 (by omega)), nm (ne_lt2 (by omega)) (ne_lt2 (by omega)), nm (ne_lt2 (by omega)) (ne_lt2 (by omega))⟩
theorem turn_zipM {P : Program} {w : World} {K : PySem.W.Frag} {elts : List Expr} {kk : Nat} {tpos : Pos} {a b z TI TO i1 i2 : Addr} (D : ZipSep2 z TI TO i1 i2 [i1, a] [i2, b]) (ha : a ≠ i1) (hb : b ≠ i2) :
    Turn P w K (.Tuple elts kk tpos) (ItzM K a b) [z, TI, TO, i1, i2] z (fun i h => IsZip h z TI TO .none ∧ IsTupOf2 h TI (.ref i1) (.ref i2) ∧ (∃ x y, IsTupOf2 h TO x y) ∧ h.IsListIter i1 a i ∧ h.IsTupleIter i2 b i) where
  mem := by simp
  obj := fun i h st c hc => by
    obtain ⟨hz, hTI, ⟨x, y, hTO⟩, ⟨o1, e1, _, d1⟩, ⟨o2, e2, _, d2⟩⟩ := st
    have e' : c = z ∨ c = TI ∨ c = TO ∨ c = i1 ∨ c = i2 := by simpa using hc
    rcases e' with q | q | q | q | q
    · rw [q]; exact ⟨_, hz, fun v q => nomatch q⟩
    · rw [q]; exact ⟨_, hTI, fun v q => nomatch q⟩
    · rw [q]; exact ⟨_, hTO, fun v q => nomatch q⟩
    · rw [q]; exact ⟨o1, e1, fun v q => by rw [d1] at q; cases q⟩
    · rw [q]; exact ⟨o2, e2, fun v q => by rw [d2] at q; cases q⟩
  keep := fun i h h' st k => by
    obtain ⟨hz, hTI, ⟨x, y, hTO⟩, h1, h2⟩ := st
    exact ⟨k z (by simp) _ hz, k TI (by simp) _ hTI, ⟨x, y, k TO (by simp) _ hTO⟩, h1.at fun o q => k i1 (by simp) o q, h2.at fun o q => k i2 (by simp) o q⟩
  item := by
    intro X hP hw hK hc i pins s σ H E I hf st hg
    subst hP hw hK
    obtain ⟨hz, hTI, ⟨x0, y0, hTO⟩, h1, h2⟩ := st
    obtain ⟨xs, ys, x, y, hqx, hqy, hx, hy⟩ := hg
    obtain ⟨its, rv, p, _⟩ := I.list hqx
    obtain ⟨its2, rv2, p2, _⟩ := I.tuple hqy
    obtain ⟨u, hu, ru⟩ := rv.get hx
    obtain ⟨u2, hu2, ru2⟩ := rv2.get hy
    have hzl : z < s.heap.objs.size := Heap.lt_size hz
    have n1 : i < its.toArray.size := by
      have := List.getElem?_eq_some_iff.mp hu
      simpa using this.1
    have n2 : i < its2.toArray.size := by
      have := List.getElem?_eq_some_iff.mp hu2
      simpa using this.1
    refine wpAny_pyNext_zipD2_item D (Draws.list (A := X.A.in1) (I.ok.hd hc) i1 a ha its.toArray) (Draws.tuple (A := X.A.in1) (I.ok.hd hc) i2 b hb its2.toArray) hz hTI hTO ⟨h1, p.isList⟩ ⟨h2, p2⟩ n1 n2 fun v1 v2 h' tk g1 g2 z' TO' st1 st2 hT hsz hk => ?_
    obtain ⟨h1', _⟩ := st1
    obtain ⟨h2', _⟩ := st2
    have q1 : v1 = u := by
      have : its.toArray[i]? = some u := by simpa using hu
      exact Option.some.inj (g1.symm.trans this)
    have q2 : v2 = u2 := by
      have : its2.toArray[i]? = some u2 := by simpa using hu2
      exact Option.some.inj (g2.symm.trans this)
    subst q1 q2
    refine ⟨_, rfl, wpAny_letOwnedTupleGo_zip (s := { s with heap := h', toks := tk }) z' fun h'' z'' sb => ?_⟩
    have hT2 : h''.get? s.heap.objs.size = some { cls := .type "tuple", data := .seq #[v1, v2] } := (sb.2 _ (Nat.ne_of_gt hzl)).trans hT
    have new : ObjOk X.prog X.w (upd H s.heap.objs.size (.tup [x, y])) h'' s.heap.objs.size (.tup [x, y]) :=
      ⟨by show 2 ≤ sizeLine; decide, [v1, v2], .cons ru (.cons ru2 .nil), ⟨_, hT2, rfl, _, rfl⟩⟩
    have I1 : Inv X pins σ (upd H s.heap.objs.size (.tup [x, y])) { s with heap := h'', toks := tk } :=
      I.turnedNew (t' := tk) (ch := [z, TI, TO, i1, i2]) (fun c o hb q => (sb.2 c (fun q' => hb (by simp [q']))).trans (hk c o (fun q' => hb (by simp [q'])) (fun q' => hb (by simp [q'])) (fun q' => hb (by simp [q'])) (fun q' => hb (by simp [q'])) q)) hf (Nat.le_refl _) new
    refine ⟨.ref s.heap.objs.size, _, I1, rfl, ⟨_, x, y, rfl, I.hok.fresh (Nat.le_refl _), rfl, fun l hl => by rw [I.list_inj hl hqx]; exact hx, fun l hl => by rw [I.tuple_inj hl hqy]; exact hy⟩, ⟨z'', ?_, ⟨v1, v2, ?_⟩, ?_, ?_⟩, fun c hcm => ?_⟩
    · exact (sb.2 _ D.TIz).trans (hk _ _ D.TIz D.TITO D.TIi1 D.TIi2 hTI)
    · exact (sb.2 _ D.TOz).trans TO'
    · exact h1'.at fun o q => (sb.2 _ D.zi1.symm).trans q
    · exact h2'.at fun o q => (sb.2 _ D.zi2.symm).trans q
    · have hlt : c < s.heap.objs.size := by
        have e' : c = z ∨ c = TI ∨ c = TO ∨ c = i1 ∨ c = i2 := by simpa using hcm
        rcases e' with q | q | q | q | q
        · rw [q]; exact hzl
        · rw [q]; exact Heap.lt_size hTI
        · rw [q]; exact Heap.lt_size hTO
        · rw [q]; obtain ⟨_, e1, _⟩ := h1; exact Heap.lt_size e1
        · rw [q]; obtain ⟨_, e2, _⟩ := h2; exact Heap.lt_size e2
      rw [upd_ne (Nat.ne_of_lt hlt)]
      exact (hf c hcm).1
  done := by
    intro X hP hw hK hc i pins s σ H E I hf st hg
    subst hP hw hK
    obtain ⟨hz, hTI, ⟨x0, y0, hTO⟩, h1, h2⟩ := st
    obtain ⟨xs, ys, hqx, hqy, hx1, hx2, hen2⟩ := hg
    obtain ⟨its, rv, p, _⟩ := I.list hqx
    obtain ⟨its2, rv2, p2, _⟩ := I.tuple hqy
    have l1 := rv.length
    have l2 := rv2.length
    have m1 : its.toArray.size = xs.length := by simpa using l1.symm
    have m2 : its2.toArray.size = ys.length := by simpa using l2.symm
    have g1 : i ≤ its.toArray.size := by rw [m1]; exact hx1
    have g2 : i ≤ its2.toArray.size := by rw [m2]; exact hx2
    have ge : i = its.toArray.size ∨ i = its2.toArray.size := by rw [m1, m2]; exact hen2
    exact wpAny_pyNext_zipD2_end D (Draws.list (A := X.A.in1) (I.ok.hd hc) i1 a ha its.toArray) (Draws.tuple (A := X.A.in1) (I.ok.hd hc) i2 b hb its2.toArray) hz hTI hTO ⟨h1, p.isList⟩ ⟨h2, p2⟩ g1 g2 ge fun h' tk hk => ⟨rfl, I.turnedL (t' := tk) (ch := [z, TI, TO, i1, i2]) (fun c o hb q =>
      hk c o (fun q' => hb (by simp [q'])) (fun q' => hb (by simp [q'])) (fun q' => hb (by simp [q'])) (fun q' => hb (by simp [q'])) q) hf⟩
  self := fun A i s Q E st h => wpAny_pyIter_zip st.1 h
def iZipM (K : PySem.W.Frag) (ta : TA) : TI := fun σ H R => ta σ H fun vs H1 => ∃ a b xs ys, vs = [.ref a, .ref b] ∧ SqL K H1 a xs ∧ SqT K H1 b ys ∧ R (ItzM K a b) H1
theorem pi_zipM {X : Cx} {e e2 : Expr} {ta : TA} {p pos tpos : Pos} {elts : List Expr} {kk : Nat} (hg : Gl X "zip") (hm : X.mg "zip" = none) (ha : PA X [e, e2] ta)
    (hs : starEach [e, e2] X.env = (false, eval e X.env) :: starEach [e2] X.env := by rfl) (hpl : (backTo pos (starEach [e2] X.env)).any (·.1) = false := by rfl) :
    PI X (.Tuple elts kk tpos) (.Call (.Name "zip" p) [e, e2] [] pos) (iZipM X.K ta) := by
  refine ⟨fun pins s σ H R I h => ?_⟩
  refine Call_ (ld_blt I hg hm PyProof.Rows.boot_zip (PyProof.Rows.callWith_type1 (thn (ha.run pos pins s σ H _ I h) fun us s1 ⟨vs, H1, I1, r1, q1⟩ => ?_) hs hpl))
  obtain ⟨a, b, xs, ys, ex, hqx, hqy, q⟩ := q1
  subst ex
  cases r1 with
  | cons r rr =>
    cases rr with
    | cons r' rr =>
      cases rr
      cases r
      cases r'
      obtain ⟨its, rv, p1, _⟩ := I1.list hqx
      obtain ⟨its2, rv2, p2, _⟩ := I1.tuple hqy
      obtain ⟨o2, ho2, _⟩ := id p2
      have la : a < s1.heap.objs.size := p1.lt
      have lb : b < s1.heap.objs.size := Heap.lt_size ho2
      refine zip_begins2 (begins_list a its.toArray) (begins_tuple b its2.toArray) p1.isList p2 fun h' hz hTI hTO h1 h2 hsz hk => wpAny_pyIter_zip hz ?_
      have I2 : Inv X pins σ H1 { s1 with heap := h' } := I1.kept (t' := s1.toks) hk
      refine ⟨s1.heap.objs.size + 4, [s1.heap.objs.size + 4, s1.heap.objs.size + 2, s1.heap.objs.size + 3, s1.heap.objs.size, s1.heap.objs.size + 1], _, _, H1, rfl, I2, turn_zipM (sep_lt s1.heap.objs.size a b la lb) (Nat.ne_of_lt la) (Nat.ne_of_lt (Nat.lt_succ_of_lt lb)), ⟨hz, hTI, ⟨_, _, hTO⟩, ⟨_, h1, rfl, rfl⟩, ⟨_, h2, rfl, rfl⟩⟩, fun c hcm => ?_, q⟩
      have e' : c = s1.heap.objs.size + 4 ∨ c = s1.heap.objs.size + 2 ∨ c = s1.heap.objs.size + 3 ∨ c = s1.heap.objs.size ∨ c = s1.heap.objs.size + 1 := by simpa using hcm
      have hle : s1.heap.objs.size ≤ c := by
        rcases e' with z | z | z | z | z
        · rw [z]; exact Nat.le_add_right _ _
        · rw [z]; exact Nat.le_add_right _ _
        · rw [z]; exact Nat.le_add_right _ _
        · rw [z]; exact Nat.le_refl _
        · rw [z]; exact Nat.le_add_right _ _
      exact I1.fpOk hle (I1.hok.fresh hle)
theorem walk_zipM {K : PySem.W.Frag} {a b : Addr} {xs ys : List V} {n : Nat} (hn : n = min xs.length ys.length) : Walk (ItzM K a b) n (fun H => SqL K H a xs ∧ SqT K H b ys) (YPair (fun i => xs[i]?) (fun i => ys[i]?)) := by
  subst hn
  refine ⟨fun i _ hi q => ?_, fun _ q => ⟨xs, ys, q.1, q.2, by omega, by omega, by omega⟩, fun i H v H' _ q y => ?_⟩
  · have h1 : i < xs.length := by omega
    have h2 : i < ys.length := by omega
    exact ⟨xs, ys, xs[i], ys[i], q.1, q.2, by simp [h1], by simp [h2]⟩
  · obtain ⟨T, x, z, h1, h2, h3, h4, h5⟩ := y
    exact ⟨T, x, z, h1, h2, h3, h4 xs q.1, h5 ys q.2⟩
end Kn
-- part VDot
set_option maxHeartbeats 4000000
/-! dot. -/
namespace Kn
open PySem PySem.Spec PyProof.Rows L2 La
abbrev sDo : Stmt := topS 14
abbrev NDo : List Str := ["row", "column", "one", "other"]
theorem scDo : FnScope NDo ["row", "column"] (defScope sDo) := ⟨rfl, rfl, rfl, by decide +kernel, rfl, by decide +kernel, by decide +kernel⟩
def dotF (r c : List Int) : Int := (List.zipWith (fun x y => x * y) r c).sum
theorem dotF_dotN : ∀ {r c : List Int}, r.length = c.length → dotF r c = dotN r fun k => c.getD k 0
  | [], [], _ => rfl
  | [], _ :: _, h => by simp at h
  | _ :: _, [], h => by simp at h
  | x :: r, y :: c, h => by
    have ih := dotF_dotN (r := r) (c := c) (by simpa using h)
    show (x * y :: List.zipWith (fun x y => x * y) r c).sum = x * y + dotN r fun k => c.getD k 0
    rw [List.sum_cons, ← ih]
    rfl
def spDo : Sp := fun vs H Q _ => ∃ a v r c, vs = [.ref a, v] ∧ H a = some (.lst (vI r)) ∧ Row H v c ∧ r.length = c.length ∧ Bt 9000 r ∧ Bt 9000 c ∧ ∀ H', Same H H' → Q (.int (dotF r c)) H'
section
variable {P : Program} {w : World} {K : PySem.W.Frag} {mg : Str → Option Value} {base : Heap}
theorem ok_dot {f : Addr} {fd : FuncData} (F : Fun K "dot" "dot" sDo f fd) (mu : mg "sum" = none) (mz : mg "zip" = none) : FnOk P w K mg base CX0 1 f fd ["row", "column"] spDo := by
  have S := scDo
  refine F.ok S (fun vs H Q E h => ?_) (fun cdv A outer s H vs Q E hr h => ?_)
  · obtain ⟨a, v, r, c, rfl, _⟩ := h
    rfl
  · obtain ⟨a, v, r, c, rfl, ha, ⟨b, rfl, hb, l45⟩, lrc, br, bc, q⟩ := h
    refine ⟨_, (pss_one (ps_ret (pe_callB (show CallR _ (.builtin "sum") (rSum K) from cr_sum (by rfl)) (by rfl) mu (by decide +kernel) (pa_cons (pe_lc (own := [("one", 2), ("other", 3)]) (g := gTup K 2 (gCons (gName 2) (gCons (gName 3) gNil))) rfl S.nd (pi_zipM (by rfl) mz (pa_cons (pv 0) (pa_cons (pv 1) pa_nil))) (blkOk_by (N := NDo) (sc := defScope sDo) (by decide +kernel)) (fun _ _ _ _ _ => (pg_tup rfl (pgs_cons (pg_name (i := 2) S.nd rfl (.inl rfl)) (pgs_cons (pg_name (i := 3) S.nd rfl (.inl rfl)) pgs_nil)))) (fun _ _ _ _ _ => pts_nil) (fun _ _ _ _ _ => (pe_op op_mulW (pv 2) (pv 3)))) pa_nil)))), ?_⟩
    dsimp only [tRet, tCB, tCons, tNil, List.map]
    refine pairs_lc (i := 2) (j := 3) (bs := List.zipWith (fun x y => x * y) r c) (walk_zipM (K := K) (a := a) (b := b) (xs := vI r) (ys := vI c) (n := r.length) (by rw [List.length_map, List.length_map, ← lrc, Nat.min_self])) (fun _ y n => y = V.int n) (fun _ _ _ _ _ e => e) (fun R h => ⟨_, rfl, _, rfl, a, b, _, _, rfl, SqL.of ha, .inl hb, h⟩) (fun H2 s => ⟨SqL.of (s _ _ ha), .inl (Rd.same hb s)⟩) (by rw [List.length_zipWith, ← lrc, Nat.min_self]) (by omega) (fun k x y b2 ex ey eb H2 s2 D hD nD R hR => ?_) fun p ys H2 s2 np ep hp => ?_
    · rw [List.getElem?_map] at ex ey
      obtain ⟨n1, e1, rfl⟩ := Option.map_eq_some_iff.mp ex
      obtain ⟨n2, e2, rfl⟩ := Option.map_eq_some_iff.mp ey
      rw [List.getElem?_zipWith, e1, e2] at eb
      cases eb
      exact ⟨_, rfl, _, rfl, n1, n2, rfl, rfl, wide_mul (a := 9000) (b := 9000) (br _ (List.mem_of_getElem? e1)) (bc _ (List.mem_of_getElem? e2)) (by decide) (by decide) (by decide), hR _ _ (Same.refl _) rfl⟩
    · have ey := ints_paired hp
      rw [ey] at ep
      exact ⟨p, _, rfl, SqL.of ep, q H2 s2⟩
end
end Kn
-- part VIu
set_option maxHeartbeats 8000000
/-! is_unborne. -/
namespace Kn
open PySem PySem.Spec PyProof.Rows L2 La Err
abbrev sIu : Stmt := topS 36
abbrev NIu : List Str := ["seats", "width", "scheme", "silent", "thing", "lost", "numbers", "seat", "number", "shares"]
/-- lost seats and numbers that the scheme does not see -/
def pairB (ss : List Int) (w k : Nat) (rows : List (List Int)) (ls ns : List W) : Bool :=
  decide ((ls.length : Int) = k) && (ascW ls && ((ls.map intW).all (fun s => decide (s ∈ ss)) && (numsW ((k : Int) * w) (.tup ns) && ((firstNz (ns.map intW)).isSome && (sharesF ss (ls.map intW) w rows).all fun r => decide (dotF r (ns.map intW) = 0)))))
def iuW (ss : List Int) (w k : Nat) (rows : List (List Int)) : W → Bool
  | .tup [.tup ls, .tup ns] => pairB ss w k rows ls ns
  | _ => false
def spIuE (CS CW CM CC : Addr) : Sp := fun vs H _ E => ∃ v u x y t wv wu wx wy, vs = [v, u, x, y, t] ∧ Is H v wv ∧ Is H u wu ∧ Is H x wx ∧ Is H y wy ∧
  ((seatsW wv = false ∧ ∀ H', Same H H' → E (.ref CS) none H') ∨ (seatsW wv = true ∧ withinW 1 6 wu = false ∧ ∀ H', Same H H' → E (.ref CW) none H') ∨
   (seatsW wv = true ∧ withinW 1 6 wu = true ∧ schW (lenT wv * intW wu) wx = false ∧ ∀ H', Same H H' → E (.ref CM) none H') ∨
   (seatsW wv = true ∧ withinW 1 6 wu = true ∧ schW (lenT wv * intW wu) wx = true ∧ withinW 0 (lenT wv) wy = false ∧ ∀ H', Same H H' → E (.ref CC) none H'))
def spIuG : Sp := fun vs H Q _ => ∃ sa ss sc rows t tw, ∃ w k m m2 kM : Nat, vs = [.ref sa, .int w, .ref sc, .int k, t] ∧ Row H (.ref sa) ss ∧ SchH H sc rows ∧ SchOk ss w k rows m m2 kM ∧ Is H t tw ∧ (∀ ls ns, tw = .tup [.tup ls, .tup ns] → Bt 9000 (ns.map intW)) ∧
  ∀ H', Same H H' → Q (.bl (iuW ss w k rows tw)) H'
theorem scIu : FnScope NIu ["seats", "width", "scheme", "silent", "thing"] (defScope sIu) := ⟨rfl, rfl, rfl, by decide +kernel, rfl, by decide +kernel, by decide +kernel⟩
theorem nums_ints {H : Hp} {n : Int} : ∀ {xs : List V} {ws : List W}, IsAll H xs ws → ws.all isNum = true → xs = vI (ws.map intW)
  | _, _, .nil, _ => rfl
  | _, _, .cons h t, e => by
    rw [List.all_cons, Bool.and_eq_true] at e
    have ih := nums_ints (n := n) t e.2
    cases h with
    | int i =>
      show _ :: _ = _ :: _
      rw [ih]
      rfl
    | _ => exact absurd e.1 Bool.false_ne_true
section
variable {P : Program} {w : World} {K : PySem.W.Frag} {mg : Str → Option Value} {base : Heap}
theorem ok_iu {f fC fS fT fA fN fF fD CS CW CM CC : Addr} {fd fdC fdS fdT fdA fdN fdF fdD : FuncData} (F : Fun K "is_unborne" "is_unborne" sIu f fd) (GC : FnOk P w K mg base (L2.CX P w) 6 fC fdC ["seats", "width", "scheme", "silent"] (spCs CS CW CM CC)) (kC : PySem.W.keepIn K (.ref fC) = true) (bC : Binds K fdC ["seats", "width", "scheme", "silent"] []) (gC : mg "check_scheme" = some (.ref fC))
    (GS : FnOk P w K mg base CX0 1 fS fdS ["seats", "width", "scheme", "lost"] spSh) (kS : PySem.W.keepIn K (.ref fS) = true) (bS : Binds K fdS ["seats", "width", "scheme", "lost"] []) (gS : mg "shares_of" = some (.ref fS))
    (GT : FnOk P w K mg base CX0 1 fT fdT ["value", "many"] spTupOf) (kT : PySem.W.keepIn K (.ref fT) = true) (bT : Binds K fdT ["value", "many"] []) (gT : mg "is_tuple_of" = some (.ref fT))
    (GA : FnOk P w K mg base CX0 4 fA fdA ["seats"] spAsc) (kA : PySem.W.keepIn K (.ref fA) = true) (bA : Binds K fdA ["seats"] []) (gA : mg "is_ascending" = some (.ref fA))
    (GN : FnOk P w K mg base CX0 2 fN fdN ["value", "many"] spNums) (kN : PySem.W.keepIn K (.ref fN) = true) (bN : Binds K fdN ["value", "many"] []) (gN : mg "are_numbers" = some (.ref fN))
    (GF : FnOk P w K mg base CX0 1 fF fdF ["row"] (fun vs H Q E => ∃ a r, vs = [.ref a] ∧ Row H (.ref a) r ∧ ∀ H', Same H H' → Q (placeV (firstNz r)) H')) (kF : PySem.W.keepIn K (.ref fF) = true) (bF : Binds K fdF ["row"] []) (gF : mg "first_place" = some (.ref fF))
    (GD : FnOk P w K mg base CX0 1 fD fdD ["row", "column"] spDo) (kD : PySem.W.keepIn K (.ref fD) = true) (bD : Binds K fdD ["row", "column"] []) (gD : mg "dot" = some (.ref fD)) (ma : mg "all" = none) : FnOk P w K mg base (L2.CX P w) 7 f fd ["seats", "width", "scheme", "silent", "thing"] (spOr (spIuE CS CW CM CC) spIuG) := by
  have S := scIu
  refine F.okX S (fun vs H Q E h => ?_) (fun cdv A outer s H vs Q E hr h => ?_)
  · rcases h with h | h
    · obtain ⟨v, u, x, y, t, wv, wu, wx, wy, rfl, _⟩ := h
      rfl
    · obtain ⟨sa, ss, sc, rows, t, tw, w, k, m, m2, kM, rfl, _⟩ := h
      rfl
  · have hr1 := hr.mono (show 1 ≤ 6 by decide)
    have hr2 := hr.mono (show 2 ≤ 6 by decide)
    have hr4 := hr.mono (show 4 ≤ 6 by decide)
    have tk : Takes (cxOf (L2.CX P w) P w K mg base NIu "is_unborne" (defScope sIu) f cdv A outer s H E) (fun cls d _ H => E cls d H) := takes_of rfl rfl rfl rfl
    refine ⟨_, (pss_cons (ps_expr (pe_call GC hr (by rfl) gC kC bC .nil (passes_call tk fun _ _ _ _ h => h) (pa_cons (pv 0) (pa_cons (pv 1) (pa_cons (pv 2) (pa_cons (pv 3) pa_nil))))))
      (pss_cons (ps_if (PW.pt (pw_or (pt_not (pt_val (pe_call GT hr1 (by rfl) gT kT bT .nil pass0 (pa_cons (pv 4) (pa_cons pe_int pa_nil))))) (pw_or (pt_not (pt_val (pe_call GT hr1 (by rfl) gT kT bT .nil pass0 (pa_cons (pe_ix (show IxR _ (rIxT K) from ix_tup) (pv 4) pe_int (fun _ _ => rfl)) (pa_cons (pv 3) pa_nil))))) (pw_or1 (pt_not (pt_val (pe_call GA hr4 (by rfl) gA kA bA .nil pass0 (pa_cons (pe_ix (show IxR _ (rIxT K) from ix_tup) (pv 4) pe_int (fun _ _ => rfl)) pa_nil)))))))) (pss_one (ps_ret pe_bl)) pss_nil)
      (pss_cons (ps_asg (pv 4) (pg_tup rfl (pgs_cons (pg_name (i := 5) S.nd rfl (.inl rfl)) (pgs_cons (pg_name (i := 6) S.nd rfl (.inr rfl)) pgs_nil))))
      (pss_cons (ps_if (PW.pt (pw_or (pt_not (pt_val (pe_callB (cr_all (by rfl)) (by rfl) ma (by decide +kernel) (pa_cons (pe_lc (own := [("seat", 7)]) (g := gName 7) rfl S.nd (pi_tup (pv 5)) (blkOk_by (N := NIu) (sc := defScope sIu) (by decide +kernel)) (fun _ _ _ _ _ => (pg_name (i := 7) S.nd rfl (.inl rfl))) (fun _ _ _ _ _ => pts_nil) (fun _ _ _ _ _ => (pe_cmpR (show OpR _ (compareOp .In) (rIn K false) from op_in_seq) (pv 7) (pv 0) (by rfl)))) pa_nil)))) (pw_or1 (pt_not (pt_val (pe_call GN hr2 (by rfl) gN kN bN .nil pass0 (pa_cons (pv 6) (pa_cons (pe_op op_mulW (pv 3) (pv 1)) pa_nil)))))))) (pss_one (ps_ret pe_bl)) pss_nil)
      (pss_cons (ps_if (pt_cmpR op_isN (pe_call GF hr1 (by rfl) gF kF bF .nil pass0 (pa_cons (pv 6) pa_nil)) pe_non (nomark _)) (pss_one (ps_ret pe_bl)) pss_nil)
      (pss_one (ps_ret (pe_callB (cr_all (by rfl)) (by rfl) ma (by decide +kernel) (pa_cons (pe_lc (own := [("shares", 9)]) (g := gName 9) rfl S.nd (pi_list (pe_call GS hr1 (by rfl) gS kS bS .nil pass0 (pa_cons (pv 0) (pa_cons (pv 1) (pa_cons (pv 2) (pa_cons (pv 5) pa_nil)))))) (blkOk_by (N := NIu) (sc := defScope sIu) (by decide +kernel)) (fun _ _ _ _ _ => (pg_name (i := 9) S.nd rfl (.inl rfl))) (fun _ _ _ _ _ => pts_nil) (fun _ _ _ _ _ => (pe_cmpR op_eq (pe_call GD hr1 (by rfl) gD kD bD .nil pass0 (pa_cons (pv 9) (pa_cons (pv 6) pa_nil))) pe_int (nomark _)))) pa_nil))))))))), ?_⟩
    rcases h with ⟨v, u, x, y, t, wv, wu, wx, wy, rfl, hv, hu, hx, hy, h⟩ | ⟨sa, ss, sc, rows, t, tw, wd, k, m, m2, kM, rfl, hs, hc, ok, ht, bts, q⟩
    · refine ⟨_, rfl, _, rfl, _, rfl, _, rfl, v, u, x, y, wv, wu, wx, wy, rfl, hv, hu, hx, hy, ?_⟩
      rcases h with ⟨e, h⟩ | ⟨e1, e2, h⟩ | ⟨e1, e2, e3, h⟩ | ⟨e1, e2, e3, e4, h⟩
      · exact .inl ⟨e, h⟩
      · exact .inr (.inl ⟨e1, e2, h⟩)
      · exact .inr (.inr (.inl ⟨e1, e2, e3, h⟩))
      · exact .inr (.inr (.inr (.inl ⟨e1, e2, e3, e4, h⟩)))
    · refine ⟨_, rfl, _, rfl, _, rfl, _, rfl, ?_⟩
      dsimp only [tNil]
      refine cs_good hs hc ok fun H1 s1 => ?_
      obtain ⟨sa', ea, rs, l45⟩ := id hs
      cases ea
      have n8 := ok.n8
      have kn := ok.kn
      have w6 := ok.w6
      have kw : k * wd ≤ 45 := Nat.le_trans (Nat.mul_le_mul_right wd kn) ok.sz
      have ht1 := ht.same s1
      have no : ∀ H', Same H H' → iuW ss wd k rows tw = false → Q (.bl false) H' := fun H' s e => by
        have z := q H' s
        rw [e] at z
        exact z
      refine ⟨_, rfl, t, tw, 2, rfl, ht1, _, rfl, ?_⟩
      cases ht1 with
      | @tup ta txs tws tz te tt =>
        have e0 : isTupOf 2 (.tup tws) = decide ((tws.length : Int) = 2) := rfl
        rw [e0]
        by_cases c2 : (tws.length : Int) = 2
        · rw [decide_eq_true c2]
          obtain ⟨w1, w2, rfl⟩ : ∃ w1 w2, tws = [w1, w2] := by
            match tws, c2 with
            | [w1, w2], _ => exact ⟨w1, w2, rfl⟩
          cases tt with
          | @cons x1 _ xs1 _ i1 tt =>
          cases tt with
          | @cons x2 _ xs2 _ i2 tt =>
          cases tt
          refine iteF ⟨_, rfl, ta, _, _, x1, rfl, rfl, .inl te, at_of (j := 0) rfl rfl, _, rfl, x1, w1, k, rfl, i1, _, rfl, ?_⟩
          cases i1 with
          | @tup la lxs ls lz le lt =>
            have e1 : isTupOf (k : Int) (.tup ls) = decide ((ls.length : Int) = k) := rfl
            have llx : lxs.length = ls.length := lt.len
            rw [e1]
            by_cases c3 : (ls.length : Int) = k
            · rw [decide_eq_true c3]
              refine iteF ⟨_, rfl, ta, _, _, .ref la, rfl, rfl, .inl te, at_of (j := 0) rfl rfl, la, lxs, ls, rfl, le, lt, lz, fun H2 s2 => ⟨_, rfl, ?_⟩⟩
              have no2 : (∀ ns, w2 = .tup ns → pairB ss wd k rows ls ns = false) → iuW ss wd k rows (.tup [.tup ls, w2]) = false := fun h => by
                cases w2 with
                | tup ns => exact h ns rfl
                | _ => rfl
              cases ca : ascW ls with
              | false =>
                refine iteT (no _ (s1.trans s2) (no2 fun ns _ => ?_))
                unfold pairB
                rw [ca, Bool.false_and, Bool.and_false]
              | true =>
              have al : ls.all (withinW 1 9) = true := by
                unfold ascW at ca
                rw [Bool.and_eq_true] at ca
                exact ca.1
              have exl := vI_of lt al
              have lil : (ls.map intW).length = k := by rw [List.length_map]; omega
              refine iteF ⟨_, rfl, ta, _, rfl, .inl (Rd.same te s2), rfl, _, _, rfl, _, _, rfl, rfl, ?_⟩
              have s12 := s1.trans s2
              have le2 := Rd.same le s2
              generalize hil : ls.map intW = il at exl lil
              subst exl
              dsimp only [tSeq, tIfS, tOr, tNot, tB, tCB, tCons, tNil, List.map, List.set]
              refine wf_lc (bs := (il.map fun s => decide (s ∈ ss)).map some) (walk_tup (K := K) (a := la) (xs := vI il)) (fun _ y b => y = V.bl b) (fun _ _ _ _ _ e => e) (fun R hR => ⟨_, rfl, la, rfl, ⟨_, .inl le2⟩, hR⟩) (fun H3 s3 => .inl (Rd.same le2 s3)) (by rw [List.length_map, List.length_map, List.length_map]) (by rw [List.length_map]; omega) (fun j x H3 H4 bb hb s3 y Dl hDl nDl R Z hRR hZ => ?_) fun p ys H3 s3 np ep hp => ?_
              · obtain ⟨rfl, hx2⟩ := y
                rw [List.getElem?_map] at hx2
                obtain ⟨n1, hn1, rfl⟩ := Option.map_eq_some_iff.mp hx2
                rw [List.getElem?_map, List.getElem?_map, hn1] at hb
                cases hb
                refine ⟨rfl, ?_⟩
                dsimp only [tYes]
                rw [if_pos rfl]
                refine ⟨_, rfl, _, rfl, sa, vI ss, rfl, .inr (.inl (Rd.same (Rd.same rs s12) s3)), rfl, flat_ints _, ?_⟩
                rw [if_neg Bool.false_ne_true, inV_ints]
                exact hRR _ _ _ rfl (Same.refl _) rfl
              rw [List.filterMap_map, show (id ∘ some : Bool → Option Bool) = some from rfl, List.filterMap_some] at hp
              have ey : ys = (il.map fun s => decide (s ∈ ss)).map V.bl := by
                clear ep
                generalize il.map (fun s => decide (s ∈ ss)) = B at hp
                induction hp with
                | nil => rfl
                | cons e _ ih => rw [e, ih]; rfl
              rw [ey] at ep
              have s13 := s12.trans s3
              refine ⟨p, _, rfl, SqL.of ep, _, rfl, ?_⟩
              rw [show ((il.map fun s => decide (s ∈ ss)).all id) = il.all (fun s => decide (s ∈ ss)) by rw [List.all_map]; rfl]
              cases cm : il.all (fun s => decide (s ∈ ss)) with
              | false =>
                refine iteT (no _ s13 (no2 fun ns _ => ?_))
                unfold pairB
                rw [hil, cm, Bool.false_and, Bool.and_false, Bool.and_false]
              | true =>
              refine iteF ⟨_, rfl, _, rfl, _, rfl, _, _, rfl, rfl, wide_mul (a := 10) (b := 10) (by rw [Int.natAbs_natCast]; omega) (by rw [Int.natAbs_natCast]; omega) (by decide) (by decide) (by decide), x2, w2, _, rfl, i2.same (s2.trans s3), fun H4 s4 => ⟨_, rfl, ?_⟩⟩
              have s14 := s13.trans s4
              cases cn : numsW ((k : Int) * wd) w2 with
              | false =>
                refine iteT (no _ s14 (no2 fun ns e => ?_))
                subst e
                unfold pairB
                rw [cn, Bool.false_and, Bool.and_false, Bool.and_false, Bool.and_false]
              | true =>
              refine iteF ?_
              cases i2 with
              | @tup na nxs ns nz ne nt =>
                have cn2 : (decide ((ns.length : Int) = (k : Int) * wd) && ns.all isNum) = true := cn
                rw [Bool.and_eq_true] at cn2
                have nlen := of_decide_eq_true cn2.1
                have exn := nums_ints (n := 0) nt cn2.2
                have bn := bts ls ns rfl
                generalize hin : ns.map intW = inn at exn bn
                have linn : (inn.length : Int) = (k : Int) * wd := by rw [← hin, List.length_map]; exact nlen
                subst exn
                have ln2 : inn.length = k * wd := by
                  have z : ((k * wd : Nat) : Int) = (k : Int) * wd := Int.natCast_mul ..
                  omega
                have ne4 := Rd.same (Rd.same (Rd.same ne s2) s3) s4
                refine ⟨_, rfl, na, inn, rfl, ⟨na, rfl, ne4, by omega⟩, fun H5 s5 => ?_⟩
                have s15 := s14.trans s5
                refine ⟨rfl, _, rfl, ?_⟩
                cases fz : firstNz inn with
                | none =>
                  rw [show decide (placeV none = V.non) = true from decide_eq_true rfl]
                  refine iteT (no _ s15 (no2 fun ns2 e => ?_))
                  cases e
                  unfold pairB
                  rw [hin, fz]
                  show (_ && (_ && (_ && (_ && (false && _))))) = false
                  rw [Bool.false_and, Bool.and_false, Bool.and_false, Bool.and_false, Bool.and_false]
                | some p0 =>
                rw [show decide (placeV (some p0) = V.non) = false from decide_eq_false (fun z => by cases z)]
                refine iteF ?_
                have nlost : (lostI ss il).length = k := by
                  have asc : ascB il = true := by
                    unfold ascW at ca
                    rw [Bool.and_eq_true, hil] at ca
                    exact ca.2
                  have sub : List.Sublist il ss := by
                    have sb : ∀ x ∈ il, x ∈ ss := fun x hx => of_decide_eq_true (List.all_eq_true.mp cm x hx)
                    exact sub_of (asc_pair asc) (asc_pair ok.asc) sb
                  rw [lostI_len sub (asc_nodup ok.asc)]
                  exact lil
                have lsh : (sharesF ss il wd rows).length = rows.length := List.length_map ..
                have shl : ∀ r ∈ sharesF ss il wd rows, r.length = inn.length ∧ Bt 9000 r := fun r hr => by
                  obtain ⟨r0, h0, rfl⟩ := List.mem_map.mp hr
                  have z := ok.szz
                  refine ⟨by rw [List.length_map, plF_len, nlost, ln2], fun x hx => Nat.lt_of_lt_of_le (bt_sub (ok.bt2 r0 h0) x hx) (Nat.pow_le_pow_right (by decide) (by omega))⟩
                dsimp only [tNext, tSeq, tRet, tCB, tCons, tNil, List.map]
                refine wf_lcH (bs := (sharesF ss il wd rows).map fun r => some (decide (dotF r inn = 0))) (n := rows.length) (Y := fun i H v H' => H' = H ∧ ∃ a r, v = V.ref a ∧ (sharesF ss il wd rows)[i]? = some r ∧ H a = some (.lst (vI r))) (fun _ y b => y = V.bl b) (fun _ _ _ _ _ e => e) (fun R hR => ⟨_, rfl, _, rfl, _, rfl, _, rfl, .ref sa, sc, .ref la, ss, il, rows, wd, rfl, hs.same s15, ⟨la, rfl, Rd.same (Rd.same (Rd.same le2 s3) s4) s5, by omega⟩, hc.same s15, ok.sz, by omega, ok.rl, by have := ok.r24; omega, fun p ps H6 s6 ep hm => ⟨p, rfl, ⟨_, SqL.of ep⟩, hR (Itl K p) (fun H7 => SqL K H7 p (ps.map V.ref) ∧ MatH H7 ps (sharesF ss il wd rows)) H6 s6 ?_ fun H7 s7 => ⟨SqL.of (s7 _ _ ep), hm.same s7⟩⟩⟩) (by rw [List.length_map, lsh]) (by have := ok.r24; omega) (fun j x H6 H7 bb hb s6 y Dl hDl nDl R Z hRR hZ => ?_) fun p ys H6 s6 np ep hp => ?_
                · have z := walk_list (K := K) (a := p) (xs := ps.map V.ref)
                  rw [List.length_map, paired_len hm, lsh] at z
                  refine z.mono (fun H7 h => h.1) fun i H7 x H8 hi h y => ⟨y.1, ?_⟩
                  have hx := y.2
                  rw [List.getElem?_map] at hx
                  obtain ⟨a, ha, rfl⟩ := Option.map_eq_some_iff.mp hx
                  obtain ⟨r, hr⟩ : ∃ r, (sharesF ss il wd rows)[i]? = some r := ⟨_, List.getElem?_eq_getElem (by rw [lsh]; exact hi)⟩
                  obtain ⟨a2, ha2, er⟩ := paired_at h.2 hr
                  rw [ha] at ha2
                  cases ha2
                  exact ⟨a, r, rfl, hr, er⟩
                · obtain ⟨rfl, a, r, rfl, hr, er⟩ := y
                  rw [List.getElem?_map, hr] at hb
                  cases hb
                  obtain ⟨l1, l2⟩ := shl r (List.mem_of_getElem? hr)
                  refine ⟨rfl, ?_⟩
                  dsimp only [tYes]
                  rw [if_pos rfl]
                  refine ⟨_, rfl, _, rfl, a, .ref na, r, inn, rfl, er, ⟨na, rfl, Rd.same (Rd.same ne4 s5) s6, by omega⟩, l1, l2, bn, fun H8 s8 => ⟨rfl, hRR _ _ _ rfl s8 ?_⟩⟩
                  by_cases c : dotF r inn = 0
                  · rw [decide_eq_true c, decide_eq_true (by rw [c])]
                  · rw [decide_eq_false c, decide_eq_false fun z => c (V.int.inj z)]
                · have fm : ((sharesF ss il wd rows).map fun r => some (decide (dotF r inn = 0))).filterMap id = (sharesF ss il wd rows).map fun r => decide (dotF r inn = 0) := by
                    generalize sharesF ss il wd rows = B
                    induction B with
                    | nil => rfl
                    | cons b B ih =>
                      rw [List.map_cons, List.filterMap_cons]
                      show _ :: _ = _ :: _
                      rw [ih]
                  rw [fm] at hp
                  have ey : ys = ((sharesF ss il wd rows).map fun r => decide (dotF r inn = 0)).map V.bl := by
                    clear ep fm
                    generalize (sharesF ss il wd rows).map (fun r => decide (dotF r inn = 0)) = B at hp
                    induction hp with
                    | nil => rfl
                    | cons e _ ih => rw [e, ih]; rfl
                  rw [ey] at ep
                  refine ⟨p, _, rfl, SqL.of ep, ?_⟩
                  have z := q H6 (s15.trans s6)
                  have e : iuW ss wd k rows (.tup [.tup ls, .tup ns]) = (sharesF ss il wd rows).all fun r => decide (dotF r inn = 0) := by
                    show pairB ss wd k rows ls ns = _
                    unfold pairB
                    rw [decide_eq_true c3, ca, hil, cm, cn, hin, fz]
                    rfl
                  rw [e] at z
                  rw [List.all_map]
                  exact z
              | _ => exact absurd cn Bool.false_ne_true
            · rw [decide_eq_false c3]
              refine iteT (no _ s1 ?_)
              cases w2 with
              | tup ns =>
                show pairB ss wd k rows ls ns = false
                unfold pairB
                rw [decide_eq_false c3]
                rfl
              | _ => rfl
          | _ => exact iteT (no _ s1 (by cases w2 <;> rfl))
        · rw [decide_eq_false c2]
          refine iteT (no _ s1 ?_)
          unfold iuW
          split
          · rename_i h
            cases h
            exact absurd rfl c2
          · rfl
      | _ => exact iteT (no _ s1 rfl)
end
end Kn
-- part VTie
/-! The law's ranks and the package's numbers that are not seen. -/
namespace Kn
open PySem PySem.Spec PyProof.Rows L2 La
/-- the law's columns at these places -/
def colsP (ps : List Nat) (rows : List (List Int)) : List (List Int) := ps.map fun p => rows.map (fun r => r.getD p 0) ++ [0]
theorem cols_len {ps : List Nat} {rows : List (List Int)} : ∀ r ∈ colsP ps rows, r.length = rows.length + 1 := fun r hr => by
  obtain ⟨p, _, rfl⟩ := List.mem_map.mp hr
  rw [List.length_append, List.length_map]
  rfl
theorem cols_at {ps : List Nat} {rows : List (List Int)} {k : Nat} : colA (colsP ps rows) k = ps.map fun p => if h : k < rows.length then (rows[k]).getD p 0 else 0 := by
  unfold colA colsP
  rw [List.map_map]
  refine List.map_congr_left fun p _ => ?_
  show (rows.map (fun r : List Int => r.getD p 0) ++ [0]).getD k 0 = _
  rw [List.getD_eq_getElem?_getD]
  by_cases h : k < rows.length
  · rw [List.getElem?_append_left (by rw [List.length_map]; exact h), List.getElem?_map, List.getElem?_eq_getElem h, dif_pos h]
    rfl
  · rw [dif_neg h, List.getElem?_append_right (by rw [List.length_map]; omega), List.length_map]
    cases k - rows.length with
    | zero => rfl
    | succ n => rfl
theorem rel_cols {ps : List Nat} {rows : List (List Int)} {y : Nat → Int} : Rel (colsP ps rows) y ↔ Sol (rows.map fun r => ps.map fun p => r.getD p 0) y := by
  constructor
  · intro h r hr
    obtain ⟨r0, h0, rfl⟩ := List.mem_map.mp hr
    obtain ⟨k, hk, rfl⟩ := List.getElem_of_mem h0
    have z := h k
    rw [cols_at] at z
    refine Eq.trans ?_ z
    congr 1
    refine List.map_congr_left fun p _ => ?_
    rw [dif_pos hk]
  · intro h k
    rw [cols_at]
    by_cases hk : k < rows.length
    · have z := h _ (List.mem_map.mpr ⟨rows[k], List.getElem_mem hk, rfl⟩)
      refine Eq.trans ?_ z
      congr 1
      refine List.map_congr_left fun p _ => ?_
      rw [dif_pos hk]
    · refine dot_zero fun i hi => ?_
      rw [List.getD_eq_getElem?_getD, List.getElem?_map]
      cases e : ps[i]? with
      | none => exact Int.zero_mul _
      | some p =>
        show (if h : k < rows.length then (rows[k]).getD p 0 else 0) * y i = 0
        rw [dif_neg hk, Int.zero_mul]
/-- nothing is found of a choice exactly where its columns' rank is full -/
theorem see_rank {ss c : List Int} {w k m m2 kM : Nat} {rows : List (List Int)} (ok : SchOk ss w k rows m m2 kM) (hc : c ∈ combsL ss k) : (seeF ss w k rows c).isSome = true ↔ rankF (colsP (plF w (lostI ss c)) rows) < k * w := by
  have rb := ok.rw_ hc
  obtain ⟨sub, lk⟩ := mem_combs.mp hc
  have ll := lostI_len sub (asc_nodup ok.asc)
  have lp : (plF w (lostI ss c)).length = k * w := by rw [plF_len, ll, lk]
  have lc : (colsP (plF w (lostI ss c)) rows).length = k * w := by
    unfold colsP
    rw [List.length_map, lp]
  obtain ⟨_, t2, _, t4⟩ := takes_ok rb (sharesF ss c w rows).length (Nat.le_refl _)
  rw [List.take_length] at t2 t4
  obtain ⟨⟨D, E, spi, _⟩, _, _⟩ := t2
  have rl := rank_lt (vs := colsP (plF w (lostI ss c)) rows) cols_len
  rw [lc] at rl
  rw [rl]
  unfold seeF
  constructor
  · intro h
    obtain ⟨ns, e⟩ := Option.isSome_iff_exists.mp h
    obtain ⟨l1, s1, i, i1, i2⟩ := unseen_some spi e
    exact ⟨fun k => ns.getD k 0, rel_cols.mpr ((t4 _).mp s1), i, i1, i2⟩
  · rintro ⟨y, hy, i, i1, i2⟩
    cases e : unseenF (k * w) (takesF (sharesF ss c w rows)) with
    | some ns => rfl
    | none => exact absurd (unseen_none spi e ((t4 y).mpr (rel_cols.mp hy)) i i1) i2
/-- unborne finds something exactly where some choice's rank is not full -/
theorem ub_rank {ss : List Int} {w k m m2 kM : Nat} {rows : List (List Int)} (ok : SchOk ss w k rows m m2 kM) : (ubF ss w k rows).isSome = true ↔ ∃ c ∈ combsL ss k, rankF (colsP (plF w (lostI ss c)) rows) < k * w := by
  unfold ubF
  rw [List.findSome?_isSome_iff]
  refine ⟨fun ⟨c, hc, h⟩ => ⟨c, hc, (see_rank ok hc).mp ?_⟩, fun ⟨c, hc, h⟩ => ⟨c, hc, ?_⟩⟩
  · rw [Option.isSome_map] at h
    exact h
  · rw [Option.isSome_map]
    exact (see_rank ok hc).mpr h
/-- what is found is a choice and numbers, not all 0, that no row sees -/
theorem ub_pair {ss : List Int} {w k m m2 kM : Nat} {rows : List (List Int)} (ok : SchOk ss w k rows m m2 kM) {c ns : List Int} (h : ubF ss w k rows = some (c, ns)) : c ∈ combsL ss k ∧ ns.length = k * w ∧ (∃ i, i < k * w ∧ ns.getD i 0 ≠ 0) ∧ ∀ r ∈ sharesF ss c w rows, dotN r (fun i => ns.getD i 0) = 0 := by
  unfold ubF at h
  obtain ⟨l1, a, l2, e, e1, _⟩ := List.findSome?_eq_some_iff.mp h
  obtain ⟨ns', e2, e3⟩ := Option.map_eq_some_iff.mp e1
  cases e3
  have hc : c ∈ combsL ss k := by rw [e]; exact List.mem_append_right _ (List.mem_cons_self ..)
  have rb := ok.rw_ hc
  obtain ⟨_, t2, _, t4⟩ := takes_ok rb (sharesF ss c w rows).length (Nat.le_refl _)
  rw [List.take_length] at t2 t4
  obtain ⟨⟨D, E, spi, _⟩, _, _⟩ := t2
  obtain ⟨u1, u2, u3⟩ := unseen_some spi e2
  exact ⟨hc, u1, u3, (t4 _).mp u2⟩
end Kn
-- part VIdx
/-! tuple.index of a number. -/
namespace L2
open PySem PySem.Spec PyProof.Rows
section
variable {X : Cx}
theorem mt_tup_indexI : MtR X "tuple.index" (fun x xs H Q => ∃ p, ∃ ys : List Int, ∃ z j, x = .ref p ∧ xs = [.int z] ∧ SqT X.K H p (ys.map V.int) ∧ ys[j]? = some z ∧ (∀ m, m < j → ys[m]? ≠ some z) ∧ Q (.int (j : Nat)) H) := by
  intro pins s σ H x xs v us Q I rx rs h
  obtain ⟨p, ys, z, j, rfl, rfl, hq, hy, hno, q⟩ := h
  cases rx
  obtain ⟨u, rfl, t, rfl⟩ := vals1 rs
  obtain ⟨its, r, pl, hz⟩ := I.tuple hq
  obtain ⟨⟨cls, dd, dt, sl⟩, ho, hc, n, hd⟩ := pl
  simp only at hc hd
  subst hc
  subst hd
  have hl : its.toArray.size = ys.length := by rw [List.size_toArray, ← r.length, List.length_map]
  have hj : j < its.toArray.size := by rw [hl]; exact (List.getElem?_eq_some_iff.mp hy).1
  have at' : ∀ (m : Nat) (hm : m < its.toArray.size), ∃ y t', ys[m]? = some y ∧ its.toArray[m] = Value.int y t' := fun m hm => by
    have hm' : m < ys.length := by rw [← hl]; exact hm
    obtain ⟨w, hw, t', hw'⟩ := r.get (i := m) (x := .int ys[m]) (by simp [hm'])
    refine ⟨ys[m], t', List.getElem?_eq_getElem hm', ?_⟩
    have e := (List.getElem?_eq_some_iff.mp hw).2
    rw [← hw', ← e]
    simp
  have fl : (ys.map V.int).all flatV = true := by
    rw [List.all_map]
    exact List.all_eq_true.mpr fun _ _ => rfl
  refine call_meets PySem.F.slot_tuple_index ⟨_, ho, rfl⟩ PySem.F.entry_tuple_index (PySem.F.args_tuple_index_2 _ _) (TI.tuple_indexAt p its.toArray n dd sl (.int z t) (eqU (.int z)) j hj ?_ ?_)
    ⟨ho, fun w hw => mem_eqAt (x := .int z) ⟨t, rfl⟩ rfl r fl w (by simpa using hw), ⟨.int (j : Nat), H, I.tok _, ⟨_, rfl⟩, q⟩⟩
  · obtain ⟨y, t', h1, h2⟩ := at' j hj
    rw [hy] at h1
    cases h1
    rw [h2]
    show decide (z = z) = true
    exact decide_eq_true rfl
  · intro m hm hmj
    obtain ⟨y, t', h1, h2⟩ := at' m hm
    rw [h2]
    show decide (y = z) = false
    exact decide_eq_false fun e => hno m hmj (e ▸ h1)
end
end L2
-- part ULg
set_option maxHeartbeats 4000000
/-! _law_gcd. -/
namespace Kn
open PySem PySem.Spec PyProof.Rows L2 La
abbrev sGc : Stmt := topS 45
abbrev NGc : List Str := ["_law_one", "_law_other"]
theorem scGc : FnScope NGc ["_law_one", "_law_other"] (defScope sGc) := ⟨rfl, rfl, rfl, by decide +kernel, rfl, by decide +kernel, by decide +kernel⟩
def spGc : Sp := fun vs H Q _ => ∃ a b : Int, vs = [.int a, .int b] ∧ Q (.int ((Nat.gcd a.natAbs b.natAbs : Nat) : Int)) H
theorem abs_nat (a : Int) : (if a < 0 then -a else a) = ((a.natAbs : Nat) : Int) := by split <;> omega
section
variable {P : Program} {w : World} {K : PySem.W.Frag} {mg : Str → Option Value} {base : Heap}
theorem ok_gcd {f : Addr} {fd : FuncData} (F : Fun K "_law_gcd" "_law_gcd" sGc f fd) (ma : mg "abs" = none) : FnOk P w K mg base CX0 1 f fd ["_law_one", "_law_other"] spGc := by
  have S := scGc
  refine F.ok S (fun vs H Q E h => ?_) (fun cdv A outer s H vs Q E hr h => ?_)
  · obtain ⟨a, b, rfl, _⟩ := h
    rfl
  · obtain ⟨a, b, rfl, q⟩ := h
    refine ⟨_, (pss_cons (ps_par (i := 0) (j := 1) rfl S.nd rfl rfl (by decide) rfl rfl (pa_cons (pe_callB call_abs (by rfl) ma (by decide +kernel) (pa_cons (pv 0) pa_nil)) (pa_cons (pe_callB call_abs (by rfl) ma (by decide +kernel) (pa_cons (pv 1) pa_nil)) pa_nil)) (by rfl) (by rfl))
      (pss_cons (ps_while PassesOwn.never (pt_cmpR op_ne (pv 1) pe_int (nomark _))
        (pss_one (ps_par (i := 0) (j := 1) rfl S.nd rfl rfl (by decide) rfl rfl (pa_cons (pv 1) (pa_cons (pe_op op_mod (pv 0) (pv 1)) pa_nil)) (by rfl) (by rfl))))
      (pss_one (ps_ret (pv 0))))), ?_⟩
    refine ⟨_, rfl, a, rfl, _, rfl, b, rfl, ?_⟩
    refine ⟨_, _, rfl, ?_⟩
    rw [abs_nat, abs_nat]
    refine ⟨fun m σ H' => ∃ x y : Nat, σ = [some (.int (x : Nat)), some (.int (y : Nat))] ∧ H' = H ∧ Nat.gcd x y = Nat.gcd a.natAbs b.natAbs ∧ m = y, ⟨_, _, _, rfl, rfl, rfl, rfl⟩, ?_⟩
    rintro m σ H' ⟨x, y, rfl, rfl, hg, rfl⟩
    refine ⟨_, rfl, rfl, _, rfl, ?_⟩
    by_cases c : m = 0
    · subst c
      rw [decide_eq_true (show V.int ((0 : Nat) : Int) = V.int 0 from rfl)]
      refine iteF ⟨_, rfl, ?_⟩
      rw [Nat.gcd_zero_right] at hg
      rw [hg]
      exact q
    · rw [decide_eq_false (show ¬ V.int ((m : Nat) : Int) = V.int 0 from fun z => c (by injection z with z; omega))]
      refine iteT ⟨fun σ' H2 => σ' = [some (.int (m : Nat)), some (.int ((x % m : Nat) : Int))] ∧ H2 = H', fun σ' H2 ⟨e1, e2⟩ => ⟨x % m, Nat.mod_lt _ (by omega), m, x % m, e1, e2, ?_, rfl⟩, ?_⟩
      · rw [← hg, Nat.gcd_comm x m, Nat.gcd_rec m x, Nat.gcd_comm]
      · refine ⟨_, rfl, _, rfl, _, rfl, _, _, rfl, rfl, by omega, _, _, rfl, ?_, rfl⟩
        show [_, some (V.int ((x : Int) % (m : Int)))] = _
        rw [← Int.natCast_emod]
end
end Kn
-- part VLs
set_option maxHeartbeats 4000000
/-! _law_less. -/
namespace Kn
open PySem PySem.Spec PyProof.Rows L2 La
abbrev sLs : Stmt := topS 46
abbrev NLs : List Str := ["_law_vector", "_law_base", "_law_found", "_law_at_here", "_law_row", "_law_head", "_law_many", "_law_divisor", "_law_part", "_law_k"]
theorem scLs : FnScope NLs ["_law_vector", "_law_base"] (defScope sLs) := ⟨rfl, rfl, rfl, by decide +kernel, rfl, by decide +kernel, by decide +kernel⟩
/-- [F(k) for k in range(n)], numbers -/
theorem range_lc {σ : L2.St} {H : Hp} {Q : VK} {j n : Nat} {te : TE} {wi : L2.TI} (F : Nat → Int) (hi : ∀ R : It → Hp → Prop, R (Itr 0 n) H → wi σ H R) (n9 : n ≤ 900)
    (ht : ∀ k, k < n → ∀ (H2 : Hp), Same H H2 → ∀ (R : VK), R (.int (F k)) H2 → te ((wipe σ [j]).set j (some (.int (k : Nat)))) H2 R)
    (q : ∀ p H', Same H H' → H p = none → H' p = some (.lst (vI ((List.range n).map F))) → Q (.ref p) H') : tLc wi (gName j) tYes te [j] σ H Q := by
  refine hi _ fun D nD => lc_it (D := D) (walk_range (lo := 0) (n := n)) (fun i H2 => Same H H2 ∧ H2 D = some (.lst (vI ((List.range i).map F)))) ⟨same_new nD, upd_same⟩ (fun _ _ _ _ => trivial) ?_ ?_
  · rintro i x H2 H3 hi ⟨s2, e2⟩ ⟨rfl, rfl⟩
    refine ⟨wipe1 _ _ _, ?_⟩
    dsimp only [tYes]
    rw [if_pos rfl, Int.zero_add]
    refine ht i hi _ s2 _ ⟨_, e2, ?_, same_own nD s2, ?_⟩
    · rw [List.length_map, List.length_map, List.length_range]
      exact small1000 (by omega)
    · rw [upd_same, List.range_succ, List.map_append]
      unfold vI
      rw [List.map_append]
      rfl
  · rintro H2 ⟨s2, e2⟩
    exact q D H2 s2 nD e2
/-- rows with their places -/
def BrH (H : Hp) (ts : List Addr) (F : List Brow) : Prop := Paired (fun (t : Addr) (b : Brow) => ∃ r, H t = some (.tup [.int ((b.1 : Nat) : Int), .ref r]) ∧ H r = some (.lst (vI b.2))) ts F
theorem BrH.same {H H' : Hp} {ts : List Addr} {F : List Brow} (h : BrH H ts F) (s : Same H H') : BrH H' ts F := paired_imp (fun t p ⟨r, e1, e2⟩ => ⟨r, s _ _ e1, s _ _ e2⟩) h
def sumC (c : Nat → Nat) : Nat → Nat
  | 0 => 0
  | k + 1 => sumC c k + (c k + 1)
theorem sumC_le {c : Nat → Nat} {i : Nat} : ∀ {k : Nat}, i ≤ k → sumC c i ≤ sumC c k
  | 0, h => by rw [Nat.le_zero.mp h]; exact Nat.le_refl _
  | k + 1, h => by
    by_cases e : i = k + 1
    · rw [e]; exact Nat.le_refl _
    · exact Nat.le_trans (sumC_le (k := k) (by omega)) (by show sumC c k ≤ sumC c k + (c k + 1); omega)
def spLs : Sp := fun vs H Q _ => ∃ va ba v ts F, ∃ n b : Nat, ∃ c : Nat → Nat, vs = [.ref va, .ref ba] ∧ H va = some (.lst (vI v)) ∧ H ba = some (.lst (ts.map V.ref)) ∧ BrH H ts F ∧ v.length = n ∧ n ≤ 45 ∧ F.length ≤ 45 ∧ (∀ p ∈ F, p.2.length = n ∧ p.1 < n) ∧ Bt b v ∧ (∀ i p, F[i]? = some p → Bt (c i) p.2 ∧ 0 < c i) ∧ 0 < b ∧ b + sumC c F.length < 9000 ∧
  ∀ p H', Same H H' → H p = none → H' p = some (.lst (vI (lessF v F))) → Q (.ref p) H'
theorem comb_bt2 {b c : Nat} {t d : Int} {f r : List Int} (ht : t.natAbs < 2 ^ c) (hd : d.natAbs < 2 ^ b) (hf : Bt b f) (hr : Bt c r) : Bt (b + c + 1) (comb t d f r) := fun x hx => by
  unfold comb at hx
  obtain ⟨i, h1, rfl⟩ := List.mem_iff_getElem.mp hx
  rw [List.getElem_zipWith]
  rw [List.length_zipWith] at h1
  have h2 := hf _ (List.getElem_mem (show i < f.length by omega))
  have h3 := hr _ (List.getElem_mem (show i < r.length by omega))
  have z1 : (t * f[i]'(by omega)).natAbs < 2 ^ (b + c) := by
    rw [Int.natAbs_mul, Nat.pow_add, Nat.mul_comm]
    exact Nat.mul_lt_mul_of_lt_of_le h2 (Nat.le_of_lt ht) (Nat.two_pow_pos _)
  have z2 : (d * r[i]'(by omega)).natAbs < 2 ^ (b + c) := by
    rw [Int.natAbs_mul, Nat.pow_add]
    exact Nat.mul_lt_mul_of_lt_of_le hd (Nat.le_of_lt h3) (Nat.two_pow_pos _)
  rw [Nat.pow_succ]
  omega
theorem natAbs_ediv_le' (a b : Int) : (a / b).natAbs ≤ a.natAbs := Int.natAbs_ediv_le_natAbs a b
theorem norm_bt {b : Nat} {f : List Int} (h : Bt b f) : Bt b (normF f) := fun x hx => by
  unfold normF at hx
  split at hx
  · obtain ⟨y, hy, rfl⟩ := List.mem_map.mp hx
    exact Nat.lt_of_le_of_lt (natAbs_ediv_le' _ _) (h y hy)
  · exact h x hx
theorem bt_up {b c : Nat} {f : List Int} (h : Bt b f) (hc : b ≤ c) : Bt c f := fun x hx => Nat.lt_of_lt_of_le (h x hx) (Nat.pow_le_pow_right (by decide) hc)
theorem getD_bt {b i : Nat} {f : List Int} (h : Bt b f) : (f.getD i 0).natAbs < 2 ^ b := by
  by_cases c : i < f.length
  · exact h _ (getD_mem c)
  · rw [List.getD_eq_getElem?_getD, List.getElem?_eq_none (by omega)]
    exact Nat.two_pow_pos _
theorem less_take {v : List Int} {F : List Brow} {i : Nat} {p : Brow} (hp : F[i]? = some p) : lessF v (F.take (i + 1)) = lessStep (lessF v (F.take i)) p := by
  unfold lessF
  rw [List.take_add_one, hp, List.foldl_append]
  rfl
theorem less_bt {c : Nat → Nat} {F : List Brow} {v : List Int} {b : Nat} (h : Bt b v) (hF : ∀ i p, F[i]? = some p → Bt (c i) p.2 ∧ 0 < c i) : ∀ i, i ≤ F.length → Bt (b + sumC c i) (lessF v (F.take i))
  | 0, _ => h
  | i + 1, hi => by
    obtain ⟨p, hp⟩ : ∃ p, F[i]? = some p := ⟨_, List.getElem?_eq_getElem (by omega)⟩
    have hb := (hF i p hp).1
    have ih := less_bt h hF i (by omega)
    rw [less_take hp]
    unfold lessStep
    split
    · exact bt_up (norm_bt (comb_bt2 (getD_bt hb) (getD_bt ih) ih hb)) (by show _ ≤ b + (sumC c i + (c i + 1)); omega)
    · exact bt_up ih (by show _ ≤ b + (sumC c i + (c i + 1)); omega)
theorem list_ext0 {a b : List Int} {n : Nat} (h1 : a.length = n) (h2 : b.length = n) (h : ∀ j, j < n → a.getD j 0 = b.getD j 0) : a = b := by
  refine List.ext_getElem (by omega) fun i z1 z2 => ?_
  have z := h i (by omega)
  rw [List.getD_eq_getElem?_getD, List.getD_eq_getElem?_getD, List.getElem?_eq_getElem z1, List.getElem?_eq_getElem z2] at z
  exact z
theorem comb_range {t d : Int} {f r : List Int} {n : Nat} (h1 : f.length = n) (h2 : r.length = n) : (List.range n).map (fun k => t * f.getD k 0 - d * r.getD k 0) = comb t d f r := by
  refine list_ext0 (n := n) (by rw [List.length_map, List.length_range]) (by rw [comb_len (by omega)]; exact h1) fun j hj => ?_
  rw [comb_at (by omega), List.getD_eq_getElem?_getD, List.getElem?_map, List.getElem?_range hj]
  rfl
section
variable {P : Program} {w : World} {K : PySem.W.Frag} {mg : Str → Option Value} {base : Heap}
theorem ok_less {f f1 : Addr} {fd fd1 : FuncData} (F : Fun K "_law_less" "_law_less" sLs f fd) (G1 : FnOk P w K mg base CX0 1 f1 fd1 ["_law_one", "_law_other"] spGc) (k1 : PySem.W.keepIn K (.ref f1) = true) (b1 : Binds K fd1 ["_law_one", "_law_other"] []) (g1 : mg "_law_gcd" = some (.ref f1))
    (ml : mg "list" = none) (mr : mg "range" = none) (mn : mg "len" = none) : FnOk P w K mg base CX0 2 f fd ["_law_vector", "_law_base"] spLs := by
  have S := scLs
  refine F.ok S (fun vs H Q E h => ?_) (fun cdv A outer s H vs Q E hr h => ?_)
  · obtain ⟨va, ba, v, ts, Fs, n, b, c, rfl, _⟩ := h
    rfl
  · obtain ⟨va, ba, v, ts, Fs, n, b, c, rfl, hva, hba, hts, vn, n45, f45, hF, bv, bF, b0, sz, q⟩ := h
    refine ⟨_, (pss_cons (ps_set (i := 2) S.nd rfl (.inr rfl) (pe_callTy (show CallR _ (.type "list") (rLstA K) from call_list_of) (by rfl) ml (by decide +kernel) (pa_cons (pv 0) pa_nil)))
      (pss_cons (ps_for PassesOwn.never rfl (pi_list (pv 1)) (pg_tup rfl (pgs_cons (pg_name (i := 3) S.nd rfl (.inl rfl)) (pgs_cons (pg_name (i := 4) S.nd rfl (.inr rfl)) pgs_nil)))
        (pss_one (ps_if (pt_cmpR op_ne (pe_ix (show IxR _ (rIxL K) from ix_list) (pv 2) (pv 3) (fun _ _ => rfl)) pe_int (nomark _)) (pss_cons (ps_asg (pe_tup (pa_cons (pe_ix (show IxR _ (rIxL K) from ix_list) (pv 2) (pv 3) (fun _ _ => rfl)) (pa_cons (pe_ix (show IxR _ (rIxL K) from ix_list) (pv 4) (pv 3) (fun _ _ => rfl)) pa_nil))) (pg_tup rfl (pgs_cons (pg_name (i := 5) S.nd rfl (.inr rfl)) (pgs_cons (pg_name (i := 6) S.nd rfl (.inr rfl)) pgs_nil))))
          (pss_cons (ps_set (i := 2) S.nd rfl (.inr rfl) (pe_lc (own := [("_law_k", 9)]) (g := gName 9) rfl S.nd (pi_range1 (by rfl) mr (pa_cons (pe_callB (show CallR _ (.builtin "len") (rLenS K) from call_len_seq) (by rfl) mn PySem.boot_len (pa_cons (pv 2) pa_nil)) pa_nil)) (blkOk_by (N := NLs) (sc := defScope sLs) (by decide +kernel)) (fun _ _ _ _ _ => (pg_name (i := 9) S.nd rfl (.inl rfl))) (fun _ _ _ _ _ => pts_nil) (fun _ _ _ _ _ => (pe_op op_sub (pe_op op_mulW (pv 6) (pe_ix (show IxR _ (rIxL K) from ix_list) (pv 2) (pv 9) (fun _ _ => rfl))) (pe_op op_mulW (pv 5) (pe_ix (show IxR _ (rIxL K) from ix_list) (pv 4) (pv 9) (fun _ _ => rfl)))))))
          (pss_cons (ps_set (i := 7) S.nd rfl (.inr rfl) pe_int)
          (pss_cons (ps_for PassesOwn.never rfl (pi_list (pv 2)) (pg_name (i := 8) S.nd rfl (.inl rfl))
            (pss_one (ps_set (i := 7) S.nd rfl (.inr rfl) (pe_call G1 hr (by rfl) g1 k1 b1 .nil pass0 (pa_cons (pv 7) (pa_cons (pv 8) pa_nil))))))
          (pss_one (ps_set (i := 2) S.nd rfl (.inr rfl) (pe_ifExp (pt_cmpR op_gt (pv 7) pe_int (nomark _)) (pe_lc (own := [("_law_part", 8)]) (g := gName 8) rfl S.nd (pi_list (pv 2)) (blkOk_by (N := NLs) (sc := defScope sLs) (by decide +kernel)) (fun _ _ _ _ _ => (pg_name (i := 8) S.nd rfl (.inl rfl))) (fun _ _ _ _ _ => pts_nil) (fun _ _ _ _ _ => (pe_op op_fdivX (pv 8) (pv 7)))) (pv 2)))))))) pss_nil)))
      (pss_one (ps_ret (pv 2))))), ?_⟩
    have lts : ts.length = Fs.length := paired_len hts
    dsimp only [tSeq, tAsg, tCB, tCons, List.map]
    refine ⟨_, rfl, va, vI v, rfl, .inl (SqL.of hva), fun fl nfl => ?_⟩
    have s1 : Same H (L2.upd H fl (.lst (vI v))) := same_new nfl
    have efl : (L2.upd H fl (.lst (vI v))) fl = some (.lst (vI v)) := upd_same
    generalize L2.upd H fl (.lst (vI v)) = H1 at s1 efl ⊢
    have pre : ∀ i, i ≤ Fs.length → (lessF v (Fs.take i)).length = n ∧ Bt (b + sumC c i) (lessF v (Fs.take i)) := fun i hi =>
      ⟨lessF_len vn fun p hp => (hF p (List.mem_of_mem_take hp)).1, less_bt bv bF i hi⟩
    change tFor _ _ _ _ _ _
    refine ⟨_, rfl, ba, rfl, ⟨_, SqL.of (s1 _ _ hba)⟩, for_list (xs := ts.map V.ref) (fun i σ H2 => ∃ y3 y4 y5 y6 y7 y8 y9 fl2, σ = [some (.ref va), some (.ref ba), some (.ref fl2), y3, y4, y5, y6, y7, y8, y9] ∧ Same H H2 ∧ H fl2 = none ∧ H2 fl2 = some (.lst (vI (lessF v (Fs.take i)))))
      ⟨none, none, none, none, none, none, none, fl, rfl, s1, nfl, efl⟩ (fun i σ H2 _ ⟨_, _, _, _, _, _, _, _, _, s2, _⟩ => SqL.of (s2 _ _ hba)) ?_ ?_⟩
    · rintro i x σ H2 hx ⟨y3, y4, y5, y6, y7, y8, y9, fl2, rfl, s2, nfl2, efl2⟩
      rw [List.getElem?_map] at hx
      obtain ⟨t, ht, rfl⟩ := Option.map_eq_some_iff.mp hx
      have li := (List.getElem?_eq_some_iff.mp ht).1
      obtain ⟨p, hp⟩ : ∃ p, Fs[i]? = some p := ⟨_, List.getElem?_eq_getElem (by omega)⟩
      obtain ⟨t2, et2, r, er1, er2⟩ := paired_at hts hp
      rw [ht] at et2
      cases et2
      have mem := List.mem_of_getElem? hp
      obtain ⟨rl, pl⟩ := hF p mem
      obtain ⟨fl', fb⟩ := pre i (by omega)
      obtain ⟨bp, c0⟩ := bF i p hp
      have le1 : b + sumC c (i + 1) ≤ b + sumC c Fs.length := Nat.add_le_add_left (sumC_le (by omega)) _
      have le2 : sumC c (i + 1) = sumC c i + (c i + 1) := rfl
      have hstep : lessF v (Fs.take (i + 1)) = lessStep (lessF v (Fs.take i)) p := less_take hp
      have cb : Bt (b + sumC c Fs.length) (comb (p.2.getD p.1 0) ((lessF v (Fs.take i)).getD p.1 0) (lessF v (Fs.take i)) p.2) := bt_up (comb_bt2 (getD_bt bp) (getD_bt fb) fb bp) (by omega)
      have fb : Bt (b + sumC c Fs.length) (lessF v (Fs.take i)) := bt_up fb (by omega)
      have c9 : c i < 9000 := by omega
      rw [hstep]
      generalize lessF v (Fs.take i) = f0 at fl' fb cb efl2
      have et := s2 _ _ er1
      have err := s2 _ _ er2
      refine ⟨t, _, rfl, SqT.of et, rfl, _, _, rfl, _, _, rfl, rfl, ?_⟩
      refine ⟨_, rfl, _, rfl, fl2, _, ((p.1 : Nat) : Int), .int (f0.getD p.1 0), rfl, rfl, SqL.of efl2, at_of rfl (row_at (by omega)), rfl, _, rfl, ?_⟩
      by_cases z : f0.getD p.1 0 = 0
      · rw [decide_eq_true (show V.int (f0.getD p.1 0) = V.int 0 by rw [z])]
        refine iteF ⟨_, _, _, _, _, _, _, fl2, rfl, s2, nfl2, ?_⟩
        rw [efl2]
        unfold lessStep
        rw [if_neg (by rw [z]; exact fun h => h rfl)]
      · rw [decide_eq_false (show ¬ V.int (f0.getD p.1 0) = V.int 0 from fun h => z (V.int.inj h))]
        have hs2 : lessStep f0 p = normF (comb (p.2.getD p.1 0) (f0.getD p.1 0) f0 p.2) := by
          unfold lessStep
          rw [if_pos z]
        refine iteT ⟨_, rfl, _, rfl, fl2, _, ((p.1 : Nat) : Int), .int (f0.getD p.1 0), rfl, rfl, SqL.of efl2, at_of rfl (row_at (by omega)), _, rfl, _, rfl, r, _, ((p.1 : Nat) : Int), .int (p.2.getD p.1 0), rfl, rfl, SqL.of err, at_of rfl (row_at (by omega)), by show 2 ≤ sizeLine; decide, fun t3 nt3 => ⟨t3, _, rfl, SqT.of upd_same, rfl, _, _, rfl, _, _, rfl, rfl, ?_⟩⟩
        have s3 : Same H2 (L2.upd H2 t3 (.tup [.int (f0.getD p.1 0), .int (p.2.getD p.1 0)])) := same_new nt3
        generalize L2.upd H2 t3 (.tup [.int (f0.getD p.1 0), .int (p.2.getD p.1 0)]) = H3 at s3 ⊢
        have e3 := s3 _ _ efl2
        have er3 := s3 _ _ err
        have mb : (p.2.getD p.1 0).natAbs < 2 ^ c i := getD_bt bp
        have hb : (f0.getD p.1 0).natAbs < 2 ^ (b + sumC c Fs.length) := getD_bt fb
        change tSeq _ _ _ _ _
        dsimp only [tSeq, tAsg, List.set]
        refine range_lc (n := n) (fun k => p.2.getD p.1 0 * f0.getD k 0 - f0.getD p.1 0 * p.2.getD k 0) (fun R hR => ⟨_, rfl, fl2, vI f0, rfl, .inl (SqL.of e3), _, rfl, ?_, ?_, ?_⟩) (by omega) (fun k hk H4 s4 R hR => ?_) (fun fl3 H4 s4 nfl3 e4 => ?_)
        · show -(2 ^ 62) ≤ (((vI f0).length : Nat) : Int)
          omega
        · show (((vI f0).length : Nat) : Int) < 2 ^ 62
          rw [List.length_map]
          omega
        · rw [Int.toNat_natCast, List.length_map, fl']
          exact hR
        · exact ⟨_, rfl, _, rfl, _, rfl, fl2, _, ((k : Nat) : Int), .int (f0.getD k 0), rfl, rfl, SqL.of (s4 _ _ e3), at_of rfl (row_at (by omega)), _, _, rfl, rfl, wide_mul mb (getD_bt fb) c0 (by omega) (by omega), _, rfl, _, rfl, _, rfl, r, _, ((k : Nat) : Int), .int (p.2.getD k 0), rfl, rfl, SqL.of (s4 _ _ er3), at_of rfl (row_at (by omega)), _, _, rfl, rfl, wide_mul hb (getD_bt bp) (by omega) c0 (by omega), _, _, rfl, rfl, hR⟩
        rw [comb_range fl' rl] at e4
        have lg : (comb (p.2.getD p.1 0) (f0.getD p.1 0) f0 p.2).length = n := by rw [comb_len (by omega), fl']
        rw [hs2]
        generalize comb (p.2.getD p.1 0) (f0.getD p.1 0) f0 p.2 = g0 at e4 lg cb ⊢
        change tSeq _ _ _ _ _
        dsimp only [tSeq, tAsg, List.set]
        change tSeq _ _ _ _ _
        dsimp only [tSeq, tAsg, List.set]
        refine ⟨_, rfl, fl3, rfl, ⟨_, SqL.of e4⟩, for_list (xs := vI g0) (fun j σ H5 => ∃ y8, σ = [some (.ref va), some (.ref ba), some (.ref fl3), some (.int ((p.1 : Nat) : Int)), some (.ref r), some (.int (f0.getD p.1 0)), some (.int (p.2.getD p.1 0)), some (.int (((g0.take j).foldl (fun g x => Nat.gcd g x.natAbs) 0 : Nat) : Int)), y8, y9] ∧ H5 = H4) ⟨y8, rfl, rfl⟩ (fun j σ H5 _ ⟨_, _, e⟩ => by rw [e]; exact SqL.of e4) ?_ ?_⟩
        · rintro j x5 σ H5 hx5 ⟨y8', rfl, rfl⟩
          rw [List.getElem?_map] at hx5
          obtain ⟨n5, hn5, rfl⟩ := Option.map_eq_some_iff.mp hx5
          refine ⟨_, rfl, _, rfl, _, n5, rfl, some (.int n5), ?_, rfl⟩
          rw [List.take_add_one, hn5, List.foldl_append, Int.natAbs_natCast]
          rfl
        · rintro σ H5 ⟨y8', rfl, rfl⟩
          rw [show (vI g0).length = g0.length from List.length_map .., List.take_length]
          have s5 := (s2.trans s3).trans s4
          refine ⟨_, rfl, _, _, rfl, rfl, _, rfl, ?_⟩
          show if decide ((1 : Int) < ((gcdL g0 : Nat) : Int)) = true then _ else _
          by_cases one : 1 < gcdL g0
          · rw [decide_eq_true (by omega)]
            have lb : (((gcdL g0 : Nat) : Int)).natAbs.log2 < 9000 := by
              rw [Int.natAbs_natCast]
              exact Nat.lt_of_lt_of_le (PySem.Flt.log2_lt_of (k := b + sumC c Fs.length) (by omega) (gcdL_bt cb)) (by omega)
            have gn : ((gcdL g0 : Nat) : Int) ≠ 0 := by omega
            refine iteT (map_lc (i := 2) (fun x => x / ((gcdL g0 : Nat) : Int)) rfl e4 (by omega) (fun n6 hn6 H6 R' z6 => ⟨_, rfl, _, rfl, _, _, rfl, rfl, ⟨gn, lb, gcdL_dvd hn6⟩, z6⟩) fun fl4 H6 s6 nfl4 e6 => ⟨_, _, _, _, _, _, _, fl4, rfl, s5.trans s6, s5.free nfl4, ?_⟩)
            rw [e6]
            unfold normF
            rw [if_pos one]
          · rw [decide_eq_false (by omega)]
            refine iteF ⟨_, rfl, _, _, _, _, _, _, _, fl3, rfl, s5, (s2.trans s3).free nfl3, ?_⟩
            rw [e4]
            unfold normF
            rw [if_neg one]
    · rintro σ H2 ⟨y3, y4, y5, y6, y7, y8, y9, fl2, rfl, s2, nfl2, efl2⟩
      rw [List.length_map, lts, List.take_length] at efl2
      exact ⟨_, rfl, q fl2 H2 s2 nfl2 efl2⟩
end
end Kn
-- part UEn
set_option maxHeartbeats 4000000
/-! xs == [], whatever the items are. -/
namespace L2
open PySem PySem.Spec PyProof.Rows
def rEqNil : R2 := fun x y H Q => ∃ a b xs, x = .ref a ∧ y = .ref b ∧ H a = some (.lst xs) ∧ H b = some (.lst []) ∧ Q (.bl xs.isEmpty) H
theorem op_eqNil {X : Cx} (hu : X.A.units < cLine) : OpR X (compareOp .Eq) rEqNil := by
  rintro pins s σ H x y v u Q I rx ry ⟨a, b, xs, rfl, rfl, ha, hb, q⟩
  cases (show v = Value.ref a from rx)
  cases (show u = Value.ref b from ry)
  obtain ⟨us, r1, p1, _⟩ := I.list (SqL.of ha)
  obtain ⟨ws, r2, p2, _⟩ := I.list (SqL.of hb)
  have hl := r1.length
  cases r2
  change wpAny _ _ (richCompare .Eq _ _) _ _ _
  cases xs with
  | nil =>
    cases r1
    exact SeqAt.RcAt.lists p1.isList p2.isList rfl hu (e := fun _ => true) (fun j h1 _ => absurd h1 (Nat.not_lt_zero j)) _ _ _ _ ⟨.bl true, H, I, rfl, q⟩
  | cons x xs =>
    refine SeqAt.RcAt.lists_lengths p1.isList p2.isList ?_ hu _ _ _ _ ⟨.bl false, H, I, rfl, q⟩
    rw [List.size_toArray, ← hl]
    rfl
end L2
-- part VAd
set_option maxHeartbeats 4000000
/-! _law_added, _law_rank. -/
namespace Kn
open PySem PySem.Spec PyProof.Rows L2 La
abbrev sAd : Stmt := topS 47
abbrev sRk : Stmt := topS 48
abbrev NAd : List Str := ["_law_base", "_law_vector", "_law_left_here", "_law_spots", "_law_k"]
abbrev NRk : List Str := ["_law_rows_here", "_law_base", "_law_row"]
theorem scAd : FnScope NAd ["_law_base", "_law_vector"] (defScope sAd) := ⟨rfl, rfl, rfl, by decide +kernel, rfl, by decide +kernel, by decide +kernel⟩
theorem scRk : FnScope NRk ["_law_rows_here"] (defScope sRk) := ⟨rfl, rfl, rfl, by decide +kernel, rfl, by decide +kernel, by decide +kernel⟩
def spAd : Sp := fun vs H Q _ => ∃ va ba v ts F, ∃ n b : Nat, ∃ c : Nat → Nat, vs = [.ref ba, .ref va] ∧ H va = some (.lst (vI v)) ∧ H ba = some (.lst (ts.map V.ref)) ∧ BrH H ts F ∧ v.length = n ∧ n ≤ 45 ∧ F.length ≤ 45 ∧ (∀ p ∈ F, p.2.length = n ∧ p.1 < n) ∧ Bt b v ∧ (∀ i p, F[i]? = some p → Bt (c i) p.2 ∧ 0 < c i) ∧ 0 < b ∧ b + sumC c F.length < 9000 ∧
  ∀ p ts' H', Same H H' → H' p = some (.lst (ts'.map V.ref)) → BrH H' ts' (addF F v) → Q (.ref p) H'
/-- bits of the base's rows -/
def cb (b : Nat) (i : Nat) : Nat := (b + 1) * 2 ^ i - 1
theorem cb_sum (b : Nat) : ∀ k, b + sumC (cb b) k = cb b k
  | 0 => by
    show b + 0 = (b + 1) * 1 - 1
    omega
  | k + 1 => by
    have ih := cb_sum b k
    have p := Nat.mul_pos (Nat.succ_pos b) (Nat.two_pow_pos k)
    show b + (sumC (cb b) k + (cb b k + 1)) = (b + 1) * 2 ^ (k + 1) - 1
    have e : (b + 1) * 2 ^ (k + 1) = (b + 1) * 2 ^ k + (b + 1) * 2 ^ k := by rw [Nat.pow_succ, ← Nat.mul_assoc, Nat.mul_two]
    have e2 : cb b k = (b + 1) * 2 ^ k - 1 := rfl
    have p : 0 < (b + 1) * 2 ^ k := p
    omega
theorem cb_mono {b i k : Nat} (h : i ≤ k) : cb b i ≤ cb b k := Nat.sub_le_sub_right (Nat.mul_le_mul_left _ (Nat.pow_le_pow_right (by decide) h)) _
def spRk : Sp := fun vs H Q _ => ∃ ra rs vecs, ∃ n b : Nat, vs = [.ref ra] ∧ H ra = some (.lst (rs.map V.ref)) ∧ MatH H rs vecs ∧ (∀ r ∈ vecs, r.length = n) ∧ (∀ r ∈ vecs, Bt b r) ∧ n ≤ 45 ∧ vecs.length ≤ 45 ∧ 0 < b ∧ cb b (vecs.length - 1) < 9000 ∧ ∀ H', Same H H' → Q (.int (rankF vecs : Nat)) H'
section
variable {P : Program} {w : World} {K : PySem.W.Frag} {mg : Str → Option Value} {base : Heap}
theorem ok_ad {f fL : Addr} {fd fdL : FuncData} (F : Fun K "_law_added" "_law_added" sAd f fd) (GL : FnOk P w K mg base CX0 2 fL fdL ["_law_vector", "_law_base"] spLs) (kL : PySem.W.keepIn K (.ref fL) = true) (bL : Binds K fdL ["_law_vector", "_law_base"] []) (gL : mg "_law_less" = some (.ref fL)) (mr : mg "range" = none) (mn : mg "len" = none) : FnOk P w K mg base CX0 3 f fd ["_law_base", "_law_vector"] spAd := by
  have S := scAd
  refine F.ok S (fun vs H Q E h => ?_) (fun cdv A outer s H vs Q E hr h => ?_)
  · obtain ⟨va, ba, v, ts, F, n, b, c, rfl, _⟩ := h
    rfl
  · obtain ⟨va, ba, v, ts, Fs, n, b, c, rfl, hva, hba, hts, vn, n45, f45, hF, bv, bF, b0, sz, q⟩ := h
    have hu0 : (cxOf CX0 P w K mg base NAd "_law_added" (defScope sAd) f cdv A outer s H E).nox.A.units < cLine := Nat.lt_of_succ_lt (hu_of hr)
    refine ⟨_, (pss_cons (ps_set (i := 2) S.nd rfl (.inr rfl) (pe_call GL hr (by rfl) gL kL bL .nil pass0 (pa_cons (pv 1) (pa_cons (pv 0) pa_nil))))
      (pss_cons (ps_setLc (i := 3) (own := [("_law_k", 4)]) (g := gName 4) rfl S.nd rfl rfl (sw_true rfl rfl rfl (by decide +kernel)) (pi_range1 (by rfl) mr (pa_cons (pe_callB (show CallR _ (.builtin "len") (rLenS K) from call_len_seq) (by rfl) mn PySem.boot_len (pa_cons (pv 2) pa_nil)) pa_nil)) (blkOk_by (N := NAd) (sc := defScope sAd) (by decide +kernel)) (fun _ _ _ _ _ => (pg_name (i := 4) S.nd rfl (.inl rfl))) (fun _ _ _ _ _ => (pts_one (pt_cmpR op_ne (pe_ix (show IxR _ (rIxL K) from ix_list) (pv 2) (pv 4) (fun _ _ => rfl)) pe_int (nomark _)))) (fun _ _ _ _ _ => (pv 4)))
      (pss_one (ps_ret (pe_ifExp (pt_cmpR (op_eqNil hu0) (pv 3) (pe_lst pa_nil) (nomark _)) (pv 0) (pe_op op_cat (pv 0) (pe_lst (pa_cons (pe_tup (pa_cons (pe_ix (show IxR _ (rIxL K) from ix_list) (pv 3) pe_int (fun _ _ => rfl)) (pa_cons (pv 2) pa_nil))) pa_nil)))))))), ?_⟩
    have ll := lessF_len (B := Fs) vn fun p hp => (hF p hp).1
    refine ⟨_, rfl, _, rfl, va, ba, v, ts, Fs, n, b, c, rfl, hva, hba, hts, vn, n45, f45, hF, bv, bF, b0, sz, fun la H1 s1 nla ela => ?_⟩
    unfold gName
    dsimp only [tSeq, tAsg, List.map, List.set]
    have fmE : ((List.range n).map fun k => if (lessF v Fs).getD k 0 ≠ 0 then some ((k : Nat) : Int) else none).filterMap id = ((List.range n).filter fun k => decide ((lessF v Fs).getD k 0 ≠ 0)).map fun k => ((k : Nat) : Int) := by
      generalize List.range n = R
      induction R with
      | nil => rfl
      | cons p R ih =>
        rw [List.map_cons, List.filterMap_cons, List.filter_cons]
        by_cases c : (lessF v Fs).getD p 0 ≠ 0
        · rw [if_pos c, decide_eq_true c, if_pos rfl]
          show _ :: _ = _ :: _
          rw [ih]
        · rw [if_neg c, decide_eq_false c]
          exact ih
    refine wf_lc (bs := (List.range n).map fun k => if (lessF v Fs).getD k 0 ≠ 0 then some ((k : Nat) : Int) else none) (walk_range (lo := 0) (n := n)) (fun _ y n => y = V.int n) (fun _ _ _ _ _ e => e) (fun R hR => ⟨_, rfl, la, _, rfl, .inl (SqL.of ela), _, rfl, ?_, ?_, ?_⟩) (fun _ _ => trivial) (by rw [List.length_map, List.length_range]) (by omega) (fun k x H3 H4 bb hb s3 y Dl hDl nDl R Z hR hZ => ?_) fun fl ys H3 s3 nfl efl hp => ?_
    · show -(2 ^ 62) ≤ (((vI (lessF v Fs)).length : Nat) : Int)
      omega
    · show (((vI (lessF v Fs)).length : Nat) : Int) < 2 ^ 62
      rw [List.length_map]
      omega
    · rw [Int.toNat_natCast, List.length_map, ll]
      exact hR
    · obtain ⟨rfl, rfl⟩ := y
      dsimp only
      rw [Int.zero_add]
      rw [List.getElem?_map] at hb
      obtain ⟨k2, hk2, rfl⟩ := Option.map_eq_some_iff.mp hb
      have kl := (List.getElem?_eq_some_iff.mp hk2).1
      rw [List.length_range] at kl
      have kk : k2 = k := by
        have z := (List.getElem?_eq_some_iff.mp hk2).2
        rw [List.getElem_range] at z
        exact z.symm
      subst kk
      refine ⟨rfl, _, rfl, _, rfl, la, _, _, _, rfl, rfl, SqL.of (s3 _ _ ela), at_of rfl (row_at (by omega)), rfl, !decide (V.int ((lessF v Fs).getD k2 0) = V.int 0), rfl, ?_⟩
      by_cases c : (lessF v Fs).getD k2 0 = 0
      · rw [decide_eq_true (by rw [c])]
        exact iteF (hZ _ (by rw [if_neg fun z => z c]) (Same.refl _))
      · rw [decide_eq_false fun z => c (V.int.inj z)]
        exact iteT ⟨_, rfl, hR _ _ _ (by rw [if_pos c]) (Same.refl _) rfl⟩
    rw [fmE] at hp
    have ey := ints_paired hp
    subst ey
    have fnE : firstNz (lessF v Fs) = ((List.range n).filter fun k => decide ((lessF v Fs).getD k 0 ≠ 0)).head? := by
      unfold firstNz
      rw [ll]
    have s13 := s1.trans s3
    refine ⟨_, rfl, by show 0 ≤ sizeLine; omega, fun el nel => ⟨fl, el, _, rfl, rfl, same_new nel _ _ efl, upd_same, _, rfl, ?_⟩⟩
    have s4 : Same H3 (L2.upd H3 el (.lst [])) := same_new nel
    generalize L2.upd H3 el (.lst []) = H4 at s4 ⊢
    cases e : (List.range n).filter fun k => decide ((lessF v Fs).getD k 0 ≠ 0) with
    | nil =>
      rw [e] at fnE
      refine iteT ⟨_, rfl, q ba ts H4 (s13.trans s4) ((s13.trans s4) _ _ hba) ?_⟩
      unfold addF
      rw [fnE]
      exact hts.same (s13.trans s4)
    | cons k0 ks =>
      rw [e] at fnE efl
      refine iteF ⟨_, rfl, _, rfl, fl, _, _, _, rfl, rfl, SqL.of (s4 _ _ efl), at_of (j := 0) rfl rfl, _, rfl, by show 2 ≤ sizeLine; decide, fun t nt => ⟨by show 1 ≤ sizeLine; decide, fun l1 nl1 => ⟨ba, l1, ts.map V.ref, [.ref t], rfl, rfl, ?_, upd_same, ?_, fun p np => ?_⟩⟩⟩
      · exact ((s13.trans s4).trans ((same_new nt).trans (same_new nl1))) _ _ hba
      · rw [List.length_map, paired_len hts]
        show Fs.length + 1 ≤ sizeLine
        rw [sizeLine_eq]
        omega
      · have s5 : Same H4 (L2.upd (L2.upd (L2.upd H4 t (.tup [.int ((k0 : Nat) : Int), .ref la])) l1 (.lst [.ref t])) p (.lst (ts.map V.ref ++ [.ref t]))) := ((same_new nt).trans (same_new nl1)).trans (same_new np)
        refine q p (ts ++ [t]) _ ((s13.trans s4).trans s5) (by rw [upd_same, List.map_append]; rfl) ?_
        unfold addF
        rw [fnE]
        refine paired_snoc ⟨la, ?_, s5 _ _ (s4 _ _ (s3 _ _ ela))⟩ (hts.same ((s13.trans s4).trans s5))
        exact same_new np _ _ (same_new nl1 _ _ upd_same)
theorem ok_rk {f fA : Addr} {fd fdA : FuncData} (F : Fun K "_law_rank" "_law_rank" sRk f fd) (GA : FnOk P w K mg base CX0 3 fA fdA ["_law_base", "_law_vector"] spAd) (kA : PySem.W.keepIn K (.ref fA) = true) (bA : Binds K fdA ["_law_base", "_law_vector"] []) (gA : mg "_law_added" = some (.ref fA)) (mn : mg "len" = none) : FnOk P w K mg base CX0 4 f fd ["_law_rows_here"] spRk := by
  have S := scRk
  refine F.ok S (fun vs H Q E h => ?_) (fun cdv A outer s H vs Q E hr h => ?_)
  · obtain ⟨ra, rs, vecs, n, b, rfl, _⟩ := h
    rfl
  · obtain ⟨ra, rs, vecs, n, b, rfl, hra, hrs, hl, hb, n45, v45, b0, sz, q⟩ := h
    refine ⟨_, (pss_cons (ps_set (i := 1) S.nd rfl (.inl rfl) (pe_lst pa_nil))
      (pss_cons (ps_for PassesOwn.never rfl (pi_list (pv 0)) (pg_name (i := 2) S.nd rfl (.inl rfl))
        (pss_one (ps_set (i := 1) S.nd rfl (.inl rfl) (pe_call GA hr (by rfl) gA kA bA .nil pass0 (pa_cons (pv 1) (pa_cons (pv 2) pa_nil))))))
      (pss_one (ps_ret (pe_callB (show CallR _ (.builtin "len") (rLenS K) from call_len_seq) (by rfl) mn PySem.boot_len (pa_cons (pv 1) pa_nil)))))), ?_⟩
    have lrs : rs.length = vecs.length := paired_len hrs
    -- the base's rows by their bits
    have bits : ∀ k, k ≤ vecs.length → (baseF (vecs.take k)).length ≤ k ∧ ∀ i p, (baseF (vecs.take k))[i]? = some p → Bt (cb b i) p.2 := fun k => by
      induction k with
      | zero => exact fun _ => ⟨Nat.le_refl _, fun i p e => by cases i <;> cases e⟩
      | succ k ih =>
        intro hk
        obtain ⟨i1, i2⟩ := ih (by omega)
        obtain ⟨r, e⟩ : ∃ r, vecs[k]? = some r := ⟨_, List.getElem?_eq_getElem (by omega)⟩
        rw [base_take e]
        unfold addF
        cases fe : firstNz (lessF r (baseF (vecs.take k))) with
        | none => exact ⟨Nat.le_succ_of_le i1, i2⟩
        | some s =>
          refine ⟨by rw [List.length_append]; exact Nat.succ_le_succ i1, fun i p ep => ?_⟩
          by_cases c : i < (baseF (vecs.take k)).length
          · rw [List.getElem?_append_left c] at ep
            exact i2 i p ep
          · have e3 : i = (baseF (vecs.take k)).length := by
              have z := (List.getElem?_eq_some_iff.mp ep).1
              rw [List.length_append] at z
              have z2 : i < (baseF (vecs.take k)).length + 1 := z
              omega
            rw [e3, List.getElem?_append_right (Nat.le_refl _), Nat.sub_self] at ep
            cases ep
            have z := less_bt (c := cb b) (F := baseF (vecs.take k)) (hb r (List.mem_of_getElem? e)) (fun i p hp => ⟨i2 i p hp, by
              have := Nat.mul_le_mul (show 2 ≤ b + 1 by omega) (Nat.two_pow_pos i)
              show 0 < (b + 1) * 2 ^ i - 1
              omega⟩) (baseF (vecs.take k)).length (Nat.le_refl _)
            rw [List.take_length, cb_sum] at z
            rw [e3]
            exact z
    refine ⟨by show 0 ≤ sizeLine; omega, fun bl nbl => ?_⟩
    have s1 : Same H (L2.upd H bl (.lst [])) := same_new nbl
    have ebl : (L2.upd H bl (.lst [])) bl = some (.lst []) := upd_same
    generalize L2.upd H bl (.lst []) = H1 at s1 ebl ⊢
    refine ⟨_, rfl, ra, rfl, ⟨_, SqL.of (s1 _ _ hra)⟩, for_list (xs := rs.map V.ref) (fun i σ H2 => ∃ bl2 ts y2, σ = [some (.ref ra), some (.ref bl2), y2] ∧ Same H H2 ∧ H2 bl2 = some (.lst (ts.map V.ref)) ∧ BrH H2 ts (baseF (vecs.take i))) ⟨bl, [], none, rfl, s1, ebl, .nil⟩ (fun i σ H2 _ ⟨_, _, _, _, s2, _⟩ => SqL.of (s2 _ _ hra)) ?_ ?_⟩
    · rintro i x σ H2 hx ⟨bl2, ts, y2, rfl, s2, e2, b2⟩
      rw [List.getElem?_map] at hx
      obtain ⟨r1, hr1, rfl⟩ := Option.map_eq_some_iff.mp hx
      have li := (List.getElem?_eq_some_iff.mp hr1).1
      obtain ⟨r, hrr⟩ : ∃ r, vecs[i]? = some r := ⟨_, List.getElem?_eq_getElem (by omega)⟩
      obtain ⟨r2, e3, e4⟩ := paired_at hrs hrr
      rw [hr1] at e3
      cases e3
      have mr := List.mem_of_getElem? hrr
      obtain ⟨k1, k2⟩ := bits i (by omega)
      have bo := base_ok (n := n) hl i (by omega)
      refine ⟨_, rfl, _, rfl, r1, bl2, r, ts, baseF (vecs.take i), n, b, cb b, rfl, s2 _ _ e4, e2, b2, hl r mr, n45, by omega, fun p hp => ⟨bo.ech.len p hp, bo.ech.lt p hp⟩, hb r mr, fun j p hp => ⟨k2 j p hp, ?_⟩, b0, ?_, fun p ts' H3 s3 ep bp => ⟨p, ts', _, rfl, s2.trans s3, ep, ?_⟩⟩
      · have := Nat.mul_le_mul (show 2 ≤ b + 1 by omega) (Nat.two_pow_pos j)
        show 0 < (b + 1) * 2 ^ j - 1
        omega
      · rw [cb_sum]
        exact Nat.lt_of_le_of_lt (cb_mono (by omega)) sz
      · rw [base_take hrr]
        exact bp
    · rintro σ H2 ⟨bl2, ts, y2, rfl, s2, e2, b2⟩
      rw [List.length_map, lrs, List.take_length] at b2
      refine ⟨_, rfl, bl2, _, rfl, .inl (SqL.of e2), ?_⟩
      rw [List.length_map, paired_len b2]
      exact q H2 s2
end
end Kn
-- part Tf
set_option maxHeartbeats 4000000
/-! Methods of a tuple that is known as an object. -/
namespace L2
open PySem PySem.Spec PyProof.Rows
section
variable {X : Cx} {pins : List (Addr × Obj)} {σ : St} {H : Hp} {s : Shared}
/-- at p a tuple, known as an object without a dict -/
def FrT (H : Hp) (p : Addr) (xs : List V) : Prop := ∃ o : Obj, H p = some (.frz o (.tup xs)) ∧ o.dict = none
theorem FrT.rd {p : Addr} {xs : List V} (h : FrT H p xs) : Rd H p (.tup xs) := by
  obtain ⟨o, e, _⟩ := h
  exact .inr ⟨o, e⟩
theorem FrT.is {p : Addr} {xs : List V} (I : Inv X pins σ H s) (h : FrT H p xs) : s.TypeIs (.ref p) "tuple" ∧ ∀ a, Value.ref p = .ref a → ∃ ob, s.heap.get? a = some ob ∧ ob.dict = none := by
  obtain ⟨o, e, hd⟩ := h
  obtain ⟨ho, _, _, _, o2, h2, hc, _⟩ := (show s.heap.get? p = some o ∧ ObjOk X.prog X.w H s.heap p (.tup xs) from I.hok _ _ e)
  rw [ho] at h2
  cases h2
  refine ⟨⟨o, ho, hc⟩, fun a z => ?_⟩
  cases z
  exact ⟨o, ho, hd⟩
def tBMF (r : V → List V → Hp → VK → Prop) (to : TE) (t : TA) : TE := fun σ H Q => to σ H fun x H1 => (∃ p xs, x = .ref p ∧ FrT H1 p xs) ∧ t σ H1 fun ys H2 => r x ys H2 Q
variable {o e : Expr} {es : List Expr} {to : TE} {t : TA} {name : Str} {apos cpos : Pos} {id : String} {r : V → List V → Hp → VK → Prop}
theorem pe_bmF (slot : Slot "tuple" name id) (hty : typeOf (.builtin id) = pure (.type "method_descriptor")) (hm : MtR X id r) (ho : PE X o to) (ha : PA X (e :: es) t)
    (hbase : attributeBase o name X.env (eval o X.env) = eval o X.env := by rfl)
    (few : ((backTo cpos (starEach (e :: es) X.env)).all (fun x => !x.1) && (backToKw cpos (keywordEach [] X.env)).all (fun x => x.1.isSome) && decide ((e :: es).length + ([] : List Keyword).length + (if ([] : List Keyword).isEmpty then 0 else 1) < 30)) = true := by rfl)
    (line : (apos.endLine == cpos.line) = true := by rfl) (star : starEach (e :: es) X.env = (false, eval e X.env) :: starEach es X.env := by rfl) (plain : (backTo cpos (starEach es X.env)).any (·.1) = false := by rfl) :
    PE X (.Call (.Attribute o name apos) (e :: es) [] cpos) (tBMF r to t) := by
  constructor
  intro pins s σ H Q I h
  refine wpAny_Call_method_late hbase few line rfl (thn (ho.run pins s σ H _ I h) ?_)
  rintro v s1 ⟨x, H1, I1, r1, ⟨p, xs, rfl, hf⟩, q1⟩
  cases r1
  obtain ⟨h1, h2⟩ := hf.is I1
  refine ⟨"tuple", id, PySem.F.plainAttrs_tuple, slot, hty, h1, h2, ?_⟩
  have hA := ha.run cpos pins s1 σ H1 _ I1 q1
  rw [star] at hA ⊢
  refine Calls.callWith_builtin (by show (false || (backTo cpos (starEach es X.env)).any (·.1)) = false; rw [plain] <;> rfl) (Calls.evalArgs_plain (thn hA ?_))
  rintro us s2 ⟨vs, H2, I2, r2, q2⟩
  exact hm pins s2 σ H2 (.ref p) vs (.ref p) us Q I2 rfl r2 q2
/-- t.count(k) of a tuple of ints -/
def rCntT (K : PySem.W.Frag) : V → List V → Hp → VK → Prop := fun x xs H Q => ∃ (p : Addr) (ns : List Int) (k : Int), x = .ref p ∧ xs = [.int k] ∧ SqT K H p (ns.map V.int) ∧ Q (.int (ns.count k : Nat)) H
theorem mt_tcount : MtR X "tuple.count" (rCntT X.K) := by
  rintro pins s σ H x xs v us Q I rx rxs ⟨p, ns, k, rfl, rfl, hs, q⟩
  cases rx
  obtain ⟨u, rfl, t, rfl⟩ := rxs.one
  obtain ⟨its, rv, ⟨⟨cls, dd, data, sl⟩, ho, hc, n, hd⟩, hlen⟩ := I.tuple hs
  simp only at hc hd
  subst hc hd
  have hi := ints_of_vals rv
  have ec : its.toArray.toList.countP (eqk k) = ns.count k := eqk_count hi
  refine call_meets PySem.F.slot_tuple_count ⟨_, ho, rfl⟩ PySem.F.entry_tuple_count (PySem.F.args_tuple_count_2 _ _) (SeqAt.tuple_countAt p its.toArray n dd sl (.int k t) (eqk k)) ⟨ho, fun y hy => (eqk_gives hi y (by simpa using hy)).at _ _, ?_⟩
  exact ⟨.int (ns.count k : Nat), H, I.tok _, ⟨s.toks, by rw [ec]⟩, q⟩
/-- tuple(list), known as an object -/
theorem call_tuple_frz : CallR X (.type "tuple") (fun xs H Q => ∃ p ys, xs = [.ref p] ∧ SqL X.K H p ys ∧ ∀ l o, H l = none → o.dict = none → Q (.ref l) (upd H l (.frz o (.tup ys)))) := by
  rintro pins s σ H xs us Q I r ⟨p, ys, rfl, hq, q⟩
  obtain ⟨u, rfl, rx⟩ := vals1 r
  cases rx
  obtain ⟨its, r2, pl, hz⟩ := I.list hq
  have hlen := r2.length
  refine call_tuple_list pl.isList (fun h' kp => ?_) (by simp only [List.size_toArray] <;> omega)
  have I1 : Inv X pins σ H { s with heap := h' } := I.kept (t' := s.toks) kp
  have at_ : (h'.push { cls := .type "tuple", data := .seq its.toArray }).get? h'.objs.size = some { cls := .type "tuple", data := .seq its.toArray } := Heap.get?_push_size _ rfl
  have I2 : Inv X pins σ (upd H h'.objs.size (.frz { cls := .type "tuple", data := .seq its.toArray } (.tup ys))) { s with heap := h'.push { cls := .type "tuple", data := .seq its.toArray } } :=
    I1.laid (t' := s.toks) (fun b o e => Heap.get?_push_of_some _ e) (Nat.le_refl _) ⟨at_, hz, its, r2, IsTup.new _ _⟩
  exact ⟨.ref h'.objs.size, _, I2, rfl, q _ _ (I1.hok.fresh (Nat.le_refl _)) rfl⟩
theorem pe_two {e : Expr} {t u : TE} (h1 : PE X e t) (h2 : PE X e u) : PE X e (fun σ H Q => t σ H Q ∨ u σ H Q) := ⟨fun pins s σ H Q I h => by
  rcases h with h | h
  · exact h1.run pins s σ H Q I h
  · exact h2.run pins s σ H Q I h⟩
end
end L2
-- part VCo
set_option maxHeartbeats 8000000
/-! _law_columns. -/
namespace Kn
open PySem PySem.Spec PyProof.Rows L2 La
abbrev sLc : Stmt := topS 53
abbrev NLc : List Str := ["_law_seats", "_law_width", "_law_scheme_here", "_law_lost", "_law_found", "_law_seat", "_law_spot", "_law_k", "_law_row"]
theorem scLc : FnScope NLc ["_law_seats", "_law_width", "_law_scheme_here", "_law_lost"] (defScope sLc) := ⟨rfl, rfl, rfl, by decide +kernel, rfl, by decide +kernel, by decide +kernel⟩
/-- the outer comprehension's scope -/
def lcOf : Stmt → Expr
  | .For _ _ ss _ _ => match ss with
    | [_, .Assign _ (.BinOp _ _ e _) _] => e
    | _ => .Constant .none 0 ⟨0, 0, 0, 0⟩
  | _ => .Constant .none 0 ⟨0, 0, 0, 0⟩
abbrev scLcI : Scope := relab (lcSc (lcOf (bodyAt sLc 1))) (defScope sLc)
abbrev idxL (ss lost : List Int) : List Nat := lost.map fun x => ss.idxOf x
def spLc : Sp := fun vs H Q _ => ∃ sa sc lv ss lost rows xs, ∃ w : Nat, vs = [.ref sa, .int w, .ref sc, lv] ∧ FrT H sa (vI ss) ∧ ss.length ≤ 8 ∧ Row H lv lost ∧ (∀ x ∈ lost, x ∈ ss) ∧ H sc = some (.lst xs) ∧ RowsL H xs rows ∧ ss.length * w ≤ 45 ∧ lost.length * w ≤ 45 ∧ w ≤ 45 ∧ (∀ r ∈ rows, r.length = ss.length * w) ∧ rows.length ≤ 24 ∧
  ∀ p ps H', Same H H' → H' p = some (.lst (ps.map V.ref)) → MatH H' ps (colsP (plF w (idxL ss lost)) rows) → Q (.ref p) H'
theorem fr_same {H H' : Hp} {p : Addr} {xs : List V} (h : FrT H p xs) (s : Same H H') : FrT H' p xs := by
  obtain ⟨o, e, d⟩ := h
  exact ⟨o, s _ _ e, d⟩
theorem paired_app2 {H : Hp} {as bs : List Addr} {L M : List (List Int)} (h : MatH H as L) (k : MatH H bs M) : MatH H (as ++ bs) (L ++ M) := by
  unfold MatH at h k ⊢
  induction h with
  | nil => exact k
  | cons e _ ih => exact .cons e ih
section
variable {P : Program} {w : World} {K : PySem.W.Frag} {mg : Str → Option Value} {base : Heap}
theorem ok_lc {f : Addr} {fd : FuncData} (F : Fun K "_law_columns" "_law_columns" sLc f fd) (mr : mg "range" = none) : FnOk P w K mg base CX0 1 f fd ["_law_seats", "_law_width", "_law_scheme_here", "_law_lost"] spLc := by
  have S := scLc
  refine F.ok S (fun vs H Q E h => ?_) (fun cdv A outer s H vs Q E hr h => ?_)
  · obtain ⟨sv, sc, lv, ss, lost, rows, xs, w, rfl, _⟩ := h
    rfl
  · obtain ⟨sa, sc, lv, ss, lost, rows, xs, wd, rfl, hfr, s8, hlv, sub, hsc, hrs, sz, sz2, w45, rl, r24, q⟩ := h
    refine ⟨_, (pss_cons (ps_set (i := 4) S.nd rfl (.inl rfl) (pe_lst pa_nil))
      (pss_cons (ps_for PassesOwn.never rfl (pi_tup (pv 3)) (pg_name (i := 5) S.nd rfl (.inl rfl))
        (pss_cons (ps_set (i := 6) S.nd rfl (.inr rfl) (pe_op op_mulW (pe_bmF PySem.F.slot_tuple_index PySem.F.type_tuple_index mt_tup_indexI (pv 0) (pa_cons (pv 5) pa_nil)) (pv 1)))
        (pss_one (ps_set (i := 4) S.nd rfl (.inl rfl) (pe_op op_cat (pv 4) (pe_lc (own := [("_law_k", 7)]) (g := gName 7) rfl S.nd (pi_range1 (by rfl) mr (pa_cons (pv 1) pa_nil)) (blkOk_by (N := NLc) (sc := defScope sLc) (by decide +kernel)) (fun _ _ _ _ _ => (pg_name (i := 7) S.nd rfl (.inr rfl))) (fun _ _ _ _ _ => pts_nil) (fun _ _ _ _ _ => (pe_op op_cat (pe_lc (own := [("_law_row", 8)]) (g := gName 8) rfl S.nd (show PI _ _ _ (iList K (tVar 2)) from pi_list (pv 2)) (blkOk_by (N := NLc) (sc := scLcI) (by decide +kernel)) (fun _ _ _ _ _ => (pg_name (i := 8) S.nd rfl (.inl rfl))) (fun _ _ _ _ _ => pts_nil) (fun _ _ _ _ _ => (pe_ix (show IxR _ (rIxT K) from ix_tup) (pv 8) (pe_op op_add (pv 6) (pv 7)) (fun _ _ => rfl)))) (pe_lst (pa_cons pe_int pa_nil))))))))))
      (pss_one (ps_ret (pv 4))))), ?_⟩
    obtain ⟨la, rfl, rl2, ll⟩ := hlv
    refine ⟨by show 0 ≤ sizeLine; omega, fun l0 nl0 => ?_⟩
    have s2 : Same H (L2.upd H l0 (.lst [])) := same_new nl0
    have el : (L2.upd H l0 (.lst [])) l0 = some (.lst []) := upd_same
    generalize L2.upd H l0 (.lst []) = H2 at s2 el ⊢
    refine ⟨_, rfl, la, rfl, ⟨_, .inl (Rd.same rl2 s2)⟩, for_it (walk_tup (K := K) (a := la) (xs := vI lost)) (fun i σ H3 => ∃ fl ps y5 y6 y7 y8, σ = [some (.ref sa), some (.int wd), some (.ref sc), some (.ref la), some (.ref fl), y5, y6, y7, y8] ∧ Same H H3 ∧ H3 fl = some (.lst (ps.map V.ref)) ∧ MatH H3 ps (colsP (plF wd (idxL ss (lost.take i))) rows)) ⟨l0, [], none, none, none, none, rfl, s2, el, .nil⟩ (fun i σ H6 _ h => by obtain ⟨_, _, _, _, _, _, _, s6, _⟩ := h; exact .inl (Rd.same rl2 s6)) ?_ ?_⟩
    · rintro i x σ H3 H4 hi ⟨fl, ps, y5, y6, y7, y8, rfl, s3, e3, m3⟩ ⟨rfl, hx⟩
      rw [List.getElem?_map] at hx
      obtain ⟨sv, hsv, rfl⟩ := Option.map_eq_some_iff.mp hx
      have ms := sub sv (List.mem_of_getElem? hsv)
      have li := (List.getElem?_eq_some_iff.mp hsv).1
      have jx : ss.idxOf sv < ss.length := List.idxOf_lt_length_iff.mpr ms
      have je : ss[ss.idxOf sv]? = some sv := by rw [List.getElem?_eq_getElem jx, List.getElem_idxOf jx]
      have jn : ∀ m, m < ss.idxOf sv → ss[m]? ≠ some sv := fun m hm z => by
        obtain ⟨h1, h2⟩ := List.getElem?_eq_some_iff.mp z
        have z2 := List.not_of_lt_findIdx (p := (· == sv)) (xs := ss) (show m < ss.findIdx (· == sv) from hm)
        rw [h2] at z2
        simp at z2
      refine ⟨_, rfl, ⟨sa, _, rfl, fr_same hfr s3⟩, _, rfl, sa, ss, sv, _, rfl, rfl, .inl (Rd.same hfr.rd s3), je, jn, _, rfl, _, _, rfl, rfl, wide_mul (a := 10) (b := 10) (by rw [Int.natAbs_natCast]; omega) (by rw [Int.natAbs_natCast]; omega) (by decide) (by decide) (by decide), ?_⟩
      dsimp only
      rw [show ((ss.idxOf sv : Nat) : Int) * (wd : Int) = ((ss.idxOf sv * wd : Nat) : Int) from (Int.natCast_mul ..).symm]
      have iw : (ss.idxOf sv + 1) * wd ≤ ss.length * wd := Nat.mul_le_mul_right wd jx
      rw [Nat.succ_mul] at iw
      generalize hb0 : ss.idxOf sv * wd = bs at iw ⊢
      unfold gName
      dsimp only [tSeq, tAsg, List.map, List.set]
      refine ⟨_, rfl, ?_⟩
      dsimp only [tSeq, tAsg, List.map, List.set]
      refine wf_lc (bs := (List.range wd).map fun k => some (rows.map (fun r : List Int => r.getD (bs + k) 0) ++ [0])) (walk_range (lo := 0) (n := wd)) (fun G v r => ∃ a, v = V.ref a ∧ G a = some (.lst (vI r))) (fun G G' v r s ⟨a, e1, e2⟩ => ⟨a, e1, s _ _ e2⟩) (fun R hR => ⟨_, rfl, _, rfl, by omega, by omega, by rw [Int.toNat_natCast]; exact hR⟩) (fun _ _ => trivial) (by rw [List.length_map, List.length_range]) (by omega) (fun k x H5 H6 bb hb s5 y Dl hDl nDl R Z hRR hZ => ?_) fun p ys H5 s5 np ep hp => ?_
      · obtain ⟨rfl, rfl⟩ := y
        dsimp only
        rw [Int.zero_add]
        rw [List.getElem?_map] at hb
        obtain ⟨k2, hk2, rfl⟩ := Option.map_eq_some_iff.mp hb
        have kl := (List.getElem?_eq_some_iff.mp hk2).1
        rw [List.length_range] at kl
        have kk : k2 = k := by
          have z := (List.getElem?_eq_some_iff.mp hk2).2
          rw [List.getElem_range] at z
          exact z.symm
        subst kk
        refine ⟨rfl, ?_⟩
        dsimp only [tYes]
        rw [if_pos rfl]
        have s25 := (s3.trans s5)
        refine wf_lc (bs := rows.map fun r => some (r.getD (bs + k2) 0)) (walk_list (K := K) (a := sc) (xs := xs)) (fun _ y n => y = V.int n) (fun _ _ _ _ _ e => e) (fun R hR => ⟨_, rfl, sc, rfl, ⟨_, SqL.of (s25 _ _ hsc)⟩, hR⟩) (fun H2 s => SqL.of (s _ _ (s25 _ _ hsc))) (by rw [List.length_map, hrs.1]) (by rw [hrs.1]; omega) (fun k x H7 H8 bb2 hb2 s7 y2 D2 hD2 nD2 R2 Z2 hR2 hZ2 => ?_) fun p ys H7 s7 np ep hp => ?_
        · obtain ⟨rfl, hx2⟩ := y2
          rw [List.getElem?_map] at hb2
          obtain ⟨r, hr2, rfl⟩ := Option.map_eq_some_iff.mp hb2
          obtain ⟨r', er', ra, rfl, rrd, _⟩ := hrs.2 k x hx2
          rw [hr2] at er'
          cases er'
          have lr := rl r (List.mem_of_getElem? hr2)
          refine ⟨rfl, ?_⟩
          dsimp only [tYes]
          rw [if_pos rfl]
          refine ⟨_, rfl, _, rfl, _, rfl, _, _, rfl, rfl, ra, _, _, _, rfl, rfl, .inl (Rd.same rrd (s25.trans s7)), at_of (show ((bs : Nat) : Int) + ((k2 : Nat) : Int) = ((bs + k2 : Nat) : Int) from (Int.natCast_add ..).symm) (row_at (by omega)), hR2 _ _ _ rfl (Same.refl _) rfl⟩
        · rw [List.filterMap_map, show (id ∘ (fun r : List Int => some (r.getD (bs + k2) 0)) : List Int → Option Int) = fun r => some (r.getD (bs + k2) 0) from rfl] at hp
          have hys : ys = vI (rows.map fun r => r.getD (bs + k2) 0) := by
            rw [List.filterMap_eq_map'] at hp
            exact ints_paired hp
          subst hys
          refine ⟨by show 1 ≤ sizeLine; rw [sizeLine_eq]; omega, fun z0 nz => ?_⟩
          have sz0 := same_new (o := .lst [V.int 0]) nz
          refine ⟨p, z0, _, _, rfl, rfl, sz0 _ _ ep, upd_same, ?_, fun p2 np2 => ?_⟩
          · rw [List.length_map, List.length_map]
            show rows.length + 1 ≤ sizeLine
            rw [sizeLine_eq]
            omega
          · have s9 := (s7.trans sz0).trans (same_new (o := .lst (vI (rows.map fun r => r.getD (bs + k2) 0) ++ [V.int 0])) np2)
            refine hRR _ _ _ rfl s9 ⟨p2, rfl, del_at ?_ ?_⟩
            · rw [upd_same]
              unfold vI
              rw [List.map_append]
              rfl
            · intro z
              obtain ⟨ob, eo⟩ := hDl
              have z2 := (s7.trans sz0) _ _ eo
              rw [← z, np2] at z2
              cases z2
      · have e5 := s5 _ _ e3
        obtain ⟨as, rfl, hm⟩ : ∃ as : List Addr, ys = as.map V.ref ∧ MatH H5 as ((List.range wd).map fun k => rows.map (fun r : List Int => r.getD (bs + k) 0) ++ [0]) := by
          rw [List.filterMap_map, show (id ∘ (fun k => some (rows.map (fun r : List Int => r.getD (bs + k) 0) ++ [0])) : Nat → Option (List Int)) = fun k => some (rows.map (fun r : List Int => r.getD (bs + k) 0) ++ [0]) from rfl, List.filterMap_eq_map'] at hp
          clear ep
          generalize ((List.range wd).map fun k => rows.map (fun r : List Int => r.getD (bs + k) 0) ++ [0]) = B at hp
          induction hp with
          | nil => exact ⟨[], rfl, .nil⟩
          | cons h _ ih =>
            obtain ⟨a, rfl, e⟩ := h
            obtain ⟨rs, e1, e2⟩ := ih
            exact ⟨a :: rs, by rw [e1]; rfl, .cons e e2⟩
        have lps := paired_len m3
        have las := paired_len hm
        refine ⟨fl, p, _, _, rfl, rfl, e5, ep, ?_, fun p2 np2 => ?_⟩
        · unfold colsP at lps
          rw [List.length_map, plF_len, List.length_map, List.length_take] at lps
          rw [List.length_map, List.length_range] at las
          have z := Nat.mul_le_mul_right wd (show min i lost.length ≤ lost.length by omega)
          rw [List.length_map, List.length_map, lps, las, sizeLine_eq]
          omega
        · refine ⟨p2, ps ++ as, _, _, _, _, rfl, (s3.trans s5).trans (same_new np2), ?_, ?_⟩
          · rw [upd_same, List.map_append]
          · rw [show idxL ss (lost.take (i + 1)) = idxL ss (lost.take i) ++ [ss.idxOf sv] by
              unfold idxL
              rw [List.take_add_one, hsv, List.map_append]
              rfl, plF_app]
            unfold colsP
            rw [List.map_append]
            refine (paired_app2 (m3.same s5) ?_).same (same_new np2)
            rw [show plF wd [ss.idxOf sv] = (List.range wd).map fun m => bs + m by
              show (List.range wd).map (fun m => ss.idxOf sv * wd + m) ++ [] = _
              rw [List.append_nil, hb0], List.map_map]
            exact hm
    · rintro σ H3 ⟨fl, ps, y5, y6, y7, y8, rfl, s3, e3, m3⟩
      rw [List.length_map, List.take_length] at m3
      exact ⟨_, rfl, q fl ps H3 s3 e3 m3⟩
end
end Kn
-- part VLb
set_option maxHeartbeats 8000000
/-! _law_bears. -/
namespace Kn
open PySem PySem.Spec PyProof.Rows L2 La
abbrev sLb : Stmt := topS 54
abbrev NLb : List Str := ["_law_seats", "_law_width", "_law_scheme_here", "_law_silent", "_law_chosen_here", "_law_seat", "_law_lost", "_law_some"]
theorem scLb : FnScope NLb ["_law_seats", "_law_width", "_law_scheme_here", "_law_silent"] (defScope sLb) := ⟨rfl, rfl, rfl, by decide +kernel, rfl, by decide +kernel, by decide +kernel⟩
theorem idx_at {ss : List Int} {sv : Int} (h : sv ∈ ss) : ss[ss.idxOf sv]? = some sv := by
  have jx : ss.idxOf sv < ss.length := List.idxOf_lt_length_iff.mpr h
  rw [List.getElem?_eq_getElem jx, List.getElem_idxOf jx]
theorem idx_nd {ss : List Int} {i : Nat} (nd : ss.Nodup) (h : i < ss.length) : ss.idxOf (ss.getD i 0) = i := by
  rw [List.getD_eq_getElem?_getD, List.getElem?_eq_getElem h]
  have e := idx_at (List.getElem_mem h)
  have jx : ss.idxOf ss[i] < ss.length := List.idxOf_lt_length_iff.mpr (List.getElem_mem h)
  show ss.idxOf ss[i] = i
  rw [List.getElem?_eq_getElem jx] at e
  have e := Option.some.inj e
  rw [List.nodup_iff_pairwise_ne, List.pairwise_iff_getElem] at nd
  rcases Nat.lt_trichotomy (ss.idxOf ss[i]) i with z | z | z
  · exact absurd e (nd _ _ jx h z)
  · exact z
  · exact absurd e.symm (nd _ _ h jx z)
theorem idx_lost {ss c : List Int} (h : List.Sublist c ss) (nd : ss.Nodup) : idxL ss c = lostI ss c := by
  unfold idxL
  have e := lostI_map (ss := ss) (c := c)
  rw [filter_sub h nd] at e
  conv => lhs; rw [← e]
  rw [List.map_map]
  conv => rhs; rw [← List.map_id (lostI ss c)]
  refine List.map_congr_left fun i hi => ?_
  have z := List.mem_range.mp (List.mem_filter.mp hi).1
  exact idx_nd nd z
theorem cols_bt {ps : List Nat} {rows : List (List Int)} {b : Nat} (h : ∀ r ∈ rows, Bt b r) : ∀ r ∈ colsP ps rows, Bt b r := fun r hr => by
  obtain ⟨p, _, rfl⟩ := List.mem_map.mp hr
  intro x hx
  rcases List.mem_append.mp hx with z | z
  · obtain ⟨r, hr, rfl⟩ := List.mem_map.mp z
    exact bt_getD (h r hr) p
  · rw [List.mem_singleton.mp z]
    exact Nat.two_pow_pos b
abbrev dblS (l : List Int) (i : Nat) : List (List Int) := dblF (l.take i)
theorem dblS_succ {l : List Int} {i : Nat} {s : Int} (h : l[i]? = some s) : dblS l (i + 1) = dblS l i ++ (dblS l i).map (· ++ [s]) := by
  unfold dblS dblF
  rw [List.take_add_one, h, List.foldl_append]
  rfl
theorem dblS_len {l : List Int} : ∀ {i : Nat}, i ≤ l.length → (dblS l i).length = 2 ^ i
  | 0, _ => rfl
  | i + 1, h => by
    rw [dblS_succ (List.getElem?_eq_getElem (show i < l.length by omega)), List.length_append, List.length_map, dblS_len (by omega), Nat.pow_succ, Nat.mul_two]
def spLb : Sp := fun vs H Q _ => ∃ sa sc ss rows xs, ∃ w k m m2 kM : Nat, vs = [.ref sa, .int w, .ref sc, .int k] ∧ FrT H sa (vI ss) ∧ H sc = some (.lst xs) ∧ RowsL H xs rows ∧ SchOk ss w k rows m m2 kM ∧ ss.length ≤ 4 ∧ w ≤ 2 ∧ cb m2 7 < 9000 ∧
  ∀ H', Same H H' → Q (.bl (ubF ss w k rows).isNone) H'
theorem paired_ap {α β : Type} {R : α → β → Prop} {xs ys : List α} {us ws : List β} (h : Paired R xs us) (k : Paired R ys ws) : Paired R (xs ++ ys) (us ++ ws) := by
  induction h with
  | nil => exact k
  | cons e _ ih => exact .cons e ih
section
variable {P : Program} {w : World} {K : PySem.W.Frag} {mg : Str → Option Value} {base : Heap}
theorem ok_lb {f fC fR : Addr} {fd fdC fdR : FuncData} (F : Fun K "_law_bears" "_law_bears" sLb f fd) (GC : FnOk P w K mg base CX0 1 fC fdC ["_law_seats", "_law_width", "_law_scheme_here", "_law_lost"] spLc) (kC : PySem.W.keepIn K (.ref fC) = true) (bC : Binds K fdC ["_law_seats", "_law_width", "_law_scheme_here", "_law_lost"] []) (gC : mg "_law_columns" = some (.ref fC))
    (GR : FnOk P w K mg base CX0 4 fR fdR ["_law_rows_here"] spRk) (kR : PySem.W.keepIn K (.ref fR) = true) (bR : Binds K fdR ["_law_rows_here"] []) (gR : mg "_law_rank" = some (.ref fR)) (mn : mg "len" = none) : FnOk P w K mg base CX0 5 f fd ["_law_seats", "_law_width", "_law_scheme_here", "_law_silent"] spLb := by
  have S := scLb
  refine F.ok S (fun vs H Q E h => ?_) (fun cdv A outer s H vs Q E hr h => ?_)
  · obtain ⟨sa, sc, ss, rows, xs, w, k, m, m2, kM, rfl, _⟩ := h
    rfl
  · obtain ⟨sa, sc, ss, rows, xs, wd, k, m, m2, kM, rfl, hfr, hsc, hrs, ok, s4, w2, hcb, q⟩ := h
    have hr1 := hr.mono (show 1 ≤ 4 by decide)
    refine ⟨_, (pss_cons (ps_set (i := 4) S.nd rfl (.inl rfl) (pe_lst (pa_cons (pe_tup pa_nil) pa_nil)))
      (pss_cons (ps_for PassesOwn.never rfl (pi_tup (pv 0)) (pg_name (i := 5) S.nd rfl (.inr rfl))
        (pss_one (ps_set (i := 4) S.nd rfl (.inl rfl) (pe_op op_cat (pv 4) (pe_lc (own := [("_law_lost", 6)]) (g := gName 6) rfl S.nd (show PI _ _ _ (iList K (tVar 4)) from pi_list (pv 4)) (blkOk_by (N := NLb) (sc := defScope sLb) (by decide +kernel)) (fun _ _ _ _ _ => (pg_name (i := 6) S.nd rfl (.inl rfl))) (fun _ _ _ _ _ => pts_nil) (fun _ _ _ _ _ => (pe_op (show OpR _ (binaryOp .Add) (rCatA K) from op_catA) (pv 6) (pe_tup (pa_cons (pv 5) pa_nil)))))))))
      (pss_cons (ps_for PassesOwn.never rfl (pi_list (pe_lc (own := [("_law_some", 7)]) (g := gName 7) rfl S.nd (show PI _ _ _ (iList K (tVar 4)) from pi_list (pv 4)) (blkOk_by (N := NLb) (sc := defScope sLb) (by decide +kernel)) (fun _ _ _ _ _ => (pg_name (i := 7) S.nd rfl (.inl rfl))) (fun _ _ _ _ _ => (pts_one (pt_cmpR op_eq (pe_callB (show CallR _ (.builtin "len") (rLenS K) from call_len_seq) (by rfl) mn PySem.boot_len (pa_cons (pv 7) pa_nil)) (pv 3) (nomark _)))) (fun _ _ _ _ _ => (pv 7)))) (pg_name (i := 6) S.nd rfl (.inl rfl))
        (pss_one (ps_if (pt_cmpR op_lt (pe_call GR hr (by rfl) gR kR bR .nil pass0 (pa_cons (pe_call GC hr1 (by rfl) gC kC bC .nil pass0 (pa_cons (pv 0) (pa_cons (pv 1) (pa_cons (pv 2) (pa_cons (pv 6) pa_nil))))) pa_nil)) (pe_op op_mulW (pv 3) (pv 1)) (nomark _)) (pss_one (ps_ret pe_bl)) pss_nil)))
      (pss_one (ps_ret pe_bl))))), ?_⟩
    have ls : ss.length ≤ 8 := ok.n8
    have nd := asc_nodup ok.asc
    have kn := ok.kn
    have r24 := ok.r24
    have dlen : ∀ (i : Nat) (c : List Int), c ∈ dblS ss i → c.length ≤ 8 := fun i c hc => by
      have z := (mem_dbl.mp hc).length_le
      rw [List.length_take] at z
      omega
    refine ⟨by show 0 ≤ sizeLine; omega, fun t0 nt0 => ?_⟩
    have sT : Same H (L2.upd H t0 (.tup [])) := same_new nt0
    have eT : (L2.upd H t0 (.tup [])) t0 = some (.tup []) := upd_same
    generalize L2.upd H t0 (.tup []) = H1 at sT eT ⊢
    refine ⟨by show 1 ≤ sizeLine; rw [sizeLine_eq]; omega, fun l0 nl0 => ?_⟩
    have sL : Same H1 (L2.upd H1 l0 (.lst [.ref t0])) := same_new nl0
    have el : (L2.upd H1 l0 (.lst [.ref t0])) l0 = some (.lst [.ref t0]) := upd_same
    generalize L2.upd H1 l0 (.lst [.ref t0]) = H2 at sL el ⊢
    have s2 := sT.trans sL
    refine ⟨_, rfl, sa, rfl, ⟨_, .inl (Rd.same hfr.rd s2)⟩, for_it (walk_tup (K := K) (a := sa) (xs := vI ss)) (fun i σ H3 => ∃ cl vs y5 y6 y7, σ = [some (.ref sa), some (.int wd), some (.ref sc), some (.int k), some (.ref cl), y5, y6, y7] ∧ Same H H3 ∧ H3 cl = some (.lst vs) ∧ Paired (Row H3) vs (dblS ss i)) ⟨l0, [.ref t0], none, none, none, rfl, s2, el, .cons ⟨t0, rfl, .inl (sL _ _ eT), by decide⟩ .nil⟩ (fun i σ H6 _ h => by obtain ⟨_, _, _, _, _, _, s6, _⟩ := h; exact .inl (Rd.same hfr.rd s6)) ?_ ?_⟩
    · rintro i x σ H3 H4 hi ⟨cl, vs, y5, y6, y7, rfl, s3, e3, p3⟩ ⟨rfl, hx⟩
      rw [List.getElem?_map] at hx
      obtain ⟨sv, hsv, rfl⟩ := Option.map_eq_some_iff.mp hx
      have li := (List.getElem?_eq_some_iff.mp hsv).1
      have lv := paired_len p3
      have ld := dblS_len (l := ss) (i := i) (by omega)
      have l8 : 2 ^ i ≤ 2 ^ 3 := Nat.pow_le_pow_right (by decide) (by omega)
      unfold gName
      dsimp only [tSeq, tAsg, List.map, List.set]
      refine ⟨_, rfl, ?_⟩
      refine wf_lc (bs := (dblS ss i).map fun c => some (c ++ [sv])) (walk_list (K := K) (a := cl) (xs := vs)) (fun G v r => Row G v r) (fun G G' v r s h => h.same s) (fun R hR => ⟨_, rfl, cl, rfl, ⟨_, SqL.of e3⟩, hR⟩) (fun H2 s => SqL.of (s _ _ e3)) (by rw [List.length_map, lv]) (by omega) (fun j x H5 H6 bb hb s5 y Dl hDl nDl R Z hRR hZ => ?_) fun p ys H5 s5 np ep hp => ?_
      · obtain ⟨rfl, hx2⟩ := y
        rw [List.getElem?_map] at hb
        obtain ⟨c, hc, rfl⟩ := Option.map_eq_some_iff.mp hb
        obtain ⟨x', hx', ra, rfl, rrd, c45⟩ := paired_at p3 hc
        rw [hx2] at hx'
        cases hx'
        have c8 := dlen i c (List.mem_of_getElem? hc)
        refine ⟨rfl, ?_⟩
        dsimp only [tYes]
        rw [if_pos rfl]
        refine ⟨_, rfl, _, rfl, by show 1 ≤ sizeLine; rw [sizeLine_eq]; omega, fun T nT => ?_⟩
        have sT : Same H6 (L2.upd H6 T (.tup [.int sv])) := same_new nT
        have eT : (L2.upd H6 T (.tup [.int sv])) T = some (.tup [.int sv]) := upd_same
        generalize L2.upd H6 T (.tup [.int sv]) = H7 at sT eT ⊢
        obtain ⟨ob, eo⟩ := hDl
        refine ⟨ra, T, vI c, [.int sv], rfl, rfl, .inl (Rd.same rrd (s5.trans sT)), .inl (.inl eT), ?_, fun z => ?_, fun _ z => (by cases z), fun z _ p2 np2 => ?_⟩
        · rw [List.length_map]
          show c.length + 1 ≤ sizeLine
          rw [sizeLine_eq]
          omega
        · have z : c = [] := List.map_eq_nil_iff.mp z
          subst z
          refine hRR _ _ _ rfl sT ⟨T, rfl, .inl (del_at eT ?_), by show 1 ≤ 45; decide⟩
          intro z
          rw [z, eo] at nT
          cases nT
        · refine hRR _ _ _ rfl (sT.trans (same_new np2)) ⟨p2, rfl, .inl (del_at ?_ ?_), by rw [List.length_append]; show c.length + 1 ≤ 45; omega⟩
          · rw [upd_same, List.map_append]
            rfl
          · intro z
            have z2 := sT _ _ eo
            rw [← z, np2] at z2
            cases z2
      · rw [List.filterMap_map, show (id ∘ (fun c => some (c ++ [sv])) : List Int → Option (List Int)) = fun c => some (c ++ [sv]) from rfl, List.filterMap_eq_map'] at hp
        have ly := paired_len hp
        rw [List.length_map] at ly
        refine ⟨cl, p, _, _, rfl, rfl, s5 _ _ e3, ep, by rw [sizeLine_eq]; omega, fun p2 np2 => ⟨p2, _, _, _, _, rfl, (s3.trans s5).trans (same_new np2), upd_same, ?_⟩⟩
        rw [dblS_succ hsv]
        exact paired_imp (fun v r h => h.same (same_new np2)) (paired_ap (paired_imp (fun v r h => h.same s5) p3) hp)
    · rintro σ H3 ⟨cl, vs, y5, y6, y7, rfl, s3, e3, p3⟩
      rw [List.length_map] at p3
      have lv := paired_len p3
      have ld := dblS_len (l := ss) (i := ss.length) (Nat.le_refl _)
      have l8 : 2 ^ ss.length ≤ 2 ^ 4 := Nat.pow_le_pow_right (by decide) (by omega)
      have ed : dblS ss ss.length = dblF ss := by
        unfold dblS
        rw [List.take_length]
      rw [ed] at p3 lv ld
      dsimp only [tSeq, tAsg, List.map, List.set]
      delta tFor
      delta iList
      refine wf_lc (bs := (dblF ss).map fun c => if c.length = k then some c else none) (walk_list (K := K) (a := cl) (xs := vs)) (fun G v r => Row G v r) (fun G G' v r s h => h.same s) (fun R hR => ⟨_, rfl, cl, rfl, ⟨_, SqL.of e3⟩, hR⟩) (fun H2 s => SqL.of (s _ _ e3)) (by rw [List.length_map, lv]) (by omega) (fun j x H5 H6 bb hb s5 y Dl hDl nDl R Z hRR hZ => ?_) fun p ys H5 s5 np ep hp => ?_
      · obtain ⟨rfl, hx2⟩ := y
        rw [List.getElem?_map] at hb
        obtain ⟨c, hc, rfl⟩ := Option.map_eq_some_iff.mp hb
        obtain ⟨x', hx', hrow⟩ := paired_at p3 hc
        rw [hx2] at hx'
        cases hx'
        obtain ⟨ra, rfl, rrd, c45⟩ := id hrow
        refine ⟨rfl, ?_⟩
        refine ⟨_, rfl, ra, vI c, rfl, .inr (.inl (Rd.same rrd s5)), _, rfl, rfl, _, rfl, ?_⟩
        by_cases hk : c.length = k
        · have e : decide (V.int (((vI c).length : Nat) : Int) = V.int ((k : Nat) : Int)) = true := decide_eq_true (by rw [List.length_map, hk])
          rw [e]
          rw [if_pos hk] at hRR
          exact iteT ⟨_, rfl, hRR _ _ _ rfl (Same.refl _) (hrow.same (del_new nDl s5))⟩
        · have e : decide (V.int (((vI c).length : Nat) : Int) = V.int ((k : Nat) : Int)) = false := decide_eq_false fun z => hk (by
            have z := V.int.inj z
            rw [List.length_map] at z
            omega)
          rw [e]
          rw [if_neg hk] at hZ
          exact iteF (hZ _ rfl (Same.refl _))
      · obtain ⟨B, hB⟩ : ∃ B, B = ((dblF ss).map fun c => if c.length = k then some c else none).filterMap id := ⟨_, rfl⟩
        have memB : ∀ c, c ∈ B ↔ c ∈ combsL ss k := fun c => by
          rw [hB, mem_combs]
          constructor
          · intro h
            obtain ⟨o, ho, e⟩ := List.mem_filterMap.mp h
            obtain ⟨c', hc', rfl⟩ := List.mem_map.mp ho
            by_cases hk : c'.length = k
            · rw [if_pos hk] at e
              cases e
              exact ⟨mem_dbl.mp hc', hk⟩
            · rw [if_neg hk] at e
              cases e
          · rintro ⟨h1, h2⟩
            exact List.mem_filterMap.mpr ⟨some c, List.mem_map.mpr ⟨c, mem_dbl.mpr h1, if_pos h2⟩, rfl⟩
        rw [← hB] at hp
        clear hB
        have ly := paired_len hp
        have s35 := s3.trans s5
        refine ⟨p, rfl, ⟨_, SqL.of ep⟩, for_it (D := { nx := tRet (tC (V.bl true)) { nx := fun x H' => Q V.non H', rt := Q }, rt := Q }) (walk_list (K := K) (a := p) (xs := ys)) (fun i σ H6 => ∃ y5 y6 y7, σ = [some (.ref sa), some (.int wd), some (.ref sc), some (.int k), some (.ref cl), y5, y6, y7] ∧ Same H5 H6 ∧ ∀ j c, j < i → B[j]? = some c → ¬ rankF (colsP (plF wd (lostI ss c)) rows) < k * wd) ⟨y5, y6, y7, rfl, Same.refl _, fun j c h => absurd h (Nat.not_lt_zero _)⟩ (fun i σ H6 _ h => by obtain ⟨_, _, _, _, s6, _⟩ := h; exact SqL.of (s6 _ _ ep)) ?_ ?_⟩
        · rintro i x σ H6 H7 hi ⟨y5', y6', y7', rfl, s6, pre⟩ ⟨rfl, hx⟩
          obtain ⟨c, hc, hrow⟩ : ∃ c, B[i]? = some c ∧ Row H5 x c := by
            have li := (List.getElem?_eq_some_iff.mp hx).1
            obtain ⟨x', hx', hr⟩ := paired_at hp (List.getElem?_eq_getElem (show i < B.length by omega))
            rw [hx] at hx'
            cases hx'
            exact ⟨_, List.getElem?_eq_getElem (by omega), hr⟩
          obtain ⟨sub, lk⟩ := mem_combs.mp ((memB c).mp (List.mem_of_getElem? hc))
          have s36 := s35.trans s6
          have lc : (colsP (plF wd (idxL ss c)) rows).length = k * wd := by
            unfold colsP
            rw [List.length_map, plF_len, List.length_map, lk]
          have kw : k * wd ≤ 4 * 2 := Nat.mul_le_mul (by omega) w2
          have sw : ss.length * wd ≤ 4 * 2 := Nat.mul_le_mul s4 w2
          refine ⟨_, rfl, _, rfl, _, rfl, _, rfl, sa, sc, x, ss, c, rows, xs, wd, rfl, fr_same hfr s36, ls, hrow.same s6, fun y hy => sub.subset hy, s36 _ _ hsc, hrs.same s36, ok.sz, by rw [lk]; omega, by omega, ok.rl, r24, fun pc ps H8 s8 epc hm => ?_⟩
          refine ⟨pc, ps, _, rows.length + 1, m2, rfl, epc, hm, cols_len, cols_bt ok.bt2, by omega, by rw [lc]; omega, ok.m0, ?_, fun H9 s9 => ?_⟩
          · rw [lc]
            exact Nat.lt_of_le_of_lt (cb_mono (by omega)) hcb
          · rw [idx_lost sub nd]
            refine ⟨_, rfl, _, rfl, _, _, rfl, rfl, wide_mul (a := 10) (b := 10) (by rw [Int.natAbs_natCast]; omega) (by rw [Int.natAbs_natCast]; omega) (by decide) (by decide) (by decide), _, _, rfl, rfl, _, rfl, ?_⟩
            have kwI : (k : Int) * (wd : Int) = ((k * wd : Nat) : Int) := (Int.natCast_mul ..).symm
            by_cases hk : rankF (colsP (plF wd (lostI ss c)) rows) < k * wd
            · rw [decide_eq_true (show ((rankF (colsP (plF wd (lostI ss c)) rows) : Nat) : Int) < (k : Int) * (wd : Int) by omega)]
              refine iteT ?_
              have z := (ub_rank ok).mpr ⟨c, (memB c).mp (List.mem_of_getElem? hc), hk⟩
              have q' := q H9 ((s36.trans s8).trans s9)
              rw [show (ubF ss wd k rows).isNone = false by
                cases e : ubF ss wd k rows with
                | none => rw [e] at z; cases z
                | some _ => rfl] at q'
              exact q'
            · rw [decide_eq_false (show ¬ ((rankF (colsP (plF wd (lostI ss c)) rows) : Nat) : Int) < (k : Int) * (wd : Int) by omega)]
              refine iteF ⟨_, _, _, rfl, (s6.trans s8).trans s9, fun j c' hj ec => ?_⟩
              rcases Nat.lt_or_ge j i with hji | hji
              · exact pre j c' hji ec
              · have e : j = i := by omega
                subst e
                rw [hc] at ec
                cases ec
                exact hk
        · rintro σ H6 ⟨y5', y6', y7', rfl, s6, pre⟩
          have q' := q H6 (s35.trans s6)
          rw [show (ubF ss wd k rows).isNone = true by
            cases e : ubF ss wd k rows with
            | none => rfl
            | some _ =>
              obtain ⟨c, hc, hr⟩ := (ub_rank ok).mp (by rw [e]; rfl)
              obtain ⟨j, hj, ej⟩ := List.getElem_of_mem ((memB c).mpr hc)
              exact absurd hr (pre j c (by omega) (by rw [List.getElem?_eq_getElem hj, ej]))] at q'
          exact q'
end
end Kn
-- part VZtl
set_option maxHeartbeats 4000000
/-! zip of a tuple and a list. -/
namespace Kn
open PySem PySem.Spec PyProof.Rows L2 La
/-- the tuple at a and the list at b as they stand at each turn, the items in new pairs -/
def ItzTL (K : PySem.W.Frag) (a b : Addr) : It :=
  ⟨fun i H => ∃ (xs ys : List V) (x y : V), SqT K H a xs ∧ SqL K H b ys ∧ xs[i]? = some x ∧ ys[i]? = some y,
    fun i H v H' => ∃ T x y, v = .ref T ∧ H T = none ∧ H' = upd H T (.tup [x, y]) ∧ (∀ xs, SqT K H a xs → xs[i]? = some x) ∧ ∀ ys, SqL K H b ys → ys[i]? = some y,
    fun i H => ∃ xs ys : List V, SqT K H a xs ∧ SqL K H b ys ∧ i ≤ xs.length ∧ i ≤ ys.length ∧ (i = xs.length ∨ i = ys.length)⟩
theorem turn_zipTL {P : Program} {w : World} {K : PySem.W.Frag} {elts : List Expr} {kk : Nat} {tpos : Pos} {a b z TI TO i1 i2 : Addr} (D : ZipSep2 z TI TO i1 i2 [i1, a] [i2, b]) (ha : a ≠ i1) (hb : b ≠ i2) :
    Turn P w K (.Tuple elts kk tpos) (ItzTL K a b) [z, TI, TO, i1, i2] z (fun i h => IsZip h z TI TO .none ∧ IsTupOf2 h TI (.ref i1) (.ref i2) ∧ (∃ x y, IsTupOf2 h TO x y) ∧ h.IsTupleIter i1 a i ∧ h.IsListIter i2 b i) where
  mem := by simp
  obj := fun i h st c hc => by
    obtain ⟨hz, hTI, ⟨x, y, hTO⟩, ⟨o1, e1, _, d1⟩, ⟨o2, e2, _, d2⟩⟩ := st
    have e' : c = z ∨ c = TI ∨ c = TO ∨ c = i1 ∨ c = i2 := by simpa using hc
    rcases e' with q | q | q | q | q
    · rw [q]; exact ⟨_, hz, fun v q => nomatch q⟩
    · rw [q]; exact ⟨_, hTI, fun v q => nomatch q⟩
    · rw [q]; exact ⟨_, hTO, fun v q => nomatch q⟩
    · rw [q]; exact ⟨o1, e1, fun v q => by rw [d1] at q; cases q⟩
    · rw [q]; exact ⟨o2, e2, fun v q => by rw [d2] at q; cases q⟩
  keep := fun i h h' st k => by
    obtain ⟨hz, hTI, ⟨x, y, hTO⟩, h1, h2⟩ := st
    exact ⟨k z (by simp) _ hz, k TI (by simp) _ hTI, ⟨x, y, k TO (by simp) _ hTO⟩, h1.at fun o q => k i1 (by simp) o q, h2.at fun o q => k i2 (by simp) o q⟩
  item := by
    intro X hP hw hK hc i pins s σ H E I hf st hg
    subst hP hw hK
    obtain ⟨hz, hTI, ⟨x0, y0, hTO⟩, h1, h2⟩ := st
    obtain ⟨xs, ys, x, y, hqx, hqy, hx, hy⟩ := hg
    obtain ⟨its, rv, p, _⟩ := I.tuple hqx
    obtain ⟨its2, rv2, p2, _⟩ := I.list hqy
    obtain ⟨u, hu, ru⟩ := rv.get hx
    obtain ⟨u2, hu2, ru2⟩ := rv2.get hy
    have hzl : z < s.heap.objs.size := Heap.lt_size hz
    have n1 : i < its.toArray.size := by
      have := List.getElem?_eq_some_iff.mp hu
      simpa using this.1
    have n2 : i < its2.toArray.size := by
      have := List.getElem?_eq_some_iff.mp hu2
      simpa using this.1
    refine wpAny_pyNext_zipD2_item D (Draws.tuple (A := X.A.in1) (I.ok.hd hc) i1 a ha its.toArray) (Draws.list (A := X.A.in1) (I.ok.hd hc) i2 b hb its2.toArray) hz hTI hTO ⟨h1, p⟩ ⟨h2, p2.isList⟩ n1 n2 fun v1 v2 h' tk g1 g2 z' TO' st1 st2 hT hsz hk => ?_
    obtain ⟨h1', _⟩ := st1
    obtain ⟨h2', _⟩ := st2
    have q1 : v1 = u := by
      have : its.toArray[i]? = some u := by simpa using hu
      exact Option.some.inj (g1.symm.trans this)
    have q2 : v2 = u2 := by
      have : its2.toArray[i]? = some u2 := by simpa using hu2
      exact Option.some.inj (g2.symm.trans this)
    subst q1 q2
    refine ⟨_, rfl, wpAny_letOwnedTupleGo_zip (s := { s with heap := h', toks := tk }) z' fun h'' z'' sb => ?_⟩
    have hT2 : h''.get? s.heap.objs.size = some { cls := .type "tuple", data := .seq #[v1, v2] } := (sb.2 _ (Nat.ne_of_gt hzl)).trans hT
    have new : ObjOk X.prog X.w (upd H s.heap.objs.size (.tup [x, y])) h'' s.heap.objs.size (.tup [x, y]) :=
      ⟨by show 2 ≤ sizeLine; decide, [v1, v2], .cons ru (.cons ru2 .nil), ⟨_, hT2, rfl, _, rfl⟩⟩
    have I1 : Inv X pins σ (upd H s.heap.objs.size (.tup [x, y])) { s with heap := h'', toks := tk } :=
      I.turnedNew (t' := tk) (ch := [z, TI, TO, i1, i2]) (fun c o hb q => (sb.2 c (fun q' => hb (by simp [q']))).trans (hk c o (fun q' => hb (by simp [q'])) (fun q' => hb (by simp [q'])) (fun q' => hb (by simp [q'])) (fun q' => hb (by simp [q'])) q)) hf (Nat.le_refl _) new
    refine ⟨.ref s.heap.objs.size, _, I1, rfl, ⟨_, x, y, rfl, I.hok.fresh (Nat.le_refl _), rfl, fun l hl => by rw [I.tuple_inj hl hqx]; exact hx, fun l hl => by rw [I.list_inj hl hqy]; exact hy⟩, ⟨z'', ?_, ⟨v1, v2, ?_⟩, ?_, ?_⟩, fun c hcm => ?_⟩
    · exact (sb.2 _ D.TIz).trans (hk _ _ D.TIz D.TITO D.TIi1 D.TIi2 hTI)
    · exact (sb.2 _ D.TOz).trans TO'
    · exact h1'.at fun o q => (sb.2 _ D.zi1.symm).trans q
    · exact h2'.at fun o q => (sb.2 _ D.zi2.symm).trans q
    · have hlt : c < s.heap.objs.size := by
        have e' : c = z ∨ c = TI ∨ c = TO ∨ c = i1 ∨ c = i2 := by simpa using hcm
        rcases e' with q | q | q | q | q
        · rw [q]; exact hzl
        · rw [q]; exact Heap.lt_size hTI
        · rw [q]; exact Heap.lt_size hTO
        · rw [q]; obtain ⟨_, e1, _⟩ := h1; exact Heap.lt_size e1
        · rw [q]; obtain ⟨_, e2, _⟩ := h2; exact Heap.lt_size e2
      rw [upd_ne (Nat.ne_of_lt hlt)]
      exact (hf c hcm).1
  done := by
    intro X hP hw hK hc i pins s σ H E I hf st hg
    subst hP hw hK
    obtain ⟨hz, hTI, ⟨x0, y0, hTO⟩, h1, h2⟩ := st
    obtain ⟨xs, ys, hqx, hqy, hx1, hx2, hen2⟩ := hg
    obtain ⟨its, rv, p, _⟩ := I.tuple hqx
    obtain ⟨its2, rv2, p2, _⟩ := I.list hqy
    have l1 := rv.length
    have l2 := rv2.length
    have m1 : its.toArray.size = xs.length := by simpa using l1.symm
    have m2 : its2.toArray.size = ys.length := by simpa using l2.symm
    have g1 : i ≤ its.toArray.size := by rw [m1]; exact hx1
    have g2 : i ≤ its2.toArray.size := by rw [m2]; exact hx2
    have ge : i = its.toArray.size ∨ i = its2.toArray.size := by rw [m1, m2]; exact hen2
    exact wpAny_pyNext_zipD2_end D (Draws.tuple (A := X.A.in1) (I.ok.hd hc) i1 a ha its.toArray) (Draws.list (A := X.A.in1) (I.ok.hd hc) i2 b hb its2.toArray) hz hTI hTO ⟨h1, p⟩ ⟨h2, p2.isList⟩ g1 g2 ge fun h' tk hk => ⟨rfl, I.turnedL (t' := tk) (ch := [z, TI, TO, i1, i2]) (fun c o hb q =>
      hk c o (fun q' => hb (by simp [q'])) (fun q' => hb (by simp [q'])) (fun q' => hb (by simp [q'])) (fun q' => hb (by simp [q'])) q) hf⟩
  self := fun A i s Q E st h => wpAny_pyIter_zip st.1 h
def iZipTL (K : PySem.W.Frag) (ta : TA) : TI := fun σ H R => ta σ H fun vs H1 => ∃ a b xs ys, vs = [.ref a, .ref b] ∧ SqT K H1 a xs ∧ SqL K H1 b ys ∧ R (ItzTL K a b) H1
theorem pi_zipTL {X : Cx} {e e2 : Expr} {ta : TA} {p pos tpos : Pos} {elts : List Expr} {kk : Nat} (hg : Gl X "zip") (hm : X.mg "zip" = none) (ha : PA X [e, e2] ta)
    (hs : starEach [e, e2] X.env = (false, eval e X.env) :: starEach [e2] X.env := by rfl) (hpl : (backTo pos (starEach [e2] X.env)).any (·.1) = false := by rfl) :
    PI X (.Tuple elts kk tpos) (.Call (.Name "zip" p) [e, e2] [] pos) (iZipTL X.K ta) := by
  refine ⟨fun pins s σ H R I h => ?_⟩
  refine Call_ (ld_blt I hg hm PyProof.Rows.boot_zip (PyProof.Rows.callWith_type1 (thn (ha.run pos pins s σ H _ I h) fun us s1 ⟨vs, H1, I1, r1, q1⟩ => ?_) hs hpl))
  obtain ⟨a, b, xs, ys, ex, hqx, hqy, q⟩ := q1
  subst ex
  cases r1 with
  | cons r rr =>
    cases rr with
    | cons r' rr =>
      cases rr
      cases r
      cases r'
      obtain ⟨its, rv, p1, _⟩ := I1.tuple hqx
      obtain ⟨its2, rv2, p2, _⟩ := I1.list hqy
      obtain ⟨o2, ho2, _⟩ := id p1
      have la : a < s1.heap.objs.size := Heap.lt_size ho2
      have lb : b < s1.heap.objs.size := p2.lt
      refine zip_begins2 (begins_tuple a its.toArray) (begins_list b its2.toArray) p1 p2.isList fun h' hz hTI hTO h1 h2 hsz hk => wpAny_pyIter_zip hz ?_
      have I2 : Inv X pins σ H1 { s1 with heap := h' } := I1.kept (t' := s1.toks) hk
      refine ⟨s1.heap.objs.size + 4, [s1.heap.objs.size + 4, s1.heap.objs.size + 2, s1.heap.objs.size + 3, s1.heap.objs.size, s1.heap.objs.size + 1], _, _, H1, rfl, I2, turn_zipTL (sep_lt s1.heap.objs.size a b la lb) (Nat.ne_of_lt la) (Nat.ne_of_lt (Nat.lt_succ_of_lt lb)), ⟨hz, hTI, ⟨_, _, hTO⟩, ⟨_, h1, rfl, rfl⟩, ⟨_, h2, rfl, rfl⟩⟩, fun c hcm => ?_, q⟩
      have e' : c = s1.heap.objs.size + 4 ∨ c = s1.heap.objs.size + 2 ∨ c = s1.heap.objs.size + 3 ∨ c = s1.heap.objs.size ∨ c = s1.heap.objs.size + 1 := by simpa using hcm
      have hle : s1.heap.objs.size ≤ c := by
        rcases e' with z | z | z | z | z
        · rw [z]; exact Nat.le_add_right _ _
        · rw [z]; exact Nat.le_add_right _ _
        · rw [z]; exact Nat.le_add_right _ _
        · rw [z]; exact Nat.le_refl _
        · rw [z]; exact Nat.le_add_right _ _
      exact I1.fpOk hle (I1.hok.fresh hle)
theorem walk_zipTL {K : PySem.W.Frag} {a b : Addr} {xs ys : List V} {n : Nat} (hn : n = min xs.length ys.length) : Walk (ItzTL K a b) n (fun H => SqT K H a xs ∧ SqL K H b ys) (YPair (fun i => xs[i]?) (fun i => ys[i]?)) := by
  subst hn
  refine ⟨fun i _ hi q => ?_, fun _ q => ⟨xs, ys, q.1, q.2, by omega, by omega, by omega⟩, fun i H v H' _ q y => ?_⟩
  · have h1 : i < xs.length := by omega
    have h2 : i < ys.length := by omega
    exact ⟨xs, ys, xs[i], ys[i], q.1, q.2, by simp [h1], by simp [h2]⟩
  · obtain ⟨T, x, z, h1, h2, h3, h4, h5⟩ := y
    exact ⟨T, x, z, h1, h2, h3, h4 xs q.1, h5 ys q.2⟩
end Kn
-- part VSet
set_option maxHeartbeats 4000000
/-! set of a tuple of ints, as a value. -/
namespace L2
open PySem PySem.Spec PyProof.Rows
section
variable {X : Cx}
def rSetTI (K : PySem.W.Frag) (w : World) : List V → Hp → VK → Prop := fun xs H Q => ∃ p, ∃ ns : List Int, xs = [.ref p] ∧ SqT K H p (ns.map V.int) ∧ ns.length < 64 ∧ ∀ a n, H a = none → n < 64 → Q (.ref a) (upd H a (SetO w a (fun j => decide (j ∈ ns)) n))
theorem cr_setTI (hc : X.calm = true) : CallR X (.type "set") (rSetTI X.K X.w) := by
  intro pins s σ H xs us Q I r h
  obtain ⟨p, ns, rfl, hq, hl, q⟩ := h
  rw [Vals.ref1 r]
  obtain ⟨its, rv, pt, hz⟩ := I.tuple hq
  have hi : IntsAre its.toArray.toList ns := ints_of_vals rv
  refine call_set_tupI ns (I.ok.hd hc) (show s.heap.IsTuple p its.toArray from pt) hi (by unfold scanBound; omega) fun h' tk c R1 hcn k => ?_
  exact ⟨.ref _, upd H s.heap.objs.size (SetO X.w s.heap.objs.size (fun j => decide (j ∈ ns)) c), I.laid (t' := tk) k (Nat.le_refl _) (setO_new R1), rfl, q _ _ (I.hok.fresh (Nat.le_refl _)) (by omega)⟩
end
end L2
-- part Nn
set_option maxHeartbeats 4000000
/-! xs != [], whatever the items are. -/
namespace L2
open PySem PySem.Spec PyProof.Rows
def rNeNil : R2 := fun x y H Q => ∃ a b xs, x = .ref a ∧ y = .ref b ∧ H a = some (.lst xs) ∧ H b = some (.lst []) ∧ Q (.bl (!xs.isEmpty)) H
theorem op_neNil {X : Cx} (hu : X.A.units < cLine) : OpR X (compareOp .NotEq) rNeNil := by
  rintro pins s σ H x y v u Q I rx ry ⟨a, b, xs, rfl, rfl, ha, hb, q⟩
  cases (show v = Value.ref a from rx)
  cases (show u = Value.ref b from ry)
  obtain ⟨us, r1, p1, _⟩ := I.list (SqL.of ha)
  obtain ⟨ws, r2, p2, _⟩ := I.list (SqL.of hb)
  have hl := r1.length
  cases r2
  change wpAny _ _ (richCompare .NotEq _ _) _ _ _
  cases xs with
  | nil =>
    cases r1
    exact SeqAt.RcNeAt.lists p1.isList p2.isList rfl hu (e := fun _ => true) (fun j h1 _ => absurd h1 (Nat.not_lt_zero j)) _ _ _ _ ⟨.bl false, H, I, rfl, q⟩
  | cons x xs =>
    refine SeqAt.RcNeAt.lists_lengths p1.isList p2.isList ?_ hu _ _ _ _ ⟨.bl true, H, I, rfl, q⟩
    rw [List.size_toArray, ← hl]
    rfl
end L2
-- part VLi
set_option maxHeartbeats 8000000
/-! _law_is_pair. -/
namespace Kn
open PySem PySem.Spec PyProof.Rows L2 La
abbrev sIP : Stmt := topS 55
abbrev NIP : List Str := ["_law_seats", "_law_width", "_law_scheme_here", "_law_silent", "_law_pair", "_law_lost", "_law_numbers_here", "_law_seat", "_law_part", "_law_columns_here", "_law_k", "_law_column"]
theorem scIP : FnScope NIP ["_law_seats", "_law_width", "_law_scheme_here", "_law_silent", "_law_pair"] (defScope sIP) := ⟨rfl, rfl, rfl, by decide +kernel, rfl, by decide +kernel, by decide +kernel⟩
def oV : Option Int → V
  | none => .non
  | some i => .int i
def oW : Option Int → W
  | none => .non
  | some i => .int i
theorem oIs {H : Hp} : ∀ (os : List (Option Int)), IsAll H (os.map oV) (os.map oW)
  | [] => .nil
  | none :: os => .cons .non (oIs os)
  | some n :: os => .cons (.int n) (oIs os)
/-- numbers (None among them) in a tuple or in a list -/
def NumH (H : Hp) (a : Addr) (tq : Bool) (os : List (Option Int)) : Prop := os.length ≤ 45 ∧ if tq = true then Rd H a (.tup (os.map oV)) else H a = some (.lst (os.map oV))
def numW (tq : Bool) (os : List (Option Int)) : W := if tq = true then .tup (os.map oW) else .lst (os.map oW)
theorem NumH.is {H : Hp} {a : Addr} {tq : Bool} {os : List (Option Int)} (h : NumH H a tq os) : Is H (.ref a) (numW tq os) := by
  obtain ⟨l, h⟩ := h
  cases tq with
  | true => exact .tup (by rw [List.length_map]; omega) h (oIs os)
  | false => exact .lst (by rw [List.length_map]; omega) h (oIs os)
theorem NumH.same {H H' : Hp} {a : Addr} {tq : Bool} {os : List (Option Int)} (h : NumH H a tq os) (s : Same H H') : NumH H' a tq os := by
  obtain ⟨l, h⟩ := h
  refine ⟨l, ?_⟩
  cases tq with
  | true => exact Rd.same h s
  | false => exact s _ _ h
theorem asc_of : ∀ {l : List Int}, l.Pairwise (· < ·) → ascB l = true
  | [], _ => rfl
  | [a], _ => rfl
  | a :: b :: l, h => by
    obtain ⟨h1, h2⟩ := List.pairwise_cons.mp h
    show (decide (a < b) && ascB (b :: l)) = true
    rw [asc_of h2, decide_eq_true (h1 b (List.mem_cons_self ..))]
    rfl
theorem eq_srt {l L : List Int} (h : L.Pairwise (· < ·)) (m : ∀ k, k ∈ L ↔ k ∈ l) : decide (l = L) = ascB l := by
  cases e : ascB l with
  | true =>
    have p := asc_pair e
    have s1 := sub_of p h fun x hx => (m x).mpr hx
    have s2 := sub_of h p fun x hx => (m x).mp hx
    exact decide_eq_true (s1.eq_of_length (Nat.le_antisymm s1.length_le s2.length_le))
  | false =>
    refine decide_eq_false fun z => ?_
    rw [← z] at h
    rw [asc_of h] at e
    cases e
theorem eqv_intsL : ∀ a b : List Int, PyData.eqv (.list (a.map PyData.int)) (.list (b.map PyData.int)) = decide (a = b) := by
  intro a b
  rw [← PySem.W.ked_eqvAll]
  simp [PyData.eqv]
theorem asc_W {ss lost : List Int} (rg : ∀ s ∈ ss, 1 ≤ s ∧ s ≤ 9) (sub : ∀ x ∈ lost, x ∈ ss) : ascW (lost.map W.int) = ascB lost := by
  unfold ascW
  have e2 : (lost.map W.int).map intW = lost := by
    rw [List.map_map]
    exact (List.map_congr_left fun _ _ => rfl).trans (List.map_id lost)
  rw [e2]
  have e1 : (lost.map W.int).all (withinW 1 9) = true := List.all_eq_true.mpr fun w hw => by
    obtain ⟨s, hs, rfl⟩ := List.mem_map.mp hw
    have z := rg s (sub s hs)
    show (decide (1 ≤ s) && decide (s ≤ 9)) = true
    rw [decide_eq_true z.1, decide_eq_true z.2]
    rfl
  rw [e1, Bool.true_and]
theorem zip_dot {i : Nat} : ∀ {ns : List Int} {L : List (List Int)}, (List.zipWith (fun x c => x * c.getD i 0) ns L).sum = dotF (L.map fun c => c.getD i 0) ns
  | [], [] => rfl
  | [], _ :: _ => rfl
  | _ :: _, [] => rfl
  | n :: ns, c :: L => by
    have ih := zip_dot (i := i) (ns := ns) (L := L)
    show (n * c.getD i 0 :: List.zipWith _ ns L).sum = (c.getD i 0 * n :: List.zipWith (fun x y => x * y) (L.map fun c => c.getD i 0) ns).sum
    rw [List.sum_cons, List.sum_cons, ih, Int.mul_comm]
    rfl
def spIP : Sp := fun vs H Q _ => ∃ sa sc pa la na ss rows xs lost tq os, ∃ w k m m2 kM : Nat, vs = [.ref sa, .int w, .ref sc, .int k, .ref pa] ∧ FrT H sa (vI ss) ∧ H sc = some (.lst xs) ∧ RowsL H xs rows ∧ SchOk ss w k rows m m2 kM ∧
  Rd H pa (.tup [.ref la, .ref na]) ∧ Row H (.ref la) lost ∧ (∀ x ∈ lost, x ∈ ss) ∧ lost.length = k ∧ NumH H na tq os ∧ Bt 9000 (os.filterMap id) ∧
  ∀ H', Same H H' → Q (.bl (iuW ss w k rows (.tup [.tup (lost.map W.int), numW tq os]))) H'
section
variable {P : Program} {w : World} {K : PySem.W.Frag} {mg : Str → Option Value} {base : Heap}
theorem ok_ip {f fC : Addr} {fd fdC : FuncData} (F : Fun K "_law_is_pair" "_law_is_pair" sIP f fd) (GC : FnOk P w K mg base CX0 1 fC fdC ["_law_seats", "_law_width", "_law_scheme_here", "_law_lost"] spLc) (kC : PySem.W.keepIn K (.ref fC) = true) (bC : Binds K fdC ["_law_seats", "_law_width", "_law_scheme_here", "_law_lost"] []) (gC : mg "_law_columns" = some (.ref fC))
    (mi : mg "isinstance" = none) (mt : mg "tuple" = none) (ml : mg "list" = none) (mso : mg "sorted" = none) (mse : mg "set" = none) (mn : mg "len" = none) (mr : mg "range" = none) (mu : mg "sum" = none) (mz : mg "zip" = none) : FnOk P w K mg base CX0 2 f fd ["_law_seats", "_law_width", "_law_scheme_here", "_law_silent", "_law_pair"] spIP := by
  have S := scIP
  refine F.ok S (fun vs H Q E h => ?_) (fun cdv A outer s H vs Q E hr h => ?_)
  · obtain ⟨sa, sc, pa, la, na, ss, rows, xs, lost, tq, os, w, k, m, m2, kM, rfl, _⟩ := h
    rfl
  · obtain ⟨sa, sc, pa, la, na, ss, rows, xs, lost, tq, os, wd, k, m, m2, kM, rfl, hfr, hsc, hrs, ok, hpa, hlo, sub, llo, hnu, hbt, q⟩ := h
    have hu0 : (cxOf CX0 P w K mg base NIP "_law_is_pair" (defScope sIP) f cdv A outer s H E).nox.A.units < cLine := Nat.lt_of_succ_lt (hu_of hr)
    refine ⟨_, (pss_cons (ps_asg (pv 4) (pg_tup rfl (pgs_cons (pg_name (i := 5) S.nd rfl (.inl rfl)) (pgs_cons (pg_name (i := 6) S.nd rfl (.inl rfl)) pgs_nil))))
      (pss_cons (ps_if (PW.pt (pw_or (pt_not (pt_val (pe_callB call_isi (by rfl) mi PyProof.Rows.boot_isinstance (pa_cons (pv 5) (pa_cons (pe_bltn (v := .ty "tuple") (by rfl) mt (by decide +kernel) rfl) pa_nil))))) (pw_or1 (pt_cmpR (op_neNil hu0) (pe_lc (own := [("_law_seat", 7)]) (g := gName 7) rfl S.nd (show PI _ _ _ (iTup K (tVar 5)) from pi_tup (pv 5)) (blkOk_by (N := NIP) (sc := defScope sIP) (by decide +kernel)) (fun _ _ _ _ _ => (pg_name (i := 7) S.nd rfl (.inl rfl))) (fun _ _ _ _ _ => (pts_one (pt_cmpR (show OpR _ (compareOp .NotIn) (rIn K true) from op_notIn_seq) (pv 7) (pv 0) (by rfl)))) (fun _ _ _ _ _ => (pv 7))) (pe_lst pa_nil) (nomark _))))) (pss_one (ps_ret pe_bl)) pss_nil)
      (pss_cons (ps_if (PW.pt (pw_or (pt_cmpR (show OpR _ (compareOp .NotEq) (rNeD K) from op_neD hr.units) (pe_callTy (show CallR _ (.type "list") (rLstA K) from call_list_of) (by rfl) ml (by decide +kernel) (pa_cons (pv 5) pa_nil)) (pe_callB (show CallR _ (.builtin "sorted") (rSortedSet w) from cr_sortedSet rfl) (by rfl) mso (by decide +kernel) (pa_cons (pe_callTy (show CallR _ (.type "set") (rSetTI K w) from cr_setTI rfl) (by rfl) mse (by decide +kernel) (pa_cons (pv 5) pa_nil)) pa_nil)) (nomark _)) (pw_or (pt_cmpR op_ne (pe_callB (show CallR _ (.builtin "len") (rLenS K) from call_len_seq) (by rfl) mn PySem.boot_len (pa_cons (pv 5) pa_nil)) (pv 3) (nomark _)) (pw_or1 (pt_not (pt_val (pe_callB call_isi (by rfl) mi PyProof.Rows.boot_isinstance (pa_cons (pv 6) (pa_cons (pe_bltn (v := .ty "tuple") (by rfl) mt (by decide +kernel) rfl) pa_nil))))))))) (pss_one (ps_ret pe_bl)) pss_nil)
      (pss_cons (ps_if (PW.pt (pw_or (pt_cmpR op_ne (pe_callB (show CallR _ (.builtin "len") (rLenS K) from call_len_seq) (by rfl) mn PySem.boot_len (pa_cons (pv 6) pa_nil)) (pe_op op_mulW (pv 3) (pv 1)) (nomark _)) (pw_or1 (pt_cmpR (op_neNil hu0) (pe_lc (own := [("_law_part", 8)]) (g := gName 8) rfl S.nd (show PI _ _ _ (iTup K (tVar 6)) from pi_tup (pv 6)) (blkOk_by (N := NIP) (sc := defScope sIP) (by decide +kernel)) (fun _ _ _ _ _ => (pg_name (i := 8) S.nd rfl (.inl rfl))) (fun _ _ _ _ _ => (pts_one (pt_cmpR (show OpR _ (compareOp .In) (rIn K false) from op_in_seq) (pv 8) (pe_lst (pa_cons pe_non pa_nil)) (by rfl)))) (fun _ _ _ _ _ => (pv 8))) (pe_lst pa_nil) (nomark _))))) (pss_one (ps_ret pe_bl)) pss_nil)
      (pss_cons (ps_set (i := 9) S.nd rfl (.inl rfl) (pe_call GC hr (by rfl) gC kC bC .nil pass0 (pa_cons (pv 0) (pa_cons (pv 1) (pa_cons (pv 2) (pa_cons (pv 5) pa_nil))))))
      (pss_cons (ps_for PassesOwn.never rfl (pi_range1 (by rfl) mr (pa_cons (pe_callB (show CallR _ (.builtin "len") (rLenS K) from call_len_seq) (by rfl) mn PySem.boot_len (pa_cons (pv 2) pa_nil)) pa_nil)) (pg_name (i := 10) S.nd rfl (.inr rfl))
        (pss_one (ps_if (pt_cmpR op_ne (pe_callB (show CallR _ (.builtin "sum") (rSum K) from cr_sum (by rfl)) (by rfl) mu (by decide +kernel) (pa_cons (pe_lc (own := [("_law_part", 8), ("_law_column", 11)]) (g := gTup K 2 (gCons (gName 8) (gCons (gName 11) gNil))) rfl S.nd (pi_zipTL (by rfl) mz (pa_cons (pv 6) (pa_cons (pv 9) pa_nil))) (blkOk_by (N := NIP) (sc := defScope sIP) (by decide +kernel)) (fun _ _ _ _ _ => (pg_tup rfl (pgs_cons (pg_name (i := 8) S.nd rfl (.inl rfl)) (pgs_cons (pg_name (i := 11) S.nd rfl (.inl rfl)) pgs_nil)))) (fun _ _ _ _ _ => pts_nil) (fun _ _ _ _ _ => (pe_op op_mulW (pv 8) (pe_ix (show IxR _ (rIxL K) from ix_list) (pv 11) (pv 10) (fun _ _ => rfl))))) pa_nil)) pe_int (nomark _)) (pss_one (ps_ret pe_bl)) pss_nil)))
      (pss_one (ps_ret (pe_cmpR (op_neNil hu0) (pe_lc (own := [("_law_part", 8)]) (g := gName 8) rfl S.nd (show PI _ _ _ (iTup K (tVar 6)) from pi_tup (pv 6)) (blkOk_by (N := NIP) (sc := defScope sIP) (by decide +kernel)) (fun _ _ _ _ _ => (pg_name (i := 8) S.nd rfl (.inl rfl))) (fun _ _ _ _ _ => (pts_one (pt_cmpR op_ne (pv 8) pe_int (nomark _)))) (fun _ _ _ _ _ => (pv 8))) (pe_lst pa_nil) (nomark _)))))))))), ?_⟩
    have no : ∀ H', Same H H' → iuW ss wd k rows (.tup [.tup (lost.map W.int), numW tq os]) = false → Q (.bl false) H' := fun H' s e => by
      have z := q H' s
      rw [e] at z
      exact z
    obtain ⟨la', ea, hla, l45⟩ := id hlo
    cases ea
    refine ⟨_, rfl, pa, _, rfl, .inl hpa, rfl, _, _, rfl, _, _, rfl, rfl, ?_⟩
    refine ⟨_, rfl, .ref la, .ty "tuple", .type "tuple", .type "tuple", true, rfl, .ty _, (rowIs hlo).ty, Is.kit (w := rowW lost) (by decide), _, rfl, ?_⟩
    refine iteF ?_
    dsimp only [tTest, tOp, tLst, tNil, List.map, List.set]
    have ls8 := ok.n8
    have kn := ok.kn
    have kw : k * wd ≤ 45 := Nat.le_trans (Nat.mul_le_mul_right wd kn) ok.sz
    have w6 := ok.w6
    refine wf_lc (bs := lost.map fun _ => (none : Option Int)) (walk_tup (K := K) (a := la) (xs := vI lost)) (fun _ y n => y = V.int n) (fun _ _ _ _ _ e => e) (fun R hR => ⟨_, rfl, la, rfl, ⟨_, .inl hla⟩, hR⟩) (fun H2 s => .inl (Rd.same hla s)) (by rw [List.length_map, List.length_map]) (by rw [List.length_map]; omega) (fun j x H3 H4 bb hb s3 y Dl hDl nDl R Z hRR hZ => ?_) fun p ys H1 s1 np ep hp => ?_
    · obtain ⟨rfl, hx2⟩ := y
      rw [List.getElem?_map] at hx2
      obtain ⟨n1, hn1, rfl⟩ := Option.map_eq_some_iff.mp hx2
      rw [List.getElem?_map, hn1] at hb
      cases hb
      refine ⟨rfl, ?_⟩
      dsimp only [tTest, tOp]
      refine ⟨_, rfl, _, rfl, sa, vI ss, rfl, .inr (.inl (Rd.same hfr.rd s3)), rfl, flat_ints _, _, rfl, ?_⟩
      rw [if_pos rfl, inV_ints, decide_eq_true (sub _ (List.mem_of_getElem? hn1))]
      exact iteF (hZ _ rfl (Same.refl _))
    have fm0 : (lost.map fun _ => (none : Option Int)).filterMap id = [] := by
      generalize lost = L
      induction L with
      | nil => rfl
      | cons a L ih => exact ih
    rw [fm0] at hp
    cases hp
    refine ⟨by show 0 ≤ sizeLine; omega, fun z0 nz => ?_⟩
    have sz0 : Same H1 (L2.upd H1 z0 (.lst [])) := same_new nz
    have ez0 : (L2.upd H1 z0 (.lst [])) z0 = some (.lst []) := upd_same
    have ep0 := sz0 _ _ ep
    have s2 := s1.trans sz0
    generalize L2.upd H1 z0 (.lst []) = H2 at sz0 ez0 ep0 s2 ⊢
    refine ⟨p, z0, [], rfl, rfl, ep0, ez0, _, rfl, ?_⟩
    refine iteF ?_
    have hla2 := Rd.same hla s2
    refine ⟨_, rfl, la, vI lost, rfl, .inr (.inl hla2), fun l1 nl1 => ⟨_, rfl, la, lost, rfl, .inl (Rd.same hla2 (same_new nl1)), by omega, fun a1 n1 na1 nn1 => ⟨a1, _, n1, rfl, upd_same, nn1, fun ns p1 pw mem ln np1 => ?_⟩⟩⟩
    have s1a : Same H2 (L2.upd H2 l1 (.lst (vI lost))) := same_new nl1
    have e1a : (L2.upd H2 l1 (.lst (vI lost))) l1 = some (.lst (vI lost)) := upd_same
    generalize L2.upd H2 l1 (.lst (vI lost)) = H3 at s1a e1a na1 np1 ⊢
    have s2a : Same H3 (L2.upd H3 a1 (SetO w a1 (fun j => decide (j ∈ lost)) n1)) := same_new na1
    generalize L2.upd H3 a1 (SetO w a1 (fun j => decide (j ∈ lost)) n1) = H4 at s2a np1 ⊢
    have s3a : Same H4 (L2.upd H4 p1 (.lst (ns.map V.int))) := same_new np1
    have e3a : (L2.upd H4 p1 (.lst (ns.map V.int))) p1 = some (.lst (ns.map V.int)) := upd_same
    have s5 : Same H (L2.upd H4 p1 (.lst (ns.map V.int))) := ((s2.trans s1a).trans s2a).trans s3a
    have e1b := s3a _ _ (s2a _ _ e1a)
    generalize L2.upd H4 p1 (.lst (ns.map V.int)) = H5 at s3a e3a s5 e1b ⊢
    refine ⟨.list (lost.map PyData.int), .list (ns.map PyData.int), .lst (SqL.of e1b) (dp_ints lost), .lst (SqL.of e3a) (dp_ints ns), ints_shaped _, ints_shaped _, _, rfl, ?_⟩
    rw [eqv_intsL, eq_srt pw fun k => by rw [mem k, decide_eq_true_eq]]
    have eW := asc_W ok.rg sub
    have no2 : (∀ ns, numW tq os = .tup ns → pairB ss wd k rows (lost.map W.int) ns = false) → iuW ss wd k rows (.tup [.tup (lost.map W.int), numW tq os]) = false := fun h => by
      cases e : numW tq os with
      | tup ns => exact h ns e
      | _ => rfl
    cases ca : ascB lost with
    | false =>
      refine iteT (no _ s5 (no2 fun ns _ => ?_))
      unfold pairB
      rw [eW, ca, Bool.false_and, Bool.and_false]
    | true =>
    refine iteF ⟨_, rfl, la, vI lost, rfl, .inr (.inl (Rd.same hla s5)), _, rfl, rfl, _, rfl, ?_⟩
    rw [show decide (V.int (((vI lost).length : Nat) : Int) = V.int ((k : Nat) : Int)) = true from decide_eq_true (by rw [List.length_map, llo])]
    refine iteF ⟨_, rfl, .ref na, .ty "tuple", .type (tyN (numW tq os)), .type "tuple", isTy "tuple" (numW tq os), rfl, .ty _, (hnu.is.same s5).ty, Is.kit (by decide), _, rfl, ?_⟩
    cases tq with
    | false => exact iteT (no _ s5 rfl)
    | true =>
    refine iteF ?_
    have o45 := hnu.1
    have hna : Rd H na (.tup (os.map oV)) := hnu.2
    have no3 : numsW ((k : Int) * wd) (.tup (os.map oW)) = false → iuW ss wd k rows (.tup [.tup (lost.map W.int), numW true os]) = false := fun h => no2 fun ns e => by
      have e : W.tup (os.map oW) = W.tup ns := e
      cases e
      unfold pairB
      rw [h, Bool.false_and, Bool.and_false, Bool.and_false, Bool.and_false]
    have kwI : (k : Int) * (wd : Int) = ((k * wd : Nat) : Int) := (Int.natCast_mul ..).symm
    refine ⟨_, rfl, na, os.map oV, rfl, .inr (.inl (Rd.same hna s5)), _, rfl, _, rfl, _, _, rfl, rfl, wide_mul (a := 10) (b := 10) (by rw [Int.natAbs_natCast]; omega) (by rw [Int.natAbs_natCast]; omega) (by decide) (by decide) (by decide), rfl, _, rfl, ?_⟩
    by_cases cl : os.length = k * wd
    · rw [show decide (V.int (((os.map oV).length : Nat) : Int) = V.int ((k : Int) * (wd : Int))) = true from decide_eq_true (by rw [List.length_map, cl, kwI])]
      refine iteF ?_
      dsimp only [tTest, tOp, tLst, tNil, List.map, List.set]
      refine wf_lc (bs := os.map fun o => if o = none then some () else none) (walk_tup (K := K) (a := na) (xs := os.map oV)) (fun _ y _ => y = V.non) (fun _ _ _ _ _ e => e) (fun R hR => ⟨_, rfl, na, rfl, ⟨_, .inl (Rd.same hna s5)⟩, hR⟩) (fun H2 s => .inl (Rd.same (Rd.same hna s5) s)) (by rw [List.length_map, List.length_map]) (by rw [List.length_map]; omega) (fun j x H6 H7 bb hb s6 y Dl hDl nDl R Z hRR hZ => ?_) fun p2 ys H6 s6 np2 ep2 hp2 => ?_
      · obtain ⟨rfl, hx2⟩ := y
        rw [List.getElem?_map] at hx2
        obtain ⟨o, ho, rfl⟩ := Option.map_eq_some_iff.mp hx2
        rw [List.getElem?_map, ho] at hb
        cases hb
        refine ⟨rfl, ?_⟩
        dsimp only [tTest, tOp, tLst, tCons, tNil]
        refine ⟨_, rfl, ?_⟩
        refine ⟨by show 1 ≤ sizeLine; rw [sizeLine_eq]; omega, fun q0 nq0 => ?_⟩
        refine ⟨q0, [.non], rfl, .inl (SqL.of upd_same), by cases o <;> rfl, rfl, _, rfl, ?_⟩
        rw [if_neg Bool.false_ne_true]
        cases o with
        | none => exact iteT ⟨_, rfl, hRR _ _ _ rfl (same_new nq0) rfl⟩
        | some i => exact iteF (hZ _ rfl (same_new nq0))
      · refine ⟨by show 0 ≤ sizeLine; omega, fun z1 nz1 => ?_⟩
        have sz1 : Same H6 (L2.upd H6 z1 (.lst [])) := same_new nz1
        have ez1 : (L2.upd H6 z1 (.lst [])) z1 = some (.lst []) := upd_same
        have ep1 := sz1 _ _ ep2
        have s7 := (s5.trans s6).trans sz1
        generalize L2.upd H6 z1 (.lst []) = H7 at sz1 ez1 ep1 s7 ⊢
        refine ⟨p2, z1, ys, rfl, rfl, ep1, ez1, _, rfl, ?_⟩
        cases eall : os.all (fun o => o.isSome) with
        | false =>
          have ne : ys.isEmpty = false := by
            cases ys with
            | cons y ys => rfl
            | nil =>
              have lz := paired_len hp2
              have e0 := List.eq_nil_of_length_eq_zero lz.symm
              refine absurd eall ?_
              rw [Bool.not_eq_false]
              refine List.all_eq_true.mpr fun o ho => ?_
              cases o with
              | some i => rfl
              | none =>
                have z : () ∈ (os.map fun o => if o = none then some () else none).filterMap id := List.mem_filterMap.mpr ⟨some (), List.mem_map.mpr ⟨none, ho, rfl⟩, rfl⟩
                rw [e0] at z
                cases z
          rw [ne]
          refine iteT (no _ s7 (no3 ?_))
          obtain ⟨o, ho, eo⟩ := List.all_eq_false.mp eall
          cases o with
          | some i => exact absurd rfl eo
          | none =>
            have z : (os.map oW).all isNum = false := List.all_eq_false.mpr ⟨.non, List.mem_map.mpr ⟨none, ho, rfl⟩, by decide +kernel⟩
            show (decide _ && (os.map oW).all isNum) = false
            rw [z, Bool.and_false]
        | true =>
          have e0 : ((os.map fun o => if o = none then some () else none).filterMap id) = [] := by
            clear hp2 hnu hbt cl hna o45 no no2 no3 q
            induction os with
            | nil => rfl
            | cons o os ih =>
              rw [List.all_cons, Bool.and_eq_true] at eall
              cases o with
              | none => cases eall.1
              | some i => exact ih eall.2
          rw [e0] at hp2
          cases hp2
          refine iteF ?_
          obtain ⟨ns, rfl⟩ : ∃ ns : List Int, os = ns.map some := by
            clear e0 hnu hbt cl hna o45 no no2 no3 q
            induction os with
            | nil => exact ⟨[], rfl⟩
            | cons o os ih =>
              rw [List.all_cons, Bool.and_eq_true] at eall
              obtain ⟨ns, rfl⟩ := ih eall.2
              cases o with
              | none => cases eall.1
              | some i => exact ⟨i :: ns, rfl⟩
          have e1 : (ns.map some).map oV = vI ns := by rw [List.map_map]; rfl
          have e2 : (ns.map some).map oW = ns.map W.int := by rw [List.map_map]; rfl
          have e3 : (ns.map some).filterMap id = ns := by rw [List.filterMap_map]; exact List.filterMap_some
          rw [e3] at hbt
          rw [e1] at hna
          rw [List.length_map] at cl o45
          have subl := sub_of (asc_pair ca) (asc_pair ok.asc) sub
          have nd := asc_nodup ok.asc
          have lI := lostI_len subl nd
          refine ⟨_, rfl, _, rfl, _, rfl, _, rfl, sa, sc, .ref la, ss, lost, rows, xs, wd, rfl, fr_same hfr s7, ls8, hlo.same s7, sub, s7 _ _ hsc, hrs.same s7, ok.sz, by rw [llo]; exact kw, by omega, ok.rl, ok.r24, fun pc ps H8 s8 epc hm => ?_⟩
          rw [idx_lost subl nd] at hm
          have lcs : (colsP (plF wd (lostI ss lost)) rows).length = k * wd := by
            unfold colsP
            rw [List.length_map, plF_len, lI, llo]
          have lps := paired_len hm
          have lxr := hrs.1
          have r24 := ok.r24
          have s78 := s7.trans s8
          have shl : ∀ r ∈ sharesF ss lost wd rows, r.length = ns.length := fun r hr => by
            obtain ⟨r0, h0, rfl⟩ := List.mem_map.mp hr
            rw [List.length_map, plF_len, lI, llo, cl]
          have bv : iuW ss wd k rows (.tup [.tup (lost.map W.int), numW true (ns.map some)]) = ((firstNz ns).isSome && (sharesF ss lost wd rows).all fun r => decide (dotF r ns = 0)) := by
            have e2l : (lost.map W.int).map intW = lost := by
              rw [List.map_map]
              exact (List.map_congr_left fun _ _ => rfl).trans (List.map_id lost)
            have e2n : (ns.map W.int).map intW = ns := by
              rw [List.map_map]
              exact (List.map_congr_left fun _ _ => rfl).trans (List.map_id ns)
            have nW : numsW ((k : Int) * wd) (.tup (ns.map W.int)) = true := nums_row (by rw [cl, kwI])
            show pairB ss wd k rows (lost.map W.int) ((ns.map some).map oW) = _
            rw [e2]
            unfold pairB
            rw [eW, ca, e2l, e2n, nW, List.length_map, llo, decide_eq_true rfl, List.all_eq_true.mpr fun x hx => decide_eq_true (sub x hx)]
            rfl
          refine ⟨_, rfl, sc, xs, rfl, .inl (SqL.of (s78 _ _ hsc)), _, rfl, by omega, by omega, for_range (fun i σ H9 => ∃ y7 y8 y10 y11, σ = [some (.ref sa), some (.int wd), some (.ref sc), some (.int k), some (.ref pa), some (.ref la), some (.ref na), y7, y8, some (.ref pc), y10, y11] ∧ Same H8 H9 ∧ ∀ j r, j < i → (sharesF ss lost wd rows)[j]? = some r → dotF r ns = 0) ⟨_, _, _, _, rfl, Same.refl _, fun j r h => absurd h (Nat.not_lt_zero _)⟩ ?_ ?_⟩
          · rintro i σ H9 hi ⟨y7, y8, y10, y11, rfl, s9, pre⟩
            rw [Int.toNat_natCast] at hi
            have kk : i < rows.length := by omega
            unfold gName
            rw [Int.zero_add]
            dsimp only [tIfS, tTest, tOp, tCB, tCons, tNil, List.map, List.set]
            have s79 := s78.trans s9
            refine pairs_lc (i := 8) (j := 11) (bs := List.zipWith (fun x c => x * c.getD i 0) ns (colsP (plF wd (lostI ss lost)) rows)) (walk_zipTL (K := K) (a := na) (b := pc) (xs := vI ns) (ys := ps.map V.ref) (n := k * wd) (by rw [List.length_map, List.length_map, lps, lcs, cl, Nat.min_self])) (fun _ y n => y = V.int n) (fun _ _ _ _ _ e => e) (fun R h => ⟨_, rfl, _, rfl, na, pc, _, _, rfl, .inl (Rd.same hna s79), SqL.of (s9 _ _ epc), h⟩) (fun H2 s => ⟨.inl (Rd.same (Rd.same hna s79) s), SqL.of (s _ _ (s9 _ _ epc))⟩) (by rw [List.length_zipWith, lcs, cl, Nat.min_self]) (by omega) (fun k2 x y b2 ex ey eb H2 s2 D hD nD R hR => ?_) fun p ys H2 s2 np ep hp => ?_
            · rw [List.getElem?_map] at ex ey
              obtain ⟨n1, e1, rfl⟩ := Option.map_eq_some_iff.mp ex
              obtain ⟨a2, e2, rfl⟩ := Option.map_eq_some_iff.mp ey
              have lt2 := (List.getElem?_eq_some_iff.mp e2).1
              obtain ⟨c, hc⟩ : ∃ c, (colsP (plF wd (lostI ss lost)) rows)[k2]? = some c := ⟨_, List.getElem?_eq_getElem (by omega)⟩
              obtain ⟨a3, e3, ec⟩ := paired_at hm hc
              rw [e2] at e3
              cases e3
              rw [List.getElem?_zipWith, e1, hc] at eb
              cases eb
              have lcl := cols_len c (List.mem_of_getElem? hc)
              have bc := cols_bt ok.bt2 c (List.mem_of_getElem? hc)
              have szz := ok.szz
              refine ⟨_, rfl, _, rfl, _, rfl, a2, _, _, _, rfl, rfl, SqL.of (s2 _ _ (s9 _ _ ec)), at_of (j := i) rfl (row_at (show i < c.length by omega)), n1, _, rfl, rfl, wide_mul (a := 9000) (b := 9000) (hbt _ (List.mem_of_getElem? e1)) (Nat.lt_of_lt_of_le (bt_getD bc i) (Nat.pow_le_pow_right (by decide) (by omega))) (by decide) (by decide) (by decide), hR _ _ (Same.refl _) rfl⟩
            · have ey := ints_paired hp
              rw [ey] at ep
              refine ⟨p, _, rfl, SqL.of ep, rfl, _, rfl, ?_⟩
              obtain ⟨sr, hsr⟩ : ∃ sr, (sharesF ss lost wd rows)[i]? = some sr := ⟨_, List.getElem?_eq_getElem (by rw [show (sharesF ss lost wd rows).length = rows.length from List.length_map ..]; exact kk)⟩
              have esum : (List.zipWith (fun x c => x * c.getD i 0) ns (colsP (plF wd (lostI ss lost)) rows)).sum = dotF sr ns := by
                unfold sharesF at hsr
                rw [List.getElem?_map, List.getElem?_eq_getElem kk] at hsr
                cases hsr
                have z := cols_at (ps := plF wd (lostI ss lost)) (rows := rows) (k := i)
                unfold colA at z
                rw [zip_dot, z]
                congr 1
                refine List.map_congr_left fun p _ => ?_
                rw [dif_pos kk]
              rw [esum]
              by_cases c : dotF sr ns = 0
              · rw [show decide (V.int (dotF sr ns) = V.int 0) = true from decide_eq_true (by rw [c])]
                refine iteF ⟨_, _, _, _, rfl, s9.trans s2, fun j r hj er => ?_⟩
                rcases Nat.lt_or_ge j i with hji | hji
                · exact pre j r hji er
                · have e : j = i := by omega
                  subst e
                  rw [hsr] at er
                  cases er
                  exact c
              · rw [show decide (V.int (dotF sr ns) = V.int 0) = false from decide_eq_false fun z => c (V.int.inj z)]
                refine iteT (no _ (s79.trans s2) ?_)
                rw [bv]
                rw [List.all_eq_false.mpr ⟨sr, List.mem_of_getElem? hsr, by rw [decide_eq_false c]; exact Bool.false_ne_true⟩, Bool.and_false]
          · rintro σ H9 ⟨y7, y8, y10, y11, rfl, s9, pre⟩
            rw [Int.toNat_natCast] at pre
            have allz : (sharesF ss lost wd rows).all (fun r => decide (dotF r ns = 0)) = true := List.all_eq_true.mpr fun r hr => by
              obtain ⟨j, hj, ej⟩ := List.getElem_of_mem hr
              have lsh : (sharesF ss lost wd rows).length = rows.length := List.length_map ..
              exact decide_eq_true (pre j r (by omega) (by rw [List.getElem?_eq_getElem hj, ej]))
            rw [allz, Bool.and_true] at bv
            dsimp only [tRet, tTest, tOp, tLst, tNil, List.map, List.set]
            have s79 := s78.trans s9
            refine wf_lc (bs := ns.map fun n => if n ≠ 0 then some n else none) (walk_tup (K := K) (a := na) (xs := vI ns)) (fun _ y n => y = V.int n) (fun _ _ _ _ _ e => e) (fun R hR => ⟨_, rfl, na, rfl, ⟨_, .inl (Rd.same hna s79)⟩, hR⟩) (fun H2 s => .inl (Rd.same (Rd.same hna s79) s)) (by rw [List.length_map, List.length_map]) (by rw [List.length_map]; omega) (fun j x H3 H4 bb hb s3 y Dl hDl nDl R Z hRR hZ => ?_) fun p ys H1 s1 np ep hp => ?_
            · obtain ⟨rfl, hx2⟩ := y
              rw [List.getElem?_map] at hx2
              obtain ⟨n1, hn1, rfl⟩ := Option.map_eq_some_iff.mp hx2
              rw [List.getElem?_map, hn1] at hb
              cases hb
              refine ⟨rfl, ?_⟩
              dsimp only [tTest, tOp]
              refine ⟨_, rfl, rfl, _, rfl, ?_⟩
              by_cases c : n1 = 0
              · rw [show decide (V.int n1 = V.int 0) = true from decide_eq_true (by rw [c])]
                exact iteF (hZ _ (if_neg fun z => z c) (Same.refl _))
              · rw [show decide (V.int n1 = V.int 0) = false from decide_eq_false fun z => c (V.int.inj z)]
                exact iteT ⟨_, rfl, hRR _ _ _ (if_pos c) (Same.refl _) rfl⟩
            · refine ⟨by show 0 ≤ sizeLine; omega, fun z1 nz1 => ?_⟩
              refine ⟨p, z1, ys, rfl, rfl, same_new nz1 _ _ ep, upd_same, ?_⟩
              have z := q _ ((s79.trans s1).trans (same_new (o := .lst []) nz1))
              rw [bv] at z
              rw [show (!ys.isEmpty) = (firstNz ns).isSome by
                cases e : firstNz ns with
                | none =>
                  have z := first_none e
                  have z2 : (ns.map fun n => if n ≠ 0 then some n else none).filterMap id = [] := by
                    rw [List.filterMap_eq_nil_iff]
                    intro o ho
                    obtain ⟨n, hn, rfl⟩ := List.mem_map.mp ho
                    obtain ⟨j, hj, ej⟩ := List.getElem_of_mem hn
                    have z3 := z j hj
                    rw [List.getD_eq_getElem?_getD, List.getElem?_eq_getElem hj, ej] at z3
                    have z3 : n = 0 := z3
                    exact if_neg fun c => c z3
                  rw [z2] at hp
                  cases hp
                  rfl
                | some i =>
                  obtain ⟨h1, h2, _⟩ := first_some e
                  cases ys with
                  | cons y ys => rfl
                  | nil =>
                    have lz := paired_len hp
                    have e0 := List.eq_nil_of_length_eq_zero lz.symm
                    have z : ns[i] ∈ (ns.map fun n => if n ≠ 0 then some n else none).filterMap id := List.mem_filterMap.mpr ⟨some ns[i], List.mem_map.mpr ⟨ns[i], List.getElem_mem h1, if_pos (by
                      rw [List.getD_eq_getElem?_getD, List.getElem?_eq_getElem h1] at h2
                      exact h2)⟩, rfl⟩
                    rw [e0] at z
                    cases z]
              exact z
    · rw [show decide (V.int (((os.map oV).length : Nat) : Int) = V.int ((k : Int) * (wd : Int))) = false from decide_eq_false fun z => cl (by
        have z := V.int.inj z
        rw [List.length_map, kwI] at z
        omega)]
      refine iteT (no _ s5 (no3 ?_))
      show (decide (((os.map oW).length : Int) = (k : Int) * wd) && _) = false
      rw [List.length_map, decide_eq_false (by omega), Bool.false_and]
end
end Kn
-- part VOdA
set_option maxHeartbeats 8000000
/-! What _law_odd makes, and that none of it is a pair. -/
namespace Kn
open PySem PySem.Spec PyProof.Rows L2 La
abbrev sOd : Stmt := topS 50
abbrev NOd : List Str := ["_law_seats", "_law_trial", "_law_lost", "_law_numbers_here", "_law_some", "_law_other", "_law_seat"]
theorem scOd : FnScope NOd ["_law_seats", "_law_trial"] (defScope sOd) := ⟨rfl, rfl, rfl, by decide +kernel, rfl, by decide +kernel, by decide +kernel⟩
theorem isall_app {H : Hp} : ∀ {vs us : List V} {ws zs : List W}, IsAll H vs ws → IsAll H us zs → IsAll H (vs ++ us) (ws ++ zs)
  | _, _, _, _, .nil, k => k
  | _, _, _, _, .cons h t, k => .cons h (isall_app t k)
/-- a term makes just this -/
def Mk (te : TE) (σ : L2.St) (Hb : Hp) (u : W) : Prop := ∀ H, Same Hb H → ∀ Q : VK, (∀ x H', Same H H' → Is H' x u → Q x H') → te σ H Q
def MkA (t : TA) (σ : L2.St) (Hb : Hp) (us : List W) : Prop := ∀ H, Same Hb H → ∀ Q : List V → Hp → Prop, (∀ xs H', Same H H' → IsAll H' xs us → Q xs H') → t σ H Q
section
variable {σ : L2.St} {Hb : Hp} {K : PySem.W.Frag}
theorem mk_var {i : Nat} {x : V} {u : W} (e : σ[i]? = some (some x)) (h : Is Hb x u) : Mk (tVar i) σ Hb u := fun H s Q q => ⟨_, e, q _ _ (Same.refl _) (h.same s)⟩
theorem mk_con {x : V} {u : W} (h : ∀ H, Is H x u) : Mk (tC x) σ Hb u := fun H s Q q => q _ _ (Same.refl _) (h H)
theorem mkA_nil : MkA tNil σ Hb [] := fun H s Q q => q _ _ (Same.refl _) .nil
theorem mkA_cons {te : TE} {t : TA} {u : W} {us : List W} (h : Mk te σ Hb u) (k : MkA t σ Hb us) : MkA (tCons te t) σ Hb (u :: us) := fun H s Q q => h H s _ fun x H1 s1 i1 => k H1 (s.trans s1) _ fun xs H2 s2 i2 => q _ _ (s1.trans s2) (.cons (i1.same s2) i2)
theorem mk_tup {t : TA} {us : List W} (h : MkA t σ Hb us) (l : us.length ≤ 900) : Mk (tTup t) σ Hb (.tup us) := fun H s Q q => h H s _ fun xs H1 s1 i1 => ⟨by rw [i1.len]; exact Nat.le_trans l (by rw [sizeLine_eq]; omega), fun p np => q _ _ (s1.trans (same_new np)) (.tup (by rw [i1.len]; exact l) (.inl upd_same) (i1.same (same_new np)))⟩
theorem mk_lst {t : TA} {us : List W} (h : MkA t σ Hb us) (l : us.length ≤ 900) : Mk (tLst t) σ Hb (.lst us) := fun H s Q q => h H s _ fun xs H1 s1 i1 => ⟨by rw [i1.len]; exact Nat.le_trans l (by rw [sizeLine_eq]; omega), fun p np => q _ _ (s1.trans (same_new np)) (.lst (by rw [i1.len]; exact l) upd_same (i1.same (same_new np)))⟩
theorem mk_lstof {i : Nat} {a : Addr} {ys : List V} {us : List W} (e : σ[i]? = some (some (.ref a))) (h : Rd Hb a (.tup ys)) (k : IsAll Hb ys us) (l : us.length ≤ 900) : Mk (tCB (rLstA K) (tCons (tVar i) tNil)) σ Hb (.lst us) := fun H s Q q => ⟨_, e, a, ys, rfl, .inr (.inl (Rd.same h s)), fun p np => q _ _ (same_new np) (.lst (by rw [k.len]; exact l) upd_same (k.same (s.trans (same_new np))))⟩
theorem lay_lst {t : TA} {us : List W} (h : MkA t σ Hb us) (l : us.length ≤ 900) {H : Hp} (s : Same Hb H) {Q : VK} (q : ∀ p xs H', Same H H' → H' p = some (.lst xs) → IsAll H' xs us → Q (.ref p) H') : tLst t σ H Q := h H s _ fun xs H1 s1 i1 => ⟨by rw [i1.len]; exact Nat.le_trans l (by rw [sizeLine_eq]; omega), fun p np => q _ _ _ (s1.trans (same_new np)) upd_same (i1.same (same_new np))⟩
theorem repl_all {H : Hp} {v : V} {u : W} (h : Is H v u) : ∀ n : Nat, IsAll H (List.replicate n v) (List.replicate n u)
  | 0 => .nil
  | n + 1 => by
    rw [List.replicate_succ, List.replicate_succ]
    exact .cons h (repl_all h n)
theorem repl_one (x : V) : ∀ n : Nat, (List.replicate n [x]).flatten = List.replicate n x
  | 0 => rfl
  | n + 1 => by
    rw [List.replicate_succ, List.flatten_cons, repl_one x n, List.replicate_succ]
    rfl
theorem mk_rep {i : Nat} {a : Addr} {ys : List V} {v : V} {u : W} (hv : ∀ H, Is H v u) (e : σ[i]? = some (some (.ref a))) (h : Rd Hb a (.tup ys)) (l : ys.length ≤ 900) : Mk (tOp (rRepA K) (tTup (tCons (tC v) tNil)) (tCB (rLenS K) (tCons (tVar i) tNil))) σ Hb (.tup (List.replicate ys.length u)) := fun H s Q q => by
  refine ⟨by show 1 ≤ sizeLine; rw [sizeLine_eq]; omega, fun t nt => ⟨_, e, a, ys, rfl, .inr (.inl (Rd.same h (s.trans (same_new nt)))), t, _, [v], rfl, rfl, SqT.of upd_same, by simp, by omega, by omega, by show 1 ≤ 1000; omega, fun e1 => ?_, fun _ p np => ?_⟩⟩
  · have e1 : ys.length = 1 := by omega
    refine q _ _ (same_new nt) (.tup (xs := [v]) (by show 1 ≤ 900; omega) (.inl upd_same) ?_)
    rw [e1]
    exact .cons (hv _) .nil
  · refine q _ _ ((same_new nt).trans (same_new np)) (.tup (xs := List.replicate ys.length v) (by rw [List.length_replicate]; exact l) (.inl ?_) (repl_all (hv _) _))
    rw [upd_same, Int.toNat_natCast, repl_one]
/-- tuple(list[:len(tuple)]) -/
theorem mk_cut {i j : Nat} {p la : Addr} {B : List Int} {ys : List V} (e : σ[i]? = some (some (.ref p))) (hp : Hb p = some (.lst (vI B))) (l : B.length ≤ 900) (e2 : σ[j]? = some (some (.ref la))) (hla : Rd Hb la (.tup ys)) :
    ∃ o : List Int, Mk (tCB (rTupA K) (tCons (tSl (rSlL K) (tVar i) tNoPart (tPart (tCB (rLenS K) (tCons (tVar j) tNil)))) tNil)) σ Hb (.tup (o.map W.int)) := by
  have ec : ∀ hi : Option Int, ∃ o : List Int, cutV (vI B) none hi = vI o ∧ o.length ≤ 900 := fun hi => ⟨(B.drop (HT.sIx (vI B).length 0 none)).take (HT.sIx (vI B).length (vI B).length hi - HT.sIx (vI B).length 0 none), by
    unfold cutV vI
    rw [List.map_take, List.map_drop], by
    rw [List.length_take, List.length_drop]
    omega⟩
  obtain ⟨o, ho, lo⟩ := ec (some (ys.length : Nat))
  refine ⟨o, fun H s Q q => ⟨_, e, _, e2, la, ys, rfl, .inr (.inl (Rd.same hla s)), _, rfl, p, vI B, rfl, SqL.of (s _ _ hp), fun c nc => ⟨c, vI o, rfl, .inl ⟨?_, fun t nt => q _ _ ((same_new nc).trans (same_new nt)) (.tup (by rw [List.length_map]; exact lo) (.inl upd_same) (intsIs o))⟩⟩⟩⟩
  rw [ho]
  exact SqL.of upd_same
end
def oddWs (lost ns o : List Int) : List W :=
  [.non, .str "ab", .tup [rowW lost], .tup [rowW lost, rowW ns, .int 1], .lst [rowW lost, rowW ns], .tup [.lst (lost.map W.int), rowW ns]] ++
  [.tup [.tup (List.replicate lost.length (.int 10)), rowW ns], .tup [rowW lost, .tup (List.replicate ns.length (.bl true))], .tup [rowW lost, .non], .tup [.non, .tup []]] ++
  [.tup [.tup [], .tup []], .tup [.tup (o.map W.int), .tup (List.replicate ns.length (.int 0))], .tup [.tup (List.replicate lost.length (.bl true)), rowW ns]]
theorem pairB_zero {ss : List Int} {w k : Nat} {rows : List (List Int)} {ls ns : List W} (h : ∀ u ∈ ns, intW u = 0) : pairB ss w k rows ls ns = false := by
  unfold pairB
  have e : firstNz (ns.map intW) = none := first_isnt fun j hj => by
    rw [List.getD_eq_getElem?_getD, List.getElem?_eq_getElem hj, List.getElem_map]
    exact h _ (List.getElem_mem _)
  rw [e]
  show (_ && (_ && (_ && (_ && (false && _))))) = false
  rw [Bool.false_and, Bool.and_false, Bool.and_false, Bool.and_false, Bool.and_false]
theorem pairB_asc {ss : List Int} {w k : Nat} {rows : List (List Int)} {u : W} {n : Nat} {ns : List Int} (h : withinW 1 9 u = false) (e : n = 0 → ns = []) : pairB ss w k rows (List.replicate n u) (ns.map W.int) = false := by
  cases n with
  | zero =>
    rw [e rfl]
    exact pairB_zero fun u h => by cases h
  | succ n =>
    unfold pairB
    have z : ascW (List.replicate (n + 1) u) = false := by
      unfold ascW
      rw [List.replicate_succ, List.all_cons, h]
      rfl
    rw [z, Bool.false_and, Bool.and_false]
theorem odd_no {ss lost ns o : List Int} {w k : Nat} {rows : List (List Int)} (ln : lost.length = 0 → ns = []) : ∀ u ∈ oddWs lost ns o, iuW ss w k rows u = false := by
  intro u hu
  unfold oddWs at hu
  simp only [List.cons_append, List.nil_append, List.mem_cons, List.not_mem_nil, or_false] at hu
  rcases hu with h | h | h | h | h | h | h | h | h | h | h | h | h <;> subst h
  · rfl
  · rfl
  · rfl
  · rfl
  · rfl
  · rfl
  · exact pairB_asc (u := .int 10) (by decide) ln
  · show pairB ss w k rows (lost.map W.int) (List.replicate ns.length (.bl true)) = false
    cases ns with
    | nil => exact pairB_zero fun u h => by cases h
    | cons n ns =>
      unfold pairB
      have z : numsW ((k : Int) * w) (.tup (List.replicate (n :: ns).length (.bl true))) = false := by
        show (decide _ && (List.replicate (ns.length + 1) (W.bl true)).all isNum) = false
        rw [List.replicate_succ, List.all_cons, show isNum (.bl true) = false by decide +kernel, Bool.false_and, Bool.and_false]
      rw [z, Bool.false_and, Bool.and_false, Bool.and_false, Bool.and_false]
  · rfl
  · rfl
  · exact pairB_zero fun u h => by cases h
  · refine pairB_zero fun u h => ?_
    rw [(List.mem_replicate.mp h).2]
    rfl
  · exact pairB_asc (u := .bl true) (by decide) ln
theorem odd_bt {lost ns o : List Int} (hb : Bt 9000 ns) : ∀ u ∈ oddWs lost ns o, ∀ ls ms, u = .tup [.tup ls, .tup ms] → Bt 9000 (ms.map intW) := by
  intro u hu ls ms e
  have e2n : (ns.map W.int).map intW = ns := by
    rw [List.map_map]
    exact (List.map_congr_left fun _ _ => rfl).trans (List.map_id ns)
  have zb : ∀ l : List W, (∀ u ∈ l, intW u = 0) → Bt 9000 (l.map intW) := fun l h x hx => by
    obtain ⟨u, hu, rfl⟩ := List.mem_map.mp hx
    rw [h u hu]
    exact Nat.two_pow_pos 9000
  unfold oddWs at hu
  simp only [List.cons_append, List.nil_append, List.mem_cons, List.not_mem_nil, or_false] at hu
  rcases hu with h | h | h | h | h | h | h | h | h | h | h | h | h <;> subst h <;> cases e
  · rw [e2n]; exact hb
  · exact zb _ fun u h => by rw [(List.mem_replicate.mp h).2]; rfl
  · exact zb _ fun u h => by cases h
  · exact zb _ fun u h => by rw [(List.mem_replicate.mp h).2]; rfl
  · rw [e2n]; exact hb
end Kn
-- part VOd
set_option maxHeartbeats 8000000
/-! _law_odd. -/
namespace Kn
open PySem PySem.Spec PyProof.Rows L2 La
def spOd : Sp := fun vs H Q _ => ∃ sa ta la na ss lost ns, vs = [.ref sa, .ref ta] ∧ Row H (.ref sa) ss ∧ Rd H ta (.tup [.ref la, .ref na]) ∧ Row H (.ref la) lost ∧ Row H (.ref na) ns ∧
  ∀ p xs o H', Same H H' → H' p = some (.lst xs) → IsAll H' xs (oddWs lost ns o) → Q (.ref p) H'
section
variable {P : Program} {w : World} {K : PySem.W.Frag} {mg : Str → Option Value} {base : Heap}
theorem ok_od {f : Addr} {fd : FuncData} (F : Fun K "_law_odd" "_law_odd" sOd f fd) (mt : mg "tuple" = none) (ml : mg "list" = none) (mn : mg "len" = none) (mr : mg "range" = none) : FnOk P w K mg base CX0 1 f fd ["_law_seats", "_law_trial"] spOd := by
  have S := scOd
  refine F.ok S (fun vs H Q E h => ?_) (fun cdv A outer s H vs Q E hr h => ?_)
  · obtain ⟨sa, ta, la, na, ss, lost, ns, rfl, _⟩ := h
    rfl
  · obtain ⟨sa, ta, la, na, ss, lost, ns, rfl, hss, hta, hlo, hns, q⟩ := h
    refine ⟨_, (pss_cons (ps_asg (pv 1) (pg_tup rfl (pgs_cons (pg_name (i := 2) S.nd rfl (.inl rfl)) (pgs_cons (pg_name (i := 3) S.nd rfl (.inl rfl)) pgs_nil))))
      (pss_cons (ps_set (i := 4) S.nd rfl (.inl rfl) (pe_lst (pa_cons pe_non (pa_cons pe_str (pa_cons (pe_tup (pa_cons (pv 2) pa_nil)) (pa_cons (pe_tup (pa_cons (pv 2) (pa_cons (pv 3) (pa_cons pe_int pa_nil)))) (pa_cons (pe_lst (pa_cons (pv 2) (pa_cons (pv 3) pa_nil))) (pa_cons (pe_tup (pa_cons (pe_callTy (show CallR _ (.type "list") (rLstA K) from call_list_of) (by rfl) ml (by decide +kernel) (pa_cons (pv 2) pa_nil)) (pa_cons (pv 3) pa_nil))) pa_nil))))))))
      (pss_cons (ps_set (i := 4) S.nd rfl (.inl rfl) (pe_op op_cat (pv 4) (pe_lst (pa_cons (pe_tup (pa_cons (pe_op (show OpR _ (binaryOp .Mult) (rRepA K) from op_repA) (pe_tup (pa_cons pe_int pa_nil)) (pe_callB (show CallR _ (.builtin "len") (rLenS K) from call_len_seq) (by rfl) mn PySem.boot_len (pa_cons (pv 2) pa_nil))) (pa_cons (pv 3) pa_nil))) (pa_cons (pe_tup (pa_cons (pv 2) (pa_cons (pe_op (show OpR _ (binaryOp .Mult) (rRepA K) from op_repA) (pe_tup (pa_cons pe_bl pa_nil)) (pe_callB (show CallR _ (.builtin "len") (rLenS K) from call_len_seq) (by rfl) mn PySem.boot_len (pa_cons (pv 3) pa_nil))) pa_nil))) (pa_cons (pe_tup (pa_cons (pv 2) (pa_cons pe_non pa_nil))) (pa_cons (pe_tup (pa_cons pe_non (pa_cons (pe_tup pa_nil) pa_nil))) pa_nil)))))))
      (pss_cons (ps_setLc (i := 5) (own := [("_law_seat", 6)]) (g := gName 6) rfl S.nd rfl rfl (sw_true rfl rfl rfl (by decide +kernel)) (pi_range2 (by rfl) mr (pa_cons pe_int (pa_cons pe_int pa_nil))) (blkOk_by (N := NOd) (sc := defScope sOd) (by decide +kernel)) (fun _ _ _ _ _ => (pg_name (i := 6) S.nd rfl (.inl rfl))) (fun _ _ _ _ _ => (pts_one (pt_cmpR (show OpR _ (compareOp .NotIn) (rIn K true) from op_notIn_seq) (pv 6) (pv 0) (by rfl)))) (fun _ _ _ _ _ => (pv 6)))
      (pss_one (ps_ret (pe_op op_cat (pv 4) (pe_lst (pa_cons (pe_tup (pa_cons (pe_tup pa_nil) (pa_cons (pe_tup pa_nil) pa_nil))) (pa_cons (pe_tup (pa_cons (pe_callTy (show CallR _ (.type "tuple") (rTupA K) from call_tuple_of) (by rfl) mt (by decide +kernel) (pa_cons (pe_slice (show L2.SlR _ (rSlL K) from sl_list) (pv 5) po_none (po_some (pe_callB (show CallR _ (.builtin "len") (rLenS K) from call_len_seq) (by rfl) mn PySem.boot_len (pa_cons (pv 2) pa_nil)))) pa_nil)) (pa_cons (pe_op (show OpR _ (binaryOp .Mult) (rRepA K) from op_repA) (pe_tup (pa_cons pe_int pa_nil)) (pe_callB (show CallR _ (.builtin "len") (rLenS K) from call_len_seq) (by rfl) mn PySem.boot_len (pa_cons (pv 3) pa_nil))) pa_nil))) (pa_cons (pe_tup (pa_cons (pe_op (show OpR _ (binaryOp .Mult) (rRepA K) from op_repA) (pe_tup (pa_cons pe_bl pa_nil)) (pe_callB (show CallR _ (.builtin "len") (rLenS K) from call_len_seq) (by rfl) mn PySem.boot_len (pa_cons (pv 2) pa_nil))) (pa_cons (pv 3) pa_nil))) pa_nil))))))))))), ?_⟩
    obtain ⟨la', ea, hla, l45⟩ := id hlo
    cases ea
    obtain ⟨na', ea, hna, n45⟩ := id hns
    cases ea
    refine ⟨_, rfl, ta, _, rfl, .inl hta, rfl, _, _, rfl, _, _, rfl, rfl, ?_⟩
    dsimp only [tSeq]
    dsimp only [tAsg]
    refine lay_lst (σ := [some (.ref sa), some (.ref ta), some (.ref la), some (.ref na), none, none, none]) (Hb := H) (mkA_cons (mk_con fun _ => .non) (mkA_cons (mk_con fun _ => .str "ab" (by decide +kernel) (by decide +kernel)) (mkA_cons (mk_tup (mkA_cons (mk_var rfl (rowIs hlo)) mkA_nil) (by show 1 ≤ 900; omega)) (mkA_cons (mk_tup (mkA_cons (mk_var rfl (rowIs hlo)) (mkA_cons (mk_var rfl (rowIs hns)) (mkA_cons (mk_con fun _ => .int _) mkA_nil))) (by show 3 ≤ 900; omega)) (mkA_cons (mk_lst (mkA_cons (mk_var rfl (rowIs hlo)) (mkA_cons (mk_var rfl (rowIs hns)) mkA_nil)) (by show 2 ≤ 900; omega)) (mkA_cons (mk_tup (mkA_cons (mk_lstof rfl hla (intsIs lost) (by rw [List.length_map]; omega)) (mkA_cons (mk_var rfl (rowIs hns)) mkA_nil)) (by show 2 ≤ 900; omega)) mkA_nil)))))) (by show 6 ≤ 900; omega) (Same.refl _) fun p1 xs1 H1 s1 e1 i1 => ?_
    refine ⟨_, rfl, lay_lst (σ := [some (.ref sa), some (.ref ta), some (.ref la), some (.ref na), some (.ref p1), none, none]) (Hb := H) (mkA_cons (mk_tup (mkA_cons (mk_rep (fun _ => .int _) rfl hla (by rw [List.length_map]; omega)) (mkA_cons (mk_var rfl (rowIs hns)) mkA_nil)) (by show 2 ≤ 900; omega)) (mkA_cons (mk_tup (mkA_cons (mk_var rfl (rowIs hlo)) (mkA_cons (mk_rep (fun _ => .bl _) rfl hna (by rw [List.length_map]; omega)) mkA_nil)) (by show 2 ≤ 900; omega)) (mkA_cons (mk_tup (mkA_cons (mk_var rfl (rowIs hlo)) (mkA_cons (mk_con fun _ => .non) mkA_nil)) (by show 2 ≤ 900; omega)) (mkA_cons (mk_tup (mkA_cons (mk_con fun _ => .non) (mkA_cons (mk_tup mkA_nil (by show 0 ≤ 900; omega)) mkA_nil)) (by show 2 ≤ 900; omega)) mkA_nil)))) (by show 4 ≤ 900; omega) s1 fun p2 xs2 H2 s2 e2 i2 => ?_⟩
    have l1 := i1.len
    have l2 := i2.len
    refine ⟨p1, p2, _, _, rfl, rfl, s2 _ _ e1, e2, by rw [l1, l2, sizeLine_eq]; show 6 + 4 ≤ _; omega, fun p3 np3 => ?_⟩
    have s3 : Same H (L2.upd H2 p3 (.lst (xs1 ++ xs2))) := (s1.trans s2).trans (same_new np3)
    have i12 := isall_app (i1.same (s2.trans (same_new (o := .lst (xs1 ++ xs2)) np3))) (i2.same (same_new (o := .lst (xs1 ++ xs2)) np3))
    have e3 : (L2.upd H2 p3 (.lst (xs1 ++ xs2))) p3 = some (.lst (xs1 ++ xs2)) := upd_same
    generalize L2.upd H2 p3 (.lst (xs1 ++ xs2)) = H3 at s3 i12 e3 ⊢
    have lx : (xs1 ++ xs2).length = 10 := by
      rw [i12.len]
      rfl
    generalize xs1 ++ xs2 = xs at i12 e3 lx
    obtain ⟨sa', ea, hsa, s45⟩ := id hss
    cases ea
    show gName 4 _ _ _ _
    unfold gName
    dsimp only [tSeq]
    dsimp only [tAsg, List.map]
    refine wf_lc (bs := (List.range 9).map fun i => if ((1 : Int) + (i : Nat)) ∈ ss then none else some ((1 : Int) + (i : Nat))) (walk_range (lo := 1) (n := 9)) (fun _ y n => y = V.int n) (fun _ _ _ _ _ e => e) (fun R hR => ⟨1, 10, rfl, by omega, hR⟩) (fun _ _ => trivial) (by rw [List.length_map, List.length_range]) (by omega) (fun j x H4 H5 bb hb s4 y Dl hDl nDl R Z hRR hZ => ?_) fun p ys H4 s4 np ep hp => ?_
    · obtain ⟨rfl, rfl⟩ := y
      rw [List.getElem?_map] at hb
      obtain ⟨k2, hk2, rfl⟩ := Option.map_eq_some_iff.mp hb
      have kk : k2 = j := by
        have z := (List.getElem?_eq_some_iff.mp hk2).2
        rw [List.getElem_range] at z
        exact z.symm
      subst kk
      refine ⟨rfl, ?_⟩
      dsimp only [tTest, tOp]
      refine ⟨_, rfl, _, rfl, sa, vI ss, rfl, .inr (.inl (Rd.same hsa (s3.trans s4))), rfl, flat_ints _, _, rfl, ?_⟩
      rw [if_pos rfl, inV_ints]
      by_cases c : ((1 : Int) + (k2 : Nat)) ∈ ss
      · rw [decide_eq_true c]
        exact iteF (hZ _ (if_pos c) (Same.refl _))
      · rw [decide_eq_false c]
        exact iteT ⟨_, rfl, hRR _ _ _ (if_neg c) (Same.refl _) rfl⟩
    · generalize hB : ((List.range 9).map fun i => if ((1 : Int) + (i : Nat)) ∈ ss then none else some ((1 : Int) + (i : Nat))).filterMap id = B at hp
      have ey := ints_paired hp
      subst ey
      have s04 := s3.trans s4
      have lB : B.length ≤ 900 := by
        have z := fm_le ((List.range 9).map fun i => if ((1 : Int) + (i : Nat)) ∈ ss then none else some ((1 : Int) + (i : Nat)))
        rw [hB, List.length_map, List.length_range] at z
        omega
      have hla4 := Rd.same hla s04
      have hna4 := Rd.same hna s04
      have hns4 := hns.same s04
      have hlo4 := hlo.same s04
      have e34 := s4 _ _ e3
      have i4 := i12.same s4
      obtain ⟨o, ho⟩ := mk_cut (K := K) (Hb := H4) (σ := [some (.ref sa), some (.ref ta), some (.ref la), some (.ref na), some (.ref p3), some (.ref p), none]) (i := 5) (j := 2) rfl ep lB rfl hla4
      refine ⟨_, rfl, lay_lst (σ := [some (.ref sa), some (.ref ta), some (.ref la), some (.ref na), some (.ref p3), some (.ref p), none]) (Hb := H4) (mkA_cons (mk_tup (mkA_cons (mk_tup mkA_nil (by show 0 ≤ 900; omega)) (mkA_cons (mk_tup mkA_nil (by show 0 ≤ 900; omega)) mkA_nil)) (by show 2 ≤ 900; omega)) (mkA_cons (mk_tup (mkA_cons ho (mkA_cons (mk_rep (fun _ => .int _) rfl hna4 (by rw [List.length_map]; omega)) mkA_nil)) (by show 2 ≤ 900; omega)) (mkA_cons (mk_tup (mkA_cons (mk_rep (fun _ => .bl _) rfl hla4 (by rw [List.length_map]; omega)) (mkA_cons (mk_var rfl (rowIs hns4)) mkA_nil)) (by show 2 ≤ 900; omega)) mkA_nil))) (by show 3 ≤ 900; omega) (Same.refl _) fun p5 xs5 H5 s5 e5 i5 => ?_⟩
      have l5 := i5.len
      refine ⟨p3, p5, _, _, rfl, rfl, s5 _ _ e34, e5, by rw [lx, l5, sizeLine_eq]; show 10 + 3 ≤ _; omega, fun p6 np6 => ?_⟩
      refine q p6 _ o _ ((s04.trans s5).trans (same_new np6)) upd_same ?_
      have z := isall_app (i4.same (s5.trans (same_new (o := .lst (xs ++ xs5)) np6))) (i5.same (same_new (o := .lst (xs ++ xs5)) np6))
      rw [List.length_map, List.length_map] at z
      unfold oddWs
      exact z
end
end Kn
-- part VPs
set_option maxHeartbeats 8000000
/-! power_scheme. -/
namespace Kn
open PySem PySem.Spec PyProof.Rows L2 La Err
abbrev sPs : Stmt := topS 37
abbrev NPs : List Str := ["seats", "width", "count", "scheme", "power", "place", "seat", "at"]
theorem scPs : FnScope NPs ["seats", "width", "count"] (defScope sPs) := ⟨rfl, rfl, rfl, by decide +kernel, rfl, by decide +kernel, by decide +kernel⟩
def psRow (ss : List Int) (w p pl : Nat) : List Int := ss.flatMap fun s => (List.range w).map fun a => if a = pl then s ^ p else 0
def psF (ss : List Int) (w n : Nat) : List (List Int) := (List.range n).flatMap fun p => (List.range w).map fun pl => psRow ss w p pl
theorem psRow_len {ss : List Int} {w p pl : Nat} : (psRow ss w p pl).length = ss.length * w := by
  unfold psRow
  induction ss with
  | nil => exact (Nat.zero_mul w).symm
  | cons s ss ih =>
    rw [List.flatMap_cons, List.length_append, ih, List.length_map, List.length_range, List.length_cons, Nat.succ_mul, Nat.add_comm]
theorem row_upd {H : Hp} {l : Addr} {xs : List V} {u : HO} {v : V} {ns : List Int} (e : H l = some (.lst xs)) (h : Row H v ns) : Row (L2.upd H l u) v ns := by
  obtain ⟨a, rfl, r, n⟩ := h
  refine ⟨a, rfl, ?_, n⟩
  rcases r with r | ⟨o, r⟩
  · exact .inl (by rw [upd_ne fun z => by rw [z, e] at r; cases r]; exact r)
  · exact .inr ⟨o, by rw [upd_ne fun z => by rw [z, e] at r; cases r]; exact r⟩
theorem rowsL_upd {H : Hp} {l : Addr} {xs : List V} {u : HO} {vs : List V} {ls : List (List Int)} (e : H l = some (.lst xs)) (h : RowsL H vs ls) : RowsL (L2.upd H l u) vs ls := ⟨h.1, fun i v ev => by
  obtain ⟨ns, e1, r⟩ := h.2 i v ev
  exact ⟨ns, e1, row_upd e r⟩⟩
theorem ps_lc {K : PySem.W.Frag} {H : Hp} {Q : VK} {sa : Addr} {ss : List Int} {w : Nat} {y2 y3 y4 y5 y6 y7 : Option V} {te : TE} (F : Int → Nat → Int) (hs : Rd H sa (.tup (vI ss))) (l45 : ss.length * w ≤ 45) (w45 : w ≤ 45)
    (ht : ∀ s ∈ ss, ∀ a, a < w → ∀ H2, Same H H2 → ∀ R : VK, R (.int (F s a)) H2 → te [some (.ref sa), some (.int w), y2, y3, y4, y5, some (.int s), some (.int (a : Nat))] H2 R)
    (q : ∀ p H', Same H H' → H p = none → H' p = some (.lst (vI (ss.flatMap fun s => (List.range w).map (F s)))) → Q (.ref p) H') :
    tLc2 (iTup K (tVar 0)) (gName 6) tYes (iRng1 (tCons (tVar 1) tNil)) (gName 7) tYes te [6, 7] [7] [some (.ref sa), some (.int w), y2, y3, y4, y5, y6, y7] H Q := by
  have lv : (vI ss).length = ss.length := List.length_map ..
  refine ⟨_, rfl, sa, rfl, ⟨_, .inl hs⟩, fun D nD => ?_⟩
  refine ⟨fun i m H' => m = ss.length - i ∧ i ≤ ss.length ∧ Same H H' ∧ H' D = some (.lst (vI ((ss.take i).flatMap fun s => (List.range w).map (F s)))), ⟨ss.length, by simp, Nat.zero_le _, same_new nD, upd_same⟩, ?_⟩
  have W := walk_tup (K := K) (a := sa) (xs := vI ss)
  have fl : ∀ l : List Int, (l.flatMap fun s => (List.range w).map (F s)).length = l.length * w := fun l => by
    induction l with
    | nil => exact (Nat.zero_mul w).symm
    | cons s l ih => rw [List.flatMap_cons, List.length_append, ih, List.length_map, List.length_range, List.length_cons, Nat.succ_mul, Nat.add_comm]
  rintro i m H' ⟨rfl, hi, s1, eD⟩
  by_cases hlt : i < ss.length
  · refine .inr ⟨W.goes i H' (by omega) (.inl (Rd.same hs s1)), fun H2 => Same H H2 ∧ H2 D = some (.lst (vI ((ss.take (i + 1)).flatMap fun s => (List.range w).map (F s)))), fun H2 p => ⟨ss.length - (i + 1), by omega, rfl, hlt, p⟩, fun x H2 y => ?_⟩
    obtain ⟨rfl, hx⟩ := W.yields i H' x H2 (by omega) (.inl (Rd.same hs s1)) y
    rw [List.getElem?_map] at hx
    obtain ⟨s, hss, rfl⟩ := Option.map_eq_some_iff.mp hx
    have ms := List.mem_of_getElem? hss
    have tk : (ss.take (i + 1)).flatMap (fun s => (List.range w).map (F s)) = (ss.take i).flatMap (fun s => (List.range w).map (F s)) ++ (List.range w).map (F s) := by
      rw [List.take_add_one, hss, List.flatMap_append]
      show _ ++ (_ ++ []) = _
      rw [List.append_nil]
    refine ⟨rfl, ?_⟩
    dsimp only [tYes]
    rw [if_pos rfl]
    refine ⟨_, rfl, w, rfl, by omega, by omega, ?_⟩
    rw [Int.toNat_natCast]
    refine ⟨fun j k H5 => k = w - j ∧ j ≤ w ∧ Same H H5 ∧ H5 D = some (.lst (vI ((ss.take i).flatMap (fun s => (List.range w).map (F s)) ++ (List.range j).map (F s)))), ⟨w, by simp, Nat.zero_le _, s1, by rw [List.range_zero, List.map_nil, List.append_nil]; exact eD⟩, ?_⟩
    rintro j k H5 ⟨rfl, hj, s5, e5⟩
    by_cases jl : j < w
    · refine .inr ⟨jl, fun H6 => Same H H6 ∧ H6 D = some (.lst (vI ((ss.take i).flatMap (fun s => (List.range w).map (F s)) ++ (List.range (j + 1)).map (F s)))), fun H6 p => ⟨w - (j + 1), by omega, rfl, jl, p⟩, fun x H6 y6 => ?_⟩
      obtain ⟨rfl, rfl⟩ := y6
      refine ⟨rfl, ?_⟩
      rw [if_pos rfl, Int.zero_add]
      refine ht s ms j jl _ s5 _ ⟨_, e5, ?_, same_own nD s5, ?_⟩
      · rw [List.length_map, List.length_append, fl, List.length_map, List.length_range, List.length_take]
        have z := Nat.mul_le_mul_right w (show min i ss.length + 1 ≤ ss.length by omega)
        rw [Nat.succ_mul] at z
        exact small1000 (by omega)
      · rw [upd_same, List.range_succ, List.map_append, ← List.append_assoc]
        unfold vI
        rw [List.map_append (l₂ := List.map (F s) [j])]
        rfl
    · have e : j = w := by omega
      subst e
      refine .inl ⟨Nat.le_refl _, s5, ?_⟩
      rw [tk]
      exact e5
  · have e : i = ss.length := by omega
    subst e
    have st := W.stops H' (.inl (Rd.same hs s1))
    rw [lv] at st
    rw [List.take_length] at eD
    exact .inl ⟨st, q D H' s1 nD eD⟩
def spPsE (CS CW CC : Addr) : Sp := fun vs H _ E => ∃ v u y wv wu wy, vs = [v, u, y] ∧ Is H v wv ∧ Is H u wu ∧ Is H y wy ∧
  ((seatsW wv = false ∧ ∀ H', Same H H' → E (.ref CS) none H') ∨ (seatsW wv = true ∧ withinW 1 6 wu = false ∧ ∀ H', Same H H' → E (.ref CW) none H') ∨
   (seatsW wv = true ∧ withinW 1 6 wu = true ∧ withinW 0 4 wy = false ∧ ∀ H', Same H H' → E (.ref CC) none H'))
def spPsG : Sp := fun vs H Q _ => ∃ sa ss, ∃ w n : Nat, vs = [.ref sa, .int w, .int n] ∧ Row H (.ref sa) ss ∧ ascB ss = true ∧ (∀ s ∈ ss, 1 ≤ s ∧ s ≤ 9) ∧ 1 ≤ ss.length ∧ ss.length ≤ 8 ∧ 1 ≤ w ∧ w ≤ 6 ∧ n ≤ 4 ∧ ss.length * w ≤ 45 ∧
  ∀ l vs' H', Same H H' → H l = none → H' l = some (.lst vs') → RowsL H' vs' (psF ss w n) → Q (.ref l) H'
section
variable {P : Program} {w : World} {K : PySem.W.Frag} {mg : Str → Option Value} {base : Heap}
theorem ok_ps {f fC fK fR CS CW CC : Addr} {fd fdC fdK fdR : FuncData} (F : Fun K "power_scheme" "power_scheme" sPs f fd) (GC : FnOk P w K mg base (L2.CX P w) 5 fC fdC ["seats", "width"] (spCsw CS CW)) (kC : PySem.W.keepIn K (.ref fC) = true) (bC : Binds K fdC ["seats", "width"] []) (gC : mg "check_seats_and_width" = some (.ref fC))
    (GK : FnOk P w K mg base (L2.CX P w) 3 fK fdK ["count", "most"] (spCheckC CC)) (kK : PySem.W.keepIn K (.ref fK) = true) (bK : Binds K fdK ["count", "most"] []) (gK : mg "check_count" = some (.ref fK))
    (GR : FnOk P w K mg base CX0 1 fR fdR ["number", "power"] spRaised) (kR : PySem.W.keepIn K (.ref fR) = true) (bR : Binds K fdR ["number", "power"] []) (gR : mg "raised" = some (.ref fR))
    (m4 : ∃ u, mg "MOST_CHECKS" = some u ∧ RelV (.int 4) u) (mr : mg "range" = none) (mt : mg "tuple" = none) : FnOk P w K mg base (L2.CX P w) 6 f fd ["seats", "width", "count"] (spOr (spPsE CS CW CC) spPsG) := by
  have S := scPs
  refine F.okX S (fun vs H Q E h => ?_) (fun cdv A outer s H vs Q E hr h => ?_)
  · rcases h with h | h
    · obtain ⟨v, u, y, wv, wu, wy, rfl, _⟩ := h
      rfl
    · obtain ⟨sa, ss, w, n, rfl, _⟩ := h
      rfl
  · have hr1 := hr.mono (show 1 ≤ 5 by decide)
    have hr3 := hr.mono (show 3 ≤ 5 by decide)
    have tk : Takes (cxOf (L2.CX P w) P w K mg base NPs "power_scheme" (defScope sPs) f cdv A outer s H E) (fun cls d _ H => E cls d H) := takes_of rfl rfl rfl rfl
    refine ⟨_, (pss_cons (ps_expr (pe_call GC hr (by rfl) gC kC bC .nil (passes_call tk fun _ _ _ _ h => h) (pa_cons (pv 0) (pa_cons (pv 1) pa_nil))))
      (pss_cons (ps_expr (pe_call GK hr3 (by rfl) gK kK bK .nil (passes_call tk fun _ _ _ _ h => h) (pa_cons (pv 2) (pa_cons (pe_known (by rfl) m4) pa_nil))))
      (pss_cons (ps_set (i := 3) S.nd rfl (.inl rfl) (pe_lst pa_nil))
      (pss_cons (ps_for (passes_of rfl) rfl (pi_range1 (by rfl) mr (pa_cons (pv 2) pa_nil)) (pg_name (i := 4) S.nd rfl (.inr rfl))
        (pss_one (ps_for (passes_of rfl) rfl (pi_range1 (by rfl) mr (pa_cons (pv 1) pa_nil)) (pg_name (i := 5) S.nd rfl (.inr rfl))
          (pss_one (ps_expr (pe_bm PySem.F.plainAttrs_list PySem.F.slot_list_append PySem.F.type_list_append mt_append (pv 3) (pa_cons (pe_callTy (show CallR _ (.type "tuple") (rTupA K) from call_tuple_of) (by rfl) mt (by decide +kernel) (pa_cons (pe_lc2 (own := [("seat", 6), ("at", 7)]) (vs1 := [7]) (g := gName 6) (g1 := gName 7) rfl S.nd (pi_tup (pv 0)) (blkOk_by (N := NPs) (sc := defScope sPs) (by decide +kernel)) (by decide) (fun _ _ _ _ _ => (pg_name (i := 6) S.nd rfl (.inl rfl))) (fun _ _ _ _ _ => pts_nil) (fun _ _ _ _ _ => pi_range1 (by rfl) mr (pa_cons (pv 1) pa_nil)) (fun _ _ _ _ _ => (pg_name (i := 7) S.nd rfl (.inl rfl))) (fun _ _ _ _ _ => pts_nil) (fun _ _ _ _ _ => (pe_ifExp (pt_cmpR op_eq (pv 7) (pv 5) (nomark _)) (pe_call GR hr1 (by rfl) gR kR bR .nil pass0 (pa_cons (pv 6) (pa_cons (pv 4) pa_nil))) pe_int))) pa_nil)) pa_nil)))))))
      (pss_one (ps_ret (pv 3))))))), ?_⟩
    rcases h with ⟨v, u, y, wv, wu, wy, rfl, hv, hu, hy, h⟩ | ⟨sa, ss, wd, n, rfl, hs, asc, rg, n1, n8, w1, w6, n4, l45, q⟩
    · refine ⟨_, rfl, _, rfl, v, u, wv, wu, rfl, hv, hu, ?_⟩
      rcases h with ⟨e, h⟩ | ⟨e1, e2, h⟩ | ⟨e1, e2, e3, h⟩
      · exact .inl ⟨e, h⟩
      · exact .inr (.inl ⟨e1, e2, h⟩)
      · exact .inr (.inr ⟨e1, e2, fun H1 s1 => ⟨_, rfl, y, wy, 4, rfl, hy.same s1, .inl ⟨e3, h H1 s1⟩⟩⟩)
    · obtain ⟨sa', ea, rs, _⟩ := id hs
      cases ea
      refine ⟨_, rfl, _, rfl, _, _, rowW ss, .int wd, rfl, rowIs hs, .int _, .inr (.inr ⟨seats_is asc rg n1 n8, ?_, fun H1 s1 => ⟨_, rfl, .int n, .int n, 4, rfl, .int _, .inr ⟨?_, ?_⟩⟩⟩)⟩
      · show (decide ((1 : Int) ≤ (wd : Int)) && decide ((wd : Int) ≤ 6)) = true
        rw [decide_eq_true (by omega), decide_eq_true (by omega)]
        rfl
      · show (decide ((0 : Int) ≤ (n : Int)) && decide ((n : Int) ≤ 4)) = true
        rw [decide_eq_true (by omega), decide_eq_true (by omega)]
        rfl
      have psS : ∀ p, psF ss wd (p + 1) = psF ss wd p ++ (List.range wd).map (psRow ss wd p) := fun p => by
        unfold psF
        rw [List.range_succ, List.flatMap_append]
        show _ ++ (_ ++ []) = _
        rw [List.append_nil]
      have psL : ∀ p, (psF ss wd p).length = p * wd := fun p => by
        induction p with
        | zero => exact (Nat.zero_mul wd).symm
        | succ p ih => rw [psS, List.length_append, ih, List.length_map, List.length_range, Nat.succ_mul]
      refine ⟨by show 0 ≤ sizeLine; omega, fun l nl => ?_⟩
      have s2 : Same H (L2.upd H1 l (.lst [])) := s1.trans (same_new nl)
      have el : (L2.upd H1 l (.lst [])) l = some (.lst []) := upd_same
      have nlH : H l = none := s1.free nl
      generalize L2.upd H1 l (.lst []) = H2 at s2 el ⊢
      refine ⟨_, rfl, n, rfl, by omega, by omega, for_range (fun p σ H3 => ∃ y4 y5 vs', σ = [some (.ref sa), some (.int wd), some (.int n), some (.ref l), y4, y5, none, none] ∧ Same H H3 ∧ H3 l = some (.lst vs') ∧ RowsL H3 vs' (psF ss wd p)) ⟨none, none, [], rfl, s2, el, rfl, fun i v e => by cases i <;> cases e⟩ ?_ ?_⟩
      · rintro p σ H3 hp ⟨y4, y5, vs', rfl, s3, e3, r3⟩
        have hp : p < n := hp
        rw [Int.zero_add]
        refine ⟨_, rfl, wd, rfl, by omega, by omega, for_range (fun pl σ H4 => ∃ y5 vs', σ = [some (.ref sa), some (.int wd), some (.int n), some (.ref l), some (.int (p : Nat)), y5, none, none] ∧ Same H H4 ∧ H4 l = some (.lst vs') ∧ RowsL H4 vs' (psF ss wd p ++ (List.range pl).map (psRow ss wd p))) ⟨y5, vs', rfl, s3, e3, by rw [List.range_zero, List.map_nil, List.append_nil]; exact r3⟩ ?_ ?_⟩
        · rintro pl σ H4 hpl ⟨y5', vs2, rfl, s4, e4, r4⟩
          have hpl : pl < wd := hpl
          rw [Int.zero_add]
          refine ⟨_, rfl, .inl ⟨rfl, _, SqL.of e4⟩, ?_⟩
          dsimp only [tCons, tCB, tNil, List.map, List.set]
          refine ps_lc (fun s a => if a = pl then s ^ p else 0) (Rd.same rs s4) l45 (by omega) (fun s hs2 a ha H5 s5 R hR => ?_) fun t H5 s5 nt et => ?_
          · refine ⟨_, rfl, _, rfl, rfl, _, rfl, ?_⟩
            by_cases c : a = pl
            · subst c
              rw [decide_eq_true rfl]
              rw [if_pos rfl] at hR
              have z := rg s hs2
              exact iteT ⟨_, rfl, _, rfl, s, p, rfl, by omega, by omega, by omega, hR⟩
            · rw [decide_eq_false (fun z => c (by have y := V.int.inj z; omega))]
              rw [if_neg c] at hR
              exact iteF hR
          · refine ⟨t, _, rfl, .inl ⟨SqL.of et, fun t2 nt2 => ?_⟩⟩
            have s6 : Same H4 (L2.upd H5 t2 (.tup (vI (psRow ss wd p pl)))) := s5.trans (same_new nt2)
            refine ⟨l, vs2, _, rfl, rfl, s6 _ _ e4, ?_, ?_⟩
            · rw [r4.1, List.length_append, psL, List.length_map, List.length_range]
              have z := Nat.mul_le_mul_right wd (show p ≤ 4 by omega)
              exact small1000 (by omega)
            · refine ⟨_, _, rfl, same_own nlH (s4.trans s6), upd_same, ?_⟩
              rw [List.range_succ, List.map_append, ← List.append_assoc]
              exact rowsL_upd (s6 _ _ e4) ((r4.same s6).snoc ⟨t2, rfl, .inl upd_same, by rw [psRow_len]; exact l45⟩)
        · rintro σ H4 ⟨y5', vs2, rfl, s4, e4, r4⟩
          refine ⟨_, _, vs2, rfl, s4, e4, ?_⟩
          rw [psS]
          rw [Int.toNat_natCast] at r4
          exact r4
      · rintro σ H3 ⟨y4, y5, vs', rfl, s3, e3, r3⟩
        rw [Int.toNat_natCast] at r3
        exact ⟨_, rfl, q l vs' H3 s3 nlH e3 r3⟩
end
end Kn
-- part VSc
set_option maxHeartbeats 8000000
/-! _law_scheme. -/
namespace Kn
open PySem PySem.Spec PyProof.Rows L2 La
abbrev sSc : Stmt := topS 52
abbrev NSc : List Str := ["_law_draw", "_law_seats", "_law_width", "_law_powers_here", "_law_wide", "_law_way", "_law_row", "_law_spot", "_law_found", "_law_turn", "_law_k"]
theorem scSc : FnScope NSc ["_law_draw", "_law_seats", "_law_width", "_law_powers_here"] (defScope sSc) := ⟨rfl, rfl, rfl, by decide +kernel, rfl, by decide +kernel, by decide +kernel⟩
/-- a tuple -/
def TupV (H : Hp) (v : V) (xs : List V) : Prop := ∃ a, v = .ref a ∧ Rd H a (.tup xs) ∧ xs.length ≤ 50
theorem TupV.same {H H' : Hp} {v : V} {xs : List V} (h : TupV H v xs) (s : Same H H') : TupV H' v xs := by
  obtain ⟨a, e, r, n⟩ := h
  exact ⟨a, e, Rd.same r s, n⟩
theorem rd_but {d l c a : Addr} {H H' : Hp} {xs : List V} (r : Rd H a (.tup xs)) (D : Drw H d l c) (B : But d l H H') : Rd H' a (.tup xs) := by
  obtain ⟨⟨r0, t0, hd⟩, ⟨ns0, hl⟩, _, _⟩ := D
  rcases r with r | ⟨o, r⟩
  · exact .inl (B _ _ r (fun z => by rw [z, hd] at r; cases r) (fun z => by rw [z, hl] at r; cases r))
  · exact .inr ⟨o, B _ _ r (fun z => by rw [z, hd] at r; cases r) (fun z => by rw [z, hl] at r; cases r)⟩
theorem TupV.but {d l c : Addr} {H H' : Hp} {v : V} {xs : List V} (h : TupV H v xs) (D : Drw H d l c) (B : But d l H H') : TupV H' v xs := by
  obtain ⟨a, e, r, n⟩ := h
  exact ⟨a, e, rd_but r D B, n⟩
theorem Row.but {d l c : Addr} {H H' : Hp} {v : V} {ns : List Int} (h : Row H v ns) (D : Drw H d l c) (B : But d l H H') : Row H' v ns := by
  obtain ⟨a, e, r, n⟩ := h
  exact ⟨a, e, rd_but r D B, n⟩
theorem RowsL.but {d l c : Addr} {H H' : Hp} {vs : List V} {ls : List (List Int)} (h : RowsL H vs ls) (D : Drw H d l c) (B : But d l H H') : RowsL H' vs ls := ⟨h.1, fun i v e => by
  obtain ⟨ns, e1, r⟩ := h.2 i v e
  exact ⟨ns, e1, r.but D B⟩⟩
theorem FrT.but {d l c a : Addr} {H H' : Hp} {xs : List V} (h : FrT H a xs) (D : Drw H d l c) (B : But d l H H') : FrT H' a xs := by
  obtain ⟨⟨r0, t0, hd⟩, ⟨ns0, hl⟩, _, _⟩ := D
  obtain ⟨o, r, e⟩ := h
  exact ⟨o, B _ _ r (fun z => by rw [z, hd] at r; cases r) (fun z => by rw [z, hl] at r; cases r), e⟩
theorem Row.tv {H : Hp} {v : V} {ns : List Int} (h : Row H v ns) : TupV H v (vI ns) := by
  obtain ⟨a, e, r, n⟩ := h
  exact ⟨a, e, r, by rw [List.length_map]; omega⟩
theorem TupV.row {H : Hp} {v : V} {ns : List Int} (h : TupV H v (vI ns)) (n : ns.length ≤ 45) : Row H v ns := by
  obtain ⟨a, e, r, _⟩ := h
  exact ⟨a, e, r, n⟩
theorem tv_new {H : Hp} {p : Addr} {xs : List V} (n : xs.length ≤ 50) : TupV (L2.upd H p (.tup xs)) (.ref p) xs := ⟨p, rfl, .inl upd_same, n⟩
theorem slA_tup {K : PySem.W.Frag} {H : Hp} {Q : VK} {v : V} {xs : List V} {lo hi : Option Int} (h : TupV H v xs) (q : ∀ u H', Same H H' → TupV H' u (cutV xs lo hi) → Q u H') : rSlA K v lo hi H Q := by
  obtain ⟨a, rfl, r, n⟩ := h
  refine ⟨a, xs, rfl, .inl r, fun e => q _ _ (Same.refl _) ⟨a, rfl, ?_, ?_⟩, fun _ p np => q _ _ (same_new np) (tv_new (Nat.le_trans (cutV_length _ _ _) n))⟩
  · have z : cutV xs lo hi = xs := by
      unfold cutV
      rw [e.1, e.2, List.drop_zero, Nat.sub_zero, List.take_length]
    rw [z]
    exact r
  · exact Nat.le_trans (cutV_length _ _ _) n
theorem catA_tup {K : PySem.W.Frag} {H : Hp} {Q : VK} {u v : V} {xs ys : List V} (h : TupV H u xs) (k : TupV H v ys) (n : xs.length + ys.length ≤ 50) (q : ∀ z H', Same H H' → TupV H' z (xs ++ ys) → Q z H') : rCatA K u v H Q := by
  obtain ⟨a, rfl, ra, na⟩ := h
  obtain ⟨b, rfl, rb, nb⟩ := k
  refine ⟨a, b, xs, ys, rfl, rfl, .inl ra, .inl rb, by rw [sizeLine_eq]; omega, fun e => q _ _ (Same.refl _) ?_, fun _ e => q _ _ (Same.refl _) ?_, fun _ _ p np => q _ _ (same_new np) (tv_new (by rw [List.length_append]; exact n))⟩
  · rw [e]
    exact ⟨b, rfl, rb, nb⟩
  · rw [e, List.append_nil]
    exact ⟨a, rfl, ra, na⟩
theorem cut_from' {ys : List V} {n : Nat} : cutV ys (some (n : Int)) none = ys.drop n := by
  unfold cutV
  rw [HT.sIx_none, HT.sIx_nat]
  by_cases h : n ≤ ys.length
  · rw [Nat.min_eq_left h, List.take_of_length_le (by rw [List.length_drop]; omega)]
  · rw [Nat.min_eq_right (by omega), List.drop_of_length_le (Nat.le_refl _), List.drop_of_length_le (by omega), List.take_nil]
theorem cut_to' {xs : List V} {n : Nat} : cutV xs none (some (n : Int)) = xs.take n := by
  have e1 : HT.sIx xs.length xs.length (some (n : Int)) = min n xs.length := HT.sIx_nat _ _ n
  have e2 : HT.sIx xs.length 0 none = 0 := rfl
  unfold cutV
  rw [e1, e2, List.drop_zero, Nat.sub_zero]
  by_cases h : n ≤ xs.length
  · rw [Nat.min_eq_left h]
  · rw [Nat.min_eq_right (by omega), List.take_length, List.take_of_length_le (by omega)]
theorem cut_m1' {xs : List V} (h : 0 < xs.length) : cutV xs none (some (-1)) = xs.take (xs.length - 1) := by
  have e : HT.sIx xs.length xs.length (some (-1)) = xs.length - 1 := by
    show (if (-1 : Int) < 0 then ((-1 : Int) + (xs.length : Int)).toNat else min (-1 : Int).toNat xs.length) = _
    rw [if_pos (by decide)]
    omega
  unfold cutV
  rw [e, show HT.sIx xs.length 0 none = 0 from rfl, List.drop_zero, Nat.sub_zero]
/-- schemes that the law makes -/
structure SchG (wide : Nat) (rows : List (List Int)) : Prop where
  rl : ∀ r ∈ rows, r.length = wide
  r8 : rows.length ≤ 8
  bt : ∀ i r, rows[i]? = some r → i + 1 < rows.length → Bt 10 r
  bt2 : ∀ r ∈ rows, Bt 67 r
theorem bt_le {a b : Nat} (h : a ≤ b) {r : List Int} (k : Bt a r) : Bt b r := fun x hx => Nat.lt_of_lt_of_le (k x hx) (Nat.pow_le_pow_right (by decide) h)
theorem schG_all {wide : Nat} {rows : List (List Int)} (rl : ∀ r ∈ rows, r.length = wide) (r8 : rows.length ≤ 8) (bt : ∀ r ∈ rows, Bt 10 r) : SchG wide rows := ⟨rl, r8, fun i r e _ => bt r (List.mem_of_getElem? e), fun r hr => bt_le (by decide) (bt r hr)⟩
theorem psF_facts {ss : List Int} {w n : Nat} (rg : ∀ s ∈ ss, 1 ≤ s ∧ s ≤ 9) (n4 : n ≤ 4) : (psF ss w n).length = n * w ∧ ∀ r ∈ psF ss w n, r.length = ss.length * w ∧ Bt 10 r := by
  refine ⟨?_, fun r hr => ?_⟩
  · unfold psF
    induction n with
    | zero => exact (Nat.zero_mul w).symm
    | succ n ih =>
      rw [List.range_succ, List.flatMap_append, List.length_append, ih (by omega), Nat.succ_mul]
      show _ + (List.map _ _ ++ []).length = _
      rw [List.append_nil, List.length_map, List.length_range]
  · unfold psF at hr
    obtain ⟨p, hp, hr⟩ := List.mem_flatMap.mp hr
    obtain ⟨pl, hpl, rfl⟩ := List.mem_map.mp hr
    have p4 := List.mem_range.mp hp
    refine ⟨psRow_len, fun x hx => ?_⟩
    unfold psRow at hx
    obtain ⟨s, hs, hx⟩ := List.mem_flatMap.mp hx
    obtain ⟨a, ha, rfl⟩ := List.mem_map.mp hx
    have z := rg s hs
    split
    · rw [Int.natAbs_pow]
      have h1 : s.natAbs ≤ 9 := by omega
      have h2 : s.natAbs ^ p ≤ 9 ^ p := Nat.pow_le_pow_left h1 p
      have h3 : 9 ^ p ≤ 9 ^ 3 := Nat.pow_le_pow_right (by decide) (by omega)
      have h4 : 9 ^ 3 < 2 ^ 10 := by decide
      omega
    · decide
theorem rowsL_drop {H : Hp} {vs : List V} {ls : List (List Int)} {n : Nat} (h : RowsL H vs ls) : RowsL H (vs.drop n) (ls.drop n) := ⟨by rw [List.length_drop, List.length_drop, h.1], fun i v e => by
  rw [List.getElem?_drop] at e
  obtain ⟨ns, e1, r⟩ := h.2 _ v e
  exact ⟨ns, by rw [List.getElem?_drop]; exact e1, r⟩⟩
theorem rowsL_take {H : Hp} {vs : List V} {ls : List (List Int)} {n : Nat} (h : RowsL H vs ls) : RowsL H (vs.take n) (ls.take n) := ⟨by rw [List.length_take, List.length_take, h.1], fun i v e => by
  rw [List.getElem?_take] at e ⊢
  split at e
  · rename_i hi
    rw [if_pos hi]
    exact h.2 _ v e
  · cases e⟩
theorem at_last {xs : List V} {v : V} (h : xs[xs.length - 1]? = some v) : atI xs (-1) = some v := by
  have hl := (List.getElem?_eq_some_iff.mp h).1
  unfold atI ixN
  rw [if_neg (by decide), if_pos (by omega)]
  show xs[((-1 : Int) + (xs.length : Int)).toNat]? = some v
  rw [show ((-1 : Int) + (xs.length : Int)).toNat = xs.length - 1 by omega]
  exact h
/-- the drawn scheme begins -/
def PSc : TS := fun D σ H => ∃ d l c, ∃ wide : Nat, ∃ y1 y2 y3 y5, σ = [some (.ref d), y1, y2, y3, some (.int wide), y5, none, none, none, none, none] ∧ Drw H d l c ∧ wide ≤ 8 ∧ ∀ p xs rows H', Drw H' d l c → But d l H H' → H' p = some (.lst xs) → p ≠ l → RowsL H' xs rows → SchG wide rows → D.rt (.ref p) H'
def spSc : Sp := fun vs H Q _ => ∃ d l c sa pl ss xs0, ∃ w n : Nat, vs = [.ref d, .ref sa, .int w, .ref pl] ∧ Drw H d l c ∧ Row H (.ref sa) ss ∧ H pl = some (.lst xs0) ∧ pl ≠ l ∧ RowsL H xs0 (psF ss w n) ∧ 1 ≤ ss.length ∧ ss.length ≤ 4 ∧ (∀ s ∈ ss, 1 ≤ s ∧ s ≤ 9) ∧ 1 ≤ w ∧ w ≤ 2 ∧ n ≤ 4 ∧
  ∀ p xs rows H', Drw H' d l c → But d l H H' → H' p = some (.lst xs) → p ≠ l → RowsL H' xs rows → SchG (ss.length * w) rows → Q (.ref p) H'
section
variable {P : Program} {w : World} {K : PySem.W.Frag} {mg : Str → Option Value} {base : Heap}
theorem ok_sc {f fT fP : Addr} {fd fdT fdP : FuncData} (F : Fun K "_law_scheme" "_law_scheme" sSc f fd) (GT : FnOk P w K mg base CX0 2 fT fdT ["_law_draw", "_law_amount"] spTake) (kT : PySem.W.keepIn K (.ref fT) = true) (bT : Binds K fdT ["_law_draw", "_law_amount"] []) (gT : mg "_law_take" = some (.ref fT))
    (GP : FnOk P w K mg base CX0 3 fP fdP ["_law_draw", "_law_some"] spPick) (kP : PySem.W.keepIn K (.ref fP) = true) (bP : Binds K fdP ["_law_draw", "_law_some"] []) (gP : mg "_law_pick" = some (.ref fP))
    (mn : mg "len" = none) (mr : mg "range" = none) (mt : mg "tuple" = none) : FnOk P w K mg base CX0 4 f fd ["_law_draw", "_law_seats", "_law_width", "_law_powers_here"] spSc := by
  have S := scSc
  refine F.ok S (fun vs H Q E h => ?_) (fun cdv A outer s H vs Q E hr h => ?_)
  · obtain ⟨d, l, c, sa, pl, ss, xs0, w, n, rfl, _⟩ := h
    rfl
  · obtain ⟨d, l, c, sa, pl, ss, xs0, wd, n, rfl, D, hss, hpl, npl, hrs, n1, n4s, rg, w1, w2, n4, q⟩ := h
    have hu0 : (cxOf CX0 P w K mg base NSc "_law_scheme" (defScope sSc) f cdv A outer s H E).nox.A.units < cLine := Nat.lt_of_succ_lt (hu_of hr)
    have hr2 := hr.mono (show 2 ≤ 3 by decide)
    refine ⟨_, (pss_cons (ps_par (i := 4) (j := 5) rfl S.nd rfl rfl (by decide) rfl rfl (pa_cons (pe_op op_mulW (pe_callB (show CallR _ (.builtin "len") (rLenS K) from call_len_seq) (by rfl) mn PySem.boot_len (pa_cons (pv 1) pa_nil)) (pv 2)) (pa_cons (pe_call GT hr2 (by rfl) gT kT bT .nil pass0 (pa_cons (pv 0) (pa_cons pe_int pa_nil))) pa_nil)) (by rfl) (by rfl))
      (pss_cons (ps_if (PW.pt (pw_and (pt_cmpR op_eq (pv 5) pe_int (nomark _)) (pw_and1 (pt_cmpR (op_neNil hu0) (pv 3) (pe_lst pa_nil) (nomark _))))) (pss_one (ps_ret (pe_slice (show L2.SlR _ (rSlL K) from sl_list) (pv 3) (po_some pe_int) po_none))) pss_nil)
      (pss_cons (ps_if (PW.pt (pw_and (pt_cmpR op_eq (pv 5) pe_int (nomark _)) (pw_and1 (pt_cmpR (op_neNil hu0) (pv 3) (pe_lst pa_nil) (nomark _))))) (pss_cons (ps_set (i := 6) S.nd rfl (.inl rfl) (pe_ix (show IxR _ (rIxL K) from ix_list) (pv 3) (pe_un un_neg pe_int) (fun _ _ => rfl)))
        (pss_cons (ps_set (i := 7) S.nd rfl (.inl rfl) (pe_call GT hr2 (by rfl) gT kT bT .nil pass0 (pa_cons (pv 0) (pa_cons (pv 4) pa_nil))))
        (pss_one (ps_ret (pe_op op_cat (pe_slice (show L2.SlR _ (rSlL K) from sl_list) (pv 3) po_none (po_some (pe_un un_neg pe_int))) (pe_lst (pa_cons (pe_op (show OpR _ (binaryOp .Add) (rCatA K) from op_catA) (pe_op (show OpR _ (binaryOp .Add) (rCatA K) from op_catA) (pe_slice (show L2.SlR _ (rSlA K) from sl_tupA) (pv 6) po_none (po_some (pv 7))) (pe_tup (pa_cons (pe_call GP hr (by rfl) gP kP bP .nil pass0 (pa_cons (pv 0) (pa_cons (pe_lst (pa_cons pe_int (pa_cons pe_int (pa_cons (pe_un un_neg pe_int) (pa_cons (pe_op op_pow pe_int pe_int) pa_nil))))) pa_nil))) pa_nil))) (pe_slice (show L2.SlR _ (rSlA K) from sl_tupA) (pv 6) (po_some (pe_op op_add (pv 7) pe_int)) po_none)) pa_nil))))))) pss_nil)
      (PSs.pre PSc (pss_cons (ps_set (i := 8) S.nd rfl (.inl rfl) (pe_lst pa_nil))
      (pss_cons (ps_for PassesOwn.never rfl (pi_range1 (by rfl) mr (pa_cons (pe_call GT hr2 (by rfl) gT kT bT .nil pass0 (pa_cons (pv 0) (pa_cons pe_int pa_nil))) pa_nil)) (pg_name (i := 9) S.nd rfl (.inl rfl))
        (pss_one (ps_expr (pe_bm PySem.F.plainAttrs_list PySem.F.slot_list_append PySem.F.type_list_append mt_append (pv 8) (pa_cons (pe_callTy (show CallR _ (.type "tuple") (rTupA K) from call_tuple_of) (by rfl) mt (by decide +kernel) (pa_cons (pe_lc (own := [("_law_k", 10)]) (g := gName 10) rfl S.nd (pi_range1 (by rfl) mr (pa_cons (pv 4) pa_nil)) (blkOk_by (N := NSc) (sc := defScope sSc) (by decide +kernel)) (fun _ _ _ _ _ => (pg_name (i := 10) S.nd rfl (.inl rfl))) (fun _ _ _ _ _ => pts_nil) (fun _ _ _ _ _ => (pe_call GP hr (by rfl) gP kP bP .nil pass0 (pa_cons (pv 0) (pa_cons (pe_lst (pa_cons pe_int (pa_cons pe_int (pa_cons pe_int (pa_cons pe_int (pa_cons pe_int (pa_cons (pe_un un_neg pe_int) (pa_cons pe_int pa_nil)))))))) pa_nil))))) pa_nil)) pa_nil)))))
      (pss_one (ps_ret (pv 8))))) ?tail)))), ?_⟩
    case tail =>
      rintro D0 σ H ⟨d, l, c, wide, y1, y2, y3, y5, rfl, D, w8, q⟩
      refine ⟨by show 0 ≤ sizeLine; omega, fun f0 nf0 => ?_⟩
      have off0 := D.off nf0
      have D2 : Drw (L2.upd H f0 (.lst [])) d l c := D.new nf0
      have B2 : But d l H (L2.upd H f0 (.lst [])) := .new nf0
      have e2 : (L2.upd H f0 (.lst [])) f0 = some (.lst []) := upd_same
      generalize L2.upd H f0 (.lst []) = H2 at D2 B2 e2 ⊢
      refine ⟨_, rfl, d, l, c, 6, rfl, D2, by decide, by decide, fun m H3 m0 m6 D3 B3 => ⟨_, rfl, by omega, by omega, for_range (fun i σ H4 => ∃ y9 vs rows, σ = [some (.ref d), y1, y2, y3, some (.int wide), y5, none, none, some (.ref f0), y9, none] ∧ Drw H4 d l c ∧ But d l H H4 ∧ H4 f0 = some (.lst vs) ∧ RowsL H4 vs rows ∧ rows.length = i ∧ ∀ r ∈ rows, r.length = wide ∧ Bt 10 r) ⟨none, [], [], rfl, D3, B2.trans B3, B3 _ _ e2 off0.1 off0.2, ⟨rfl, fun i v e => by cases i <;> cases e⟩, rfl, fun r hr => by cases hr⟩ ?_ ?_⟩⟩
      · rintro i σ H4 hi ⟨y9, vs, rows, rfl, D4, B4, e4, r4, li, f4⟩
        have hi : i < m.toNat := hi
        refine ⟨_, rfl, .inl ⟨rfl, _, SqL.of e4⟩, ?_⟩
        dsimp only [tCB, tCons, tNil, List.map, List.set]
        refine ⟨_, rfl, wide, rfl, by omega, by omega, fun Dl nDl => lc_it (D := Dl) walk_range (fun k H7 => ∃ as : List Int, H7 Dl = some (.lst (as.map V.int)) ∧ as.length = k ∧ Drw H7 d l c ∧ But d l H4 H7 ∧ Bt 10 as) ⟨[], upd_same, rfl, D4.new nDl, .new nDl, fun x h => by cases h⟩ (fun _ _ _ _ => trivial) ?_ ?_⟩
        · rintro k x H7 H8 hk2 ⟨as, ea, la, D7, B7, b7⟩ ⟨rfl, rfl⟩
          have hk2 : k < wide := by omega
          refine ⟨rfl, ?_⟩
          dsimp only [tYes]
          rw [if_pos rfl]
          have offD := D4.off nDl
          refine ⟨_, rfl, 1, rfl, by show 7 ≤ sizeLine; rw [sizeLine_eq]; omega, fun q1 nq1 => ?_⟩
          have s6 : Same H8 (L2.upd H8 q1 (.lst [.int 0, .int 0, .int 1, .int 1, .int 2, .int (-1), .int 3])) := same_new nq1
          have offq := D7.off nq1
          refine ⟨d, l, c, q1, _, rfl, D7.same s6, upd_same, offq.2, by decide, by show 7 ≤ 1000; decide, fun kk v H9 hx D9 B9 => ?_⟩
          obtain ⟨xi, rfl, bxi⟩ : ∃ xi : Int, v = .int xi ∧ xi.natAbs < 2 ^ 10 := by
            have hx : [V.int 0, V.int 0, V.int 1, V.int 1, V.int 2, V.int (-1), V.int 3][kk]? = some v := hx
            have mm := List.mem_of_getElem? hx
            simp only [List.mem_cons, List.not_mem_nil, or_false] at mm
            rcases mm with h | h | h | h | h | h | h
            · exact ⟨0, h, by decide⟩
            · exact ⟨0, h, by decide⟩
            · exact ⟨1, h, by decide⟩
            · exact ⟨1, h, by decide⟩
            · exact ⟨2, h, by decide⟩
            · exact ⟨-1, h, by decide⟩
            · exact ⟨3, h, by decide⟩
          have ea9 := B9 _ _ (s6 _ _ ea) offD.1 offD.2
          refine ⟨_, ea9, by rw [List.length_map]; exact small1000 (by omega), as ++ [xi], ?_, by rw [List.length_append, la]; rfl, D9.own D4 nDl, ((B7.trans (But.of s6)).trans B9).own nDl, fun y hy => ?_⟩
          · rw [upd_same, List.map_append]
            rfl
          · rcases List.mem_append.mp hy with h | h
            · exact b7 y h
            · rw [List.mem_singleton.mp h]
              exact bxi
        · rintro H7 ⟨as, ea, la, D7, B7, b7⟩
          have e47 := B7 _ _ e4 off0.1 off0.2
          refine ⟨Dl, _, rfl, .inl ⟨SqL.of ea, fun t nt => ?_⟩⟩
          have s8 := same_new nt (o := .tup (as.map V.int))
          have lv := r4.1
          refine ⟨f0, vs, _, rfl, rfl, s8 _ _ e47, small1000 (by omega), ?_⟩
          refine ⟨_, _, rows ++ [as], rfl, (D7.same s8).own D nf0, ((B4.trans B7).trans (But.of s8)).own nf0, upd_same, rowsL_upd (s8 _ _ e47) (RowsL.snoc ((r4.but D4 B7).same s8) ⟨t, rfl, .inl upd_same, by omega⟩), by rw [List.length_append, li]; rfl, fun r hr => ?_⟩
          rcases List.mem_append.mp hr with h | h
          · exact f4 r h
          · rw [List.mem_singleton.mp h]
            exact ⟨la, b7⟩
      · rintro σ H4 ⟨y9, vs, rows, rfl, D4, B4, e4, r4, li, f4⟩
        exact ⟨_, rfl, q f0 vs rows H4 D4 B4 e4 off0.2 r4 (schG_all (fun r hr => (f4 r hr).1) (by omega) fun r hr => (f4 r hr).2)⟩
    obtain ⟨sa', ea, hsa, _⟩ := id hss
    cases ea
    have sw : ss.length * wd ≤ 4 * 2 := Nat.mul_le_mul n4s w2
    obtain ⟨lps, fps⟩ := psF_facts (w := wd) (n := n) rg n4
    have nw8 : n * wd ≤ 4 * 2 := Nat.mul_le_mul n4 w2
    have lx0 := hrs.1
    refine ⟨_, rfl, sa, vI ss, rfl, .inr (.inl hsa), _, rfl, _, _, rfl, rfl, wide_mul (a := 10) (b := 10) (by rw [Int.natAbs_natCast, List.length_map]; omega) (by rw [Int.natAbs_natCast]; omega) (by decide) (by decide) (by decide), _, rfl, d, l, c, 4, rfl, D, by decide, by decide, fun k H1 k0 k4 D1 B1 => ⟨_, _, rfl, ?_⟩⟩
    have eW : (((vI ss).length : Nat) : Int) * (wd : Int) = ((ss.length * wd : Nat) : Int) := by rw [List.length_map, Int.natCast_mul]
    dsimp only [List.set, L2.start]
    rw [eW]
    have hpl1 : H1 pl = some (.lst xs0) := B1 _ _ hpl (fun z => by obtain ⟨⟨r0, t0, hd⟩, _⟩ := D; rw [z, hd] at hpl; cases hpl) npl
    have hrs1 := hrs.but D B1
    have rest : ∀ H2, Same H1 H2 → PSc { nx := fun x H' => Q V.non H', rt := Q } [some (.ref d), some (.ref sa), some (.int wd), some (.ref pl), some (.int ((ss.length * wd : Nat) : Int)), some (.int k), none, none, none, none, none] H2 := fun H2 s2 => ⟨d, l, c, _, _, _, _, _, rfl, D1.same s2, sw, fun p xs rows H' D' B' => q p xs rows H' D' ((B1.trans (But.of s2)).trans B'), ⟩
    refine ⟨_, rfl, rfl, _, rfl, ?_⟩
    by_cases c0 : k = 0
    · rw [show decide (V.int k = V.int 0) = true from decide_eq_true (by rw [c0])]
      refine iteT ⟨_, rfl, by show 0 ≤ sizeLine; omega, fun z nz => ⟨pl, z, xs0, rfl, rfl, same_new nz _ _ hpl1, upd_same, _, rfl, ?_⟩⟩
      cases exs : xs0.isEmpty with
      | true =>
        refine iteF ?_
        refine ⟨_, rfl, rfl, _, rfl, ?_⟩
        rw [show decide (V.int k = V.int 1) = false from decide_eq_false fun z => by have z := V.int.inj z; omega]
        refine iteF ?_
        exact iteF (rest _ (same_new nz))
      | false =>
        refine iteT ⟨_, rfl, 1, rfl, pl, xs0, rfl, SqL.of (same_new nz _ _ hpl1), fun p np => ?_⟩
        have off := D1.off (z := (by
          cases e : H1 p with
          | none => rfl
          | some o =>
            rw [same_new nz _ _ e] at np
            cases np))
        have s2 := (same_new nz (o := .lst [])).trans (same_new np (o := .lst (cutV xs0 (some 1) none)))
        refine q p (xs0.drop 1) ((psF ss wd n).drop 1) _ (D1.same s2) (B1.trans (But.of s2)) (by rw [upd_same, show (some (1 : Int)) = some (((1 : Nat)) : Int) from rfl, cut_from']) off.2 (rowsL_drop (hrs1.same s2)) (schG_all (fun r hr => (fps r (List.mem_of_mem_drop hr)).1) ?_ fun r hr => (fps r (List.mem_of_mem_drop hr)).2)
        rw [List.length_drop]
        omega
    · rw [show decide (V.int k = V.int 0) = false from decide_eq_false fun z => c0 (V.int.inj z)]
      refine iteF ?_
      refine iteF ?_
      refine ⟨_, rfl, rfl, _, rfl, ?_⟩
      by_cases c1 : k = 1
      · rw [show decide (V.int k = V.int 1) = true from decide_eq_true (by rw [c1])]
        refine iteT ⟨_, rfl, by show 0 ≤ sizeLine; omega, fun z nz => ⟨pl, z, xs0, rfl, rfl, same_new nz _ _ hpl1, upd_same, _, rfl, ?_⟩⟩
        cases exs : xs0.isEmpty with
        | true => exact iteF (rest _ (same_new nz))
        | false =>
          refine iteT ?_
          have xpos : 0 < xs0.length := by
            cases xs0 with
            | nil => cases exs
            | cons _ _ => exact Nat.succ_pos _
          obtain ⟨rv, hrv⟩ : ∃ rv, xs0[xs0.length - 1]? = some rv := ⟨_, List.getElem?_eq_getElem (by omega)⟩
          obtain ⟨lr, elr, hrow⟩ := hrs1.2 _ rv hrv
          have flr := fps lr (List.mem_of_getElem? elr)
          have sz := same_new (H := H1) nz (o := .lst [])
          generalize L2.upd H1 z (.lst []) = H2 at sz ⊢
          have D2 := D1.same sz
          refine ⟨_, rfl, 1, rfl, pl, xs0, -1, rv, rfl, rfl, SqL.of (sz _ _ hpl1), at_last hrv, ?_⟩
          have wpos : 0 < ss.length * wd := Nat.mul_pos (by omega) (by omega)
          refine ⟨_, rfl, _, rfl, d, l, c, _, rfl, D2, by omega, by omega, fun j H3 j0 jw D3 B3 => ?_⟩
          obtain ⟨jn, rfl⟩ : ∃ jn : Nat, j = (jn : Int) := ⟨j.toNat, by omega⟩
          have hpl3 : H3 pl = some (.lst xs0) := B3 _ _ (sz _ _ hpl1) (fun z => by obtain ⟨⟨r0, t0, hd⟩, _⟩ := D; rw [z, hd] at hpl; cases hpl) npl
          have hrs3 := (hrs1.same sz).but D2 B3
          have hrow3 := ((hrow.same sz).but D2 B3).tv
          refine ⟨_, rfl, 1, rfl, _, rfl, pl, xs0, rfl, SqL.of hpl3, fun p np => ?_⟩
          have s3 : Same H3 (L2.upd H3 p (.lst (cutV xs0 none (some (-1))))) := same_new np
          have ep : (L2.upd H3 p (.lst (cutV xs0 none (some (-1))))) p = some (.lst (cutV xs0 none (some (-1)))) := upd_same
          have offp := D3.off np
          generalize L2.upd H3 p (.lst (cutV xs0 none (some (-1)))) = H4 at s3 ep ⊢
          have D4 := D3.same s3
          refine ⟨_, rfl, _, rfl, _, rfl, slA_tup (hrow3.same s3) fun u H5 s5 hu => ?_⟩
          rw [cut_to'] at hu
          have D5 := D4.same s5
          refine ⟨_, rfl, 7, rfl, 10, 20, rfl, rfl, ⟨by decide, by decide, by decide⟩, by show 4 ≤ sizeLine; rw [sizeLine_eq]; omega, fun q1 nq1 => ?_⟩
          have s6 : Same H5 (L2.upd H5 q1 (.lst [.int 0, .int 1, .int (-7), .int (10 ^ 20)])) := same_new nq1
          have offq := D5.off nq1
          refine ⟨d, l, c, q1, _, rfl, D5.same s6, upd_same, offq.2, by decide, by show 4 ≤ 1000; decide, fun kk x H6 hx D6 B6 => ?_⟩
          obtain ⟨xi, rfl, bxi⟩ : ∃ xi : Int, x = .int xi ∧ xi.natAbs < 2 ^ 67 := by
            have hx : [V.int 0, V.int 1, V.int (-7), V.int (10 ^ 20)][kk]? = some x := hx
            have m := List.mem_of_getElem? hx
            simp only [List.mem_cons, List.not_mem_nil, or_false] at m
            rcases m with h | h | h | h
            · exact ⟨0, h, by decide⟩
            · exact ⟨1, h, by decide⟩
            · exact ⟨-7, h, by decide⟩
            · exact ⟨10 ^ 20, h, by decide⟩
          have hu6 := (hu.same s6).but (D5.same s6) B6
          have hrow6 := ((hrow3.same ((s3.trans s5).trans s6))).but (D5.same s6) B6
          have ep6 : H6 p = some (.lst (cutV xs0 none (some (-1)))) := B6 _ _ (s6 _ _ (s5 _ _ ep)) offp.1 offp.2
          have hrs6 := (hrs3.same ((s3.trans s5).trans s6)).but (D5.same s6) B6
          have lrl : lr.length = ss.length * wd := flr.1
          refine ⟨by show 1 ≤ sizeLine; rw [sizeLine_eq]; omega, fun t nt => catA_tup (hu6.same (same_new nt)) (tv_new (by show 1 ≤ 50; omega)) (by rw [List.length_take, List.length_map]; show min jn lr.length + 1 ≤ 50; omega) fun y H7 s7 hy => ?_⟩
          have s67 := (same_new nt (o := .tup [.int xi])).trans s7
          refine ⟨_, rfl, _, rfl, _, _, rfl, rfl, _, rfl, ?_⟩
          dsimp only [tNoPart]
          refine slA_tup (hrow6.same s67) fun z2 H8 s8 hz => ?_
          rw [show (some ((jn : Int) + 1)) = some (((jn + 1 : Nat)) : Int) by rw [Int.natCast_add]; rfl, cut_from'] at hz
          refine catA_tup (hy.same s8) hz (by rw [List.length_append, List.length_take, List.length_drop, List.length_map]; show min jn lr.length + 1 + (lr.length - (jn + 1)) ≤ 50; omega) fun zz H9 s9 hzz => ⟨by show 1 ≤ sizeLine; rw [sizeLine_eq]; omega, fun tl ntl => ?_⟩
          have s69 := (s67.trans s8).trans s9
          have lt : (cutV xs0 none (some (-1))).length ≤ 50 := Nat.le_trans (cutV_length _ _ _) (by omega)
          refine ⟨p, tl, _, _, rfl, rfl, same_new ntl _ _ (s69 _ _ ep6), upd_same, by rw [sizeLine_eq]; show _ + 1 ≤ _; omega, fun p2 np2 => ?_⟩
          have s6e := (s69.trans (same_new ntl (o := .lst [zz]))).trans (same_new np2 (o := .lst (cutV xs0 none (some (-1)) ++ [zz])))
          have De := D6.same s6e
          have off2 := (D6.same (s69.trans (same_new ntl (o := .lst [zz])))).off np2
          have hzr : TupV H9 zz (vI (lr.take jn ++ [xi] ++ lr.drop (jn + 1))) := by
            unfold vI at hzz ⊢
            rw [List.map_append, List.map_append, List.map_take, List.map_drop]
            exact hzz
          have rl2 : (lr.take jn ++ [xi] ++ lr.drop (jn + 1)).length = ss.length * wd := by
            rw [List.length_append, List.length_append, List.length_take, List.length_drop]
            show min jn lr.length + 1 + _ = _
            omega
          have hrowN := (hzr.row (by omega)).same ((same_new ntl (o := .lst [zz])).trans (same_new np2 (o := .lst (cutV xs0 none (some (-1)) ++ [zz]))))
          rw [cut_m1' xpos] at hrowN ⊢
          have tk := (rowsL_take (n := xs0.length - 1) (hrs6.same s6e)).snoc (ns := lr.take jn ++ [xi] ++ lr.drop (jn + 1)) (v := zz)
          rw [cut_m1' xpos] at tk
          refine q p2 _ ((psF ss wd n).take (xs0.length - 1) ++ [lr.take jn ++ [xi] ++ lr.drop (jn + 1)]) _ ?_ ?_ upd_same off2.2 (tk hrowN) ⟨fun r hr => ?_, ?_, fun i r ei hi => ?_, fun r hr => ?_⟩
          · rw [cut_m1' xpos] at De
            exact De
          · have z := ((((B1.trans (But.of sz)).trans B3).trans (But.of ((s3.trans s5).trans s6))).trans B6).trans (But.of s6e)
            rw [cut_m1' xpos] at z
            exact z
          · rcases List.mem_append.mp hr with h | h
            · exact (fps r (List.mem_of_mem_take h)).1
            · rw [List.mem_singleton.mp h]
              exact rl2
          · rw [List.length_append, List.length_take]
            show _ + 1 ≤ 8
            omega
          · rw [List.length_append] at hi
            have hi : i + 1 < ((psF ss wd n).take (xs0.length - 1)).length + 1 := hi
            rw [List.getElem?_append_left (by omega)] at ei
            exact (fps r (List.mem_of_mem_take (List.mem_of_getElem? ei))).2
          · rcases List.mem_append.mp hr with h | h
            · exact bt_le (by decide) (fps r (List.mem_of_mem_take h)).2
            · rw [List.mem_singleton.mp h]
              intro y hy
              rcases List.mem_append.mp hy with h | h
              · rcases List.mem_append.mp h with h | h
                · exact bt_le (by decide) flr.2 y (List.mem_of_mem_take h)
                · rw [List.mem_singleton.mp h]
                  exact bxi
              · exact bt_le (by decide) flr.2 y (List.mem_of_mem_drop h)
      · rw [show decide (V.int k = V.int 1) = false from decide_eq_false fun z => c1 (V.int.inj z)]
        refine iteF ?_
        exact iteF (rest _ (Same.refl _))
end
end Kn
-- part VBt
/-! The numbers that are found are bounded. -/
namespace La
theorem unseen_le {w : Nat} {L : List Brow} {D : Int} {E : Nat} (h : SpI w L D E) {ns : List Int} (e : unseenF w L = some ns) : ∀ k, (ns.getD k 0).natAbs ≤ E := by
  unfold unseenF at e
  cases c : freeP w L with
  | nil => rw [c] at e; cases e
  | cons f0 l =>
    rw [c] at e
    have e := Option.some.inj e
    obtain ⟨fw, fn⟩ := free_mem.mp (show f0 ∈ freeP w L by rw [c]; exact List.mem_cons_self ..)
    obtain ⟨_, t1, t2⟩ := pivT_fold L 1
    have td : pivT L ∣ D.natAbs := t2 D.natAbs (Nat.one_dvd _) fun b hb => by
      obtain ⟨x, _, e2, _⟩ := h.dv b hb
      exact Int.natAbs_dvd_natAbs.mpr ⟨x, by rw [Int.mul_comm, e2]⟩
    have dp := h.dp
    obtain ⟨tp, tE, tb⟩ := piv_le h
    generalize pivT L = T at *
    have l0 : ((List.replicate w (0 : Int)).set f0 ((T : Nat) : Int)).length = w := by rw [List.length_set, List.length_replicate]
    have lt0 : ∀ b ∈ L, b.1 < ((List.replicate w (0 : Int)).set f0 ((T : Nat) : Int)).length := fun b hb => by rw [l0]; exact h.lt b hb
    intro k
    by_cases y : ∃ b ∈ L, b.1 = k
    · obtain ⟨b, hb, rfl⟩ := y
      rw [← e, num_own L _ lt0 h.nd hb]
      obtain ⟨x, x0, e2, e3⟩ := h.dv b hb
      obtain ⟨y, ey⟩ := tb b hb
      have pb := h.pos b hb
      obtain ⟨z, ez⟩ := Int.natAbs_dvd_natAbs.mp (show ((T : Nat) : Int).natAbs ∣ D.natAbs by rw [Int.natAbs_natCast]; exact td)
      have hT : ((T : Nat) : Int) / b.2.getD b.1 0 = y := by
        rw [ey]
        exact Int.mul_ediv_cancel_left _ (by omega)
      rw [hT]
      have hx : x = y * z := by
        refine Int.eq_of_mul_eq_mul_right (show b.2.getD b.1 0 ≠ 0 by omega) ?_
        rw [e2, ez, ey, Int.mul_assoc, Int.mul_comm]
      have hz : z ≠ 0 := fun c => by rw [c, Int.mul_zero] at ez; omega
      have e4 := e3 f0
      rw [hx, Int.mul_assoc, Int.mul_comm z, ← Int.mul_assoc, Int.natAbs_mul] at e4
      rw [Int.neg_mul, Int.natAbs_neg]
      exact Nat.le_trans (Nat.le_mul_of_pos_right _ (by omega)) e4
    · rw [← e, num_other L _ lt0 (fun b hb e => y ⟨b, hb, e⟩), set_at (by rw [List.length_replicate]; exact fw)]
      by_cases y2 : k = f0
      · rw [if_pos y2, Int.natAbs_natCast]
        exact tE
      · rw [if_neg y2, List.getD_eq_getElem?_getD, List.getElem?_replicate]
        split <;> exact Nat.zero_le _
end La
namespace Kn
open PySem PySem.Spec PyProof.Rows L2 La
theorem ub_bt {ss : List Int} {w k m m2 kM : Nat} {rows : List (List Int)} (ok : SchOk ss w k rows m m2 kM) {c ns : List Int} (h : ubF ss w k rows = some (c, ns)) : Bt 8000 ns := by
  unfold ubF at h
  obtain ⟨l1, a, l2, e, e1, _⟩ := List.findSome?_eq_some_iff.mp h
  obtain ⟨ns', e2, e3⟩ := Option.map_eq_some_iff.mp e1
  cases e3
  have hc : c ∈ combsL ss k := by rw [e]; exact List.mem_append_right _ (List.mem_cons_self ..)
  have rb := ok.rw_ hc
  obtain ⟨_, t2, _, t4⟩ := takes_ok rb (sharesF ss c w rows).length (Nat.le_refl _)
  rw [List.take_length] at t2 t4
  obtain ⟨⟨D, E, spi, hE⟩, _, _⟩ := t2
  intro x hx
  obtain ⟨i, hi, rfl⟩ := List.getElem_of_mem hx
  have z := unseen_le spi e2 i
  rw [List.getD_eq_getElem?_getD, List.getElem?_eq_getElem hi] at z
  exact Nat.lt_of_le_of_lt z hE
end Kn
-- part VRv
set_option maxHeartbeats 4000000
/-! A tuple's items the other way round: t[::-1]. -/
namespace L2
open PySem PySem.Spec PyProof.Rows HT
theorem fmap_congr {α β : Type} {f g : α → Option β} : ∀ {l : List α}, (∀ x ∈ l, f x = g x) → l.filterMap f = l.filterMap g
  | [], _ => rfl
  | x :: l, h => by
    rw [List.filterMap_cons, List.filterMap_cons, h x (List.mem_cons_self ..), fmap_congr fun y hy => h y (List.mem_cons_of_mem _ hy)]
section
variable {prog : Program} {w : World} {A : Around} {E : Value → Shared → Prop} {s : Shared}
theorem places_rev (n : Nat) : Builtin.Slice.slicePlaces ((n : Int) - 1) (-1) (-1) = n := by
  unfold Builtin.Slice.slicePlaces
  rw [if_neg (by omega)]
  by_cases h : (n : Int) - 1 > -1
  · rw [if_pos h, show -(-1 : Int) = 1 from rfl, Int.ediv_one]
    omega
  · rw [if_neg h]
    omega
theorem sliceApplied_rev {sl : Addr} {t : Tok} {n : Nat} {Q : Int × Int × Nat → Shared → Prop} (hs : s.heap.IsSliceOf sl .none .none (.int (-1) t))
    (h : Q ((n : Int) - 1, -1, n) s) : wpAny (model prog w) A (Builtin.Slice.sliceApplied (.ref sl) (pure (n : Int))) Q E s := by
  obtain ⟨os, hos, hcs, hds⟩ := id hs
  unfold Builtin.Slice.sliceApplied Builtin.Slice.sliceFields
  refine wpAny_bind (wpAny_bind (wpAny_field hos hds (x := .none) rfl (wpAny_bind (wpAny_field hos hds (x := .none) rfl (wpAny_bind (wpAny_field hos hds (x := .int (-1) t) rfl (wpAny_pure ?_)))))))
  refine wpAny_bind (slicePart_int ?_)
  show wpAny _ _ (if ((-1 : Int) == 0) = true then _ else _) _ _ s
  rw [if_neg (by decide)]
  refine wpAny_bind (slicePart_none (wpAny_bind (slicePart_none (wpAny_bind (wpAny_pure ?_)))))
  show wpAny _ _ (pure ((n : Int) - 1, (-1 : Int), Builtin.Slice.slicePlaces ((n : Int) - 1) (-1) (-1))) _ _ s
  rw [places_rev]
  exact wpAny_pure h
theorem pick_rev (xs : Array Value) : ((List.range xs.size).filterMap fun (m : Nat) => xs[(((xs.size : Int) - 1) + (m : Int) * (-1)).toNat]?).toArray = xs.toList.reverse.toArray := by
  congr 1
  have e : (List.range xs.size).filterMap (fun (m : Nat) => xs[(((xs.size : Int) - 1) + (m : Int) * (-1)).toNat]?) = (List.range xs.size).filterMap fun m => xs.toList.reverse[m]? := by
    refine fmap_congr fun m hm => ?_
    have hm := List.mem_range.mp hm
    rw [List.getElem?_reverse (by simpa using hm)]
    rw [show (((xs.size : Int) - 1) + (m : Int) * (-1)).toNat = xs.toList.length - 1 - m by rw [Array.length_toList]; omega]
    simp
  rw [e]
  have z : ∀ (l : List Value) (k : Nat), k ≤ l.length → (List.range k).filterMap (fun m => l[m]?) = l.take k := by
    intro l k
    induction k with
    | zero => intro _; rfl
    | succ k ih =>
      intro hk
      rw [List.range_succ, List.filterMap_append, ih (by omega), List.take_add_one, List.getElem?_eq_getElem (show k < l.length by omega)]
      simp [List.getElem?_eq_getElem (show k < l.length by omega)]
  have hl : xs.toList.reverse.length = xs.size := by simp
  rw [← hl, z _ _ (Nat.le_refl _), List.take_length]
theorem getItem_tuple_rev {t sl : Addr} {items : Array Value} {k : Tok} {Q : Value → Shared → Prop} (ht : IsTup s.heap t items) (hs : s.heap.IsSliceOf sl .none .none (.int (-1) k))
    (h : Q (.ref s.heap.objs.size) { s with heap := s.heap.push { cls := .type "tuple", data := .seq items.toList.reverse.toArray } })
    (hsz : items.size ≤ sizeLine) : wpAny (model prog w) A (getItem (.ref t) (.ref sl)) Q E s := by
  have htake : sizeOk (.seq items.toList.reverse.toArray) := by
    show items.toList.reverse.toArray.size ≤ sizeLine
    rw [List.size_toArray, List.length_reverse, Array.length_toList]
    exact hsz
  obtain ⟨os, hos, hcs, hds⟩ := id hs
  have hTs : s.TypeIs (.ref sl) "slice" := ⟨os, hos, hcs⟩
  unfold getItem
  try with_reducible refine wpAny_holding ?_
  first | refine wpAny_bind (wpAny_pure ?_) | skip
  refine wpAny_bind (wpAny_sequenceKey ht.typeIs (by decide) ?_)
  refine wpAny_bind (wpAny_callSpecial?_slot (name := Str.ofString "__getitem__") ht.typeIs PyProof.Rows.slot_tuple_getitem
    (wpAny_call_entry PyProof.Rows.slot_tuple_getitem ht.typeIs entry_tuple_getitem ?_ (args_tuple_getitem _ _)))
  show wpAny _ _ (Builtin.Tuple.tupleItemsOf (.ref t) >>= _) _ _ s
  refine wpAny_bind (tupleItemsOf_ ht ?_)
  refine wpAny_bind (wpAny_typeOf hTs ?_)
  rw [if_pos (by decide)]
  refine wpAny_bind (sliceApplied_rev hs ?_)
  have hno : ¬ ((((items.size : Int) - 1) == 0 && (-1 : Int) == 1 && items.size == items.size) = true) := by
    intro q
    rw [Bool.and_eq_true, Bool.and_eq_true] at q
    exact absurd q.1.2 (by decide)
  show wpAny _ _ (if (((items.size : Int) - 1) == 0 && (-1 : Int) == 1 && items.size == items.size) = true then _ else _) _ _ s
  rw [if_neg hno, pick_rev]
  first
    | exact wpAny_bind (m := Builtin.Tuple.tupleExact _) (wpAny_newObj_type (wpAny_pure ⟨_, rfl, wpAny_pure h⟩) htake)
    | exact wpAny_bind (m := Builtin.Tuple.tupleExact _) (wpAny_newObj_type (wpAny_bind (wpAny_pure (wpAny_pure ⟨_, rfl, wpAny_pure h⟩))) htake)
    | exact wpAny_bind (wpAny_bind (m := Builtin.Tuple.tupleExact _) (wpAny_newObj_type (wpAny_pure (wpAny_pure ⟨_, rfl, wpAny_pure h⟩)) htake))
    | exact wpAny_bind (wpAny_bind (m := Builtin.Tuple.tupleExact _) (wpAny_newObj_type (wpAny_pure ⟨_, rfl, wpAny_pure h⟩) htake))
end
section
variable {X : Cx}
def tRevT (K : PySem.W.Frag) (te : TE) : TE := fun σ H Q => te σ H fun x H1 => ∃ a xs, x = .ref a ∧ SqT K H1 a xs ∧ ∀ p, H1 p = none → Q (.ref p) (upd H1 p (.tup xs.reverse))
theorem pe_revT {e : Expr} {te : TE} {k : Nat} {p1 p2 p3 pos : Pos} (he : PE X e te) : PE X (.Subscript e (.Slice none none (some (.UnaryOp .USub (.Constant (.int 1) k p1) p2)) p3) pos) (tRevT X.K te) := by
  refine ⟨fun pins s σ H Q I h => ?_⟩
  refine Subscript_ (thn (he.run pins s σ H _ I h) fun v s1 ⟨x, H1, I1, r1, q1⟩ => ?_)
  obtain ⟨a, xs, ex, hx, q⟩ := q1
  subst ex
  cases r1
  have hst : PO X (some (.UnaryOp .USub (.Constant (.int 1) k p1) p2)) (tPart (tUn (rU fun i => .int (-i)) (tC (.int 1)))) := po_some (pe_un un_neg pe_int)
  refine wpAny_Slice (thn (po_none.run pins s1 σ H1 (fun o H2 => o = none ∧ H2 = H1) I1 ⟨rfl, rfl⟩) fun vl s2 ⟨l, H2, I2, pl, el, e2⟩ => ?_)
  subst el e2
  refine thn (po_none.run pins s2 σ H2 (fun o H3 => o = none ∧ H3 = H2) I2 ⟨rfl, rfl⟩) fun vu s3 ⟨u, H3, I3, pu, eu, e3⟩ => ?_
  subst eu e3
  refine thn (hst.run pins s3 σ H3 (fun o H4 => o = some (-1) ∧ H4 = H3) I3 ⟨1, rfl, -1, rfl, rfl, rfl⟩) fun vs s4 ⟨o, H4, I4, ps, eo, e4⟩ => ?_
  subst eo e4
  cases pl
  cases pu
  obtain ⟨tk, rfl⟩ : ∃ tk, vs = .int (-1) tk := by
    cases ps with
    | int i t => exact ⟨t, rfl⟩
  have I5 : Inv X pins σ H4 { s4 with heap := s4.heap.push { cls := .type "slice", data := .fields #[.none, .none, .int (-1) tk] } } := I4.kept (t' := s4.toks) fun b ob q => Heap.get?_push_of_some _ q
  obtain ⟨its, r, ht, hz⟩ := I5.tuple hx
  have hlen := r.length
  show wpAny (model X.prog X.w) X.A (subscriptTail e (.Slice none none (some (.UnaryOp .USub (.Constant (.int 1) k p1) p2)) p3) (.ref a) (.ref s4.heap.objs.size)) (EP X pins σ Q) X.xe { s4 with heap := s4.heap.push { cls := .type "slice", data := .fields #[.none, .none, .int (-1) tk] } }
  refine tail_any (ops := [.ref a, .ref s4.heap.objs.size]) ht.typeIs (PyProof.Rows.slot_tuple_getitem.lookup) ?_ (by with_unfolding_all rfl)
  refine getItem_tuple_rev ht (Heap.IsSliceOf.new _ .none .none (.int (-1) tk)) ?_ (by rw [List.size_toArray]; omega)
  refine ⟨.ref _, _, I5.laid (t' := s4.toks) (o := .tup xs.reverse) (fun b ob q => Heap.get?_push_of_some _ q) (Nat.le_refl _) ?_, rfl, q _ (I5.hok.fresh (Nat.le_refl _))⟩
  exact ⟨by rw [List.length_reverse]; exact hz, _, r.reverse, _, Heap.get?_push_size _ rfl, rfl, 0, rfl⟩
end
end L2
-- part VSp

set_option maxHeartbeats 8000000
/-! _law_spoilt. -/
namespace Kn
open PySem PySem.Spec PyProof.Rows L2 La
abbrev sSp : Stmt := topS 56
abbrev NSp : List Str := ["_law_draw", "_law_seats", "_law_trial", "_law_lost", "_law_numbers_here", "_law_way", "_law_spot", "_law_part", "_law_fresh"]
theorem scSp : FnScope NSp ["_law_draw", "_law_seats", "_law_trial"] (defScope sSp) := ⟨rfl, rfl, rfl, by decide +kernel, rfl, by decide +kernel, by decide +kernel⟩
def spSp : Sp := fun vs H Q _ => ∃ d l c sa pt la na ss lost ns, vs = [.ref d, .ref sa, .ref pt] ∧ Drw H d l c ∧ Row H (.ref sa) ss ∧ Rd H pt (.tup [.ref la, .ref na]) ∧ Row H (.ref la) lost ∧ Row H (.ref na) ns ∧ Bt 8000 ns ∧ lost.length ≤ ss.length ∧ ns.length ≤ 8 ∧ (∀ x ∈ lost, x ∈ ss) ∧
  ∀ p la' na' lost' tq os H', Drw H' d l c → But d l H H' → Rd H' p (.tup [.ref la', .ref na']) → Row H' (.ref la') lost' → (∀ x ∈ lost', x ∈ ss) → lost'.length = lost.length → NumH H' na' tq os → Bt 9000 (os.filterMap id) → Q (.ref p) H'
theorem some_map (ns : List Int) : (ns.map some).map oV = vI ns ∧ (ns.map some).filterMap id = ns := ⟨by rw [List.map_map]; rfl, by rw [List.filterMap_map]; exact List.filterMap_some⟩
theorem num_of {H : Hp} {v : V} {os : List (Option Int)} (h : TupV H v (os.map oV)) (n : os.length ≤ 45) : ∃ a, v = .ref a ∧ NumH H a true os := by
  obtain ⟨a, e, r, _⟩ := h
  exact ⟨a, e, n, r⟩
/-- tuple([c * part for part in numbers]) -/
theorem times_lc {K : PySem.W.Frag} {H : Hp} {Q : VK} {na : Addr} {ns : List Int} {σ : L2.St} {te : TE} {c : Int} (h4 : σ[4]? = some (some (.ref na))) (hna : Rd H na (.tup (vI ns))) (l8 : ns.length ≤ 900)
    (ht : ∀ n ∈ ns, ∀ (H2 : Hp) (R : VK), R (.int (c * n)) H2 → te ((wipe σ [7]).set 7 (some (.int n))) H2 R)
    (q : ∀ t H', Same H H' → H' t = some (.tup (vI (ns.map fun n => c * n))) → Q (.ref t) H') : tCB (rTupA K) (tCons (tLc (iTup K (tVar 4)) (gName 7) tYes te [7]) tNil) σ H Q := by
  dsimp only [tCB, tCons, tNil]
  refine wf_lc (bs := ns.map fun n => some (c * n)) (walk_tup (K := K) (a := na) (xs := vI ns)) (fun _ y n => y = V.int n) (fun _ _ _ _ _ e => e) (fun R hR => ⟨_, h4, na, rfl, ⟨_, .inl hna⟩, hR⟩) (fun H2 s => .inl (Rd.same hna s)) (by rw [List.length_map, List.length_map]) (by rw [List.length_map]; exact l8) (fun j x H3 H4 bb hb s3 y Dl hDl nDl R Z hRR hZ => ?_) fun p ys H1 s1 np ep hp => ?_
  · obtain ⟨rfl, hx2⟩ := y
    rw [List.getElem?_map] at hx2
    obtain ⟨n1, hn1, rfl⟩ := Option.map_eq_some_iff.mp hx2
    rw [List.getElem?_map, hn1] at hb
    cases hb
    refine ⟨wipe1 _ _ _, ?_⟩
    dsimp only [tYes]
    rw [if_pos rfl]
    exact ht n1 (List.mem_of_getElem? hn1) _ _ (hRR _ _ _ rfl (Same.refl _) rfl)
  · rw [List.filterMap_map, show (id ∘ (fun n => some (c * n)) : Int → Option Int) = fun n => some (c * n) from rfl, List.filterMap_eq_map'] at hp
    have ey := ints_paired hp
    subst ey
    exact ⟨p, _, rfl, .inl ⟨SqL.of ep, fun t nt => q t _ (s1.trans (same_new nt)) upd_same⟩⟩
section
variable {P : Program} {w : World} {K : PySem.W.Frag} {mg : Str → Option Value} {base : Heap}
theorem ok_sp {f fT fP : Addr} {fd fdT fdP : FuncData} (F : Fun K "_law_spoilt" "_law_spoilt" sSp f fd) (GT : FnOk P w K mg base CX0 2 fT fdT ["_law_draw", "_law_amount"] spTake) (kT : PySem.W.keepIn K (.ref fT) = true) (bT : Binds K fdT ["_law_draw", "_law_amount"] []) (gT : mg "_law_take" = some (.ref fT))
    (GP : FnOk P w K mg base CX0 3 fP fdP ["_law_draw", "_law_some"] spPick) (kP : PySem.W.keepIn K (.ref fP) = true) (bP : Binds K fdP ["_law_draw", "_law_some"] []) (gP : mg "_law_pick" = some (.ref fP))
    (mn : mg "len" = none) (mx : mg "max" = none) (mt : mg "tuple" = none) (ml : mg "list" = none) : FnOk P w K mg base CX0 4 f fd ["_law_draw", "_law_seats", "_law_trial"] spSp := by
  have S := scSp
  refine F.ok S (fun vs H Q E h => ?_) (fun cdv A outer s H vs Q E hr h => ?_)
  · obtain ⟨d, l, c, sa, pt, la, na, ss, lost, ns, rfl, _⟩ := h
    rfl
  · obtain ⟨d, l, c, sa, pt, la, na, ss, lost, ns, rfl, D, hss, hpt, hlo, hns, bns, lls, l8, sub, q⟩ := h
    have hr2 := hr.mono (show 2 ≤ 3 by decide)
    refine ⟨_, (pss_cons (ps_asg (pv 2) (pg_tup rfl (pgs_cons (pg_name (i := 3) S.nd rfl (.inl rfl)) (pgs_cons (pg_name (i := 4) S.nd rfl (.inl rfl)) pgs_nil))))
      (pss_cons (ps_par (i := 5) (j := 6) rfl S.nd rfl rfl (by decide) rfl rfl (pa_cons (pe_call GT hr2 (by rfl) gT kT bT .nil pass0 (pa_cons (pv 0) (pa_cons pe_int pa_nil))) (pa_cons (pe_call GT hr2 (by rfl) gT kT bT .nil pass0 (pa_cons (pv 0) (pa_cons (pe_callB (call_max2 rfl) (by rfl) mx (by decide +kernel) (pa_cons pe_int (pa_cons (pe_callB (show CallR _ (.builtin "len") (rLenS K) from call_len_seq) (by rfl) mn PySem.boot_len (pa_cons (pv 4) pa_nil)) pa_nil))) pa_nil))) pa_nil)) (by rfl) (by rfl))
      (pss_cons (ps_if (pt_cmpR op_eq (pv 5) pe_int (nomark _)) (pss_one (ps_ret (pe_tup (pa_cons (pe_revT (pv 3)) (pa_cons (pv 4) pa_nil))))) pss_nil)
      (pss_cons (ps_if (pt_cmpR op_eq (pv 5) pe_int (nomark _)) (pss_one (ps_ret (pe_tup (pa_cons (pv 3) (pa_cons (pe_callTy (show CallR _ (.type "tuple") (rTupA K) from call_tuple_of) (by rfl) mt (by decide +kernel) (pa_cons (pe_lc (own := [("_law_part", 7)]) (g := gName 7) rfl S.nd (show PI _ _ _ (iTup K (tVar 4)) from pi_tup (pv 4)) (blkOk_by (N := NSp) (sc := defScope sSp) (by decide +kernel)) (fun _ _ _ _ _ => (pg_name (i := 7) S.nd rfl (.inl rfl))) (fun _ _ _ _ _ => pts_nil) (fun _ _ _ _ _ => (pe_op op_mulW (pe_un un_neg pe_int) (pv 7)))) pa_nil)) pa_nil))))) pss_nil)
      (pss_cons (ps_if (pt_cmpR op_eq (pv 5) pe_int (nomark _)) (pss_one (ps_ret (pe_tup (pa_cons (pv 3) (pa_cons (pe_callTy (show CallR _ (.type "tuple") (rTupA K) from call_tuple_of) (by rfl) mt (by decide +kernel) (pa_cons (pe_lc (own := [("_law_part", 7)]) (g := gName 7) rfl S.nd (show PI _ _ _ (iTup K (tVar 4)) from pi_tup (pv 4)) (blkOk_by (N := NSp) (sc := defScope sSp) (by decide +kernel)) (fun _ _ _ _ _ => (pg_name (i := 7) S.nd rfl (.inl rfl))) (fun _ _ _ _ _ => pts_nil) (fun _ _ _ _ _ => (pe_op op_mulW pe_int (pv 7)))) pa_nil)) pa_nil))))) pss_nil)
      (pss_cons (ps_if (pt_cmpR op_eq (pv 5) pe_int (nomark _)) (pss_one (ps_ret (pe_tup (pa_cons (pe_slice (show L2.SlR _ (rSlA K) from sl_tupA) (pv 1) po_none (po_some (pe_callB (show CallR _ (.builtin "len") (rLenS K) from call_len_seq) (by rfl) mn PySem.boot_len (pa_cons (pv 3) pa_nil)))) (pa_cons (pv 4) pa_nil))))) pss_nil)
      (pss_cons (ps_if (pt_cmpR op_eq (pv 5) pe_int (nomark _)) (pss_one (ps_ret (pe_tup (pa_cons (pv 3) (pa_cons (pe_callTy (show CallR _ (.type "list") (rLstA K) from call_list_of) (by rfl) ml (by decide +kernel) (pa_cons (pv 4) pa_nil)) pa_nil))))) pss_nil)
      (pss_cons (ps_set (i := 8) S.nd rfl (.inl rfl) (pe_call GP hr (by rfl) gP kP bP .nil pass0 (pa_cons (pv 0) (pa_cons (pe_lst (pa_cons pe_int (pa_cons pe_int (pa_cons (pe_un un_neg pe_int) (pa_cons pe_non (pa_cons (pe_op op_pow pe_int pe_int) pa_nil)))))) pa_nil))))
      (pss_one (ps_ret (pe_tup (pa_cons (pv 3) (pa_cons (pe_op (show OpR _ (binaryOp .Add) (rCatA K) from op_catA) (pe_op (show OpR _ (binaryOp .Add) (rCatA K) from op_catA) (pe_slice (show L2.SlR _ (rSlA K) from sl_tupA) (pv 4) po_none (po_some (pv 6))) (pe_op (show OpR _ (binaryOp .Mult) (rRepA K) from op_repA) (pe_tup (pa_cons (pv 8) pa_nil)) (pe_op op_sub (pv 5) pe_int))) (pe_slice (show L2.SlR _ (rSlA K) from sl_tupA) (pv 4) (po_some (pe_op op_add (pv 6) pe_int)) po_none)) pa_nil))))))))))))), ?_⟩
    refine ⟨_, rfl, pt, _, rfl, .inl hpt, rfl, _, _, rfl, _, _, rfl, rfl, ?_⟩
    obtain ⟨la', ea, hla, l45⟩ := id hlo
    cases ea
    obtain ⟨na', ea, hna, n45⟩ := id hns
    cases ea
    obtain ⟨sa', ea, hsa, s45⟩ := id hss
    cases ea
    refine ⟨_, rfl, d, l, c, 7, rfl, D, by decide, by decide, fun k H1 k0 k7 D1 B1 => ⟨_, rfl, _, rfl, na, vI ns, rfl, .inr (.inl (rd_but hna D B1)), _, _, rfl, ?_⟩⟩
    have mxp : 0 < (if (((vI ns).length : Nat) : Int) > 1 then (((vI ns).length : Nat) : Int) else 1) ∧ (if (((vI ns).length : Nat) : Int) > 1 then (((vI ns).length : Nat) : Int) else 1) < 1073741824 := by
      rw [List.length_map]
      split <;> omega
    refine ⟨d, l, c, _, rfl, D1, mxp.1, mxp.2, fun j H2 j0 jm D2 B2 => ⟨_, _, rfl, ?_⟩⟩
    have B12 := B1.trans B2
    have hla2 := rd_but hla D B12
    have hna2 := rd_but hna D B12
    have hlo2 := hlo.but D B12
    have hss2 := hss.but D B12
    have hns2 := hns.but D B12
    have numI : ∀ H', Rd H' na (.tup (vI ns)) → NumH H' na true (ns.map some) := fun H' h => ⟨by rw [List.length_map]; exact n45, by
      show Rd H' na (.tup ((ns.map some).map oV))
      rw [(some_map ns).1]
      exact h⟩
    have btI : ∀ ms : List Int, Bt 9000 ms → Bt 9000 ((ms.map some).filterMap id) := fun ms h => by
      rw [(some_map ms).2]
      exact h
    have b9 : Bt 9000 ns := bt_le (by decide) bns
    have fin : ∀ (u v : V) (lost' : List Int) (tq : Bool) (os : List (Option Int)) (H4 : Hp), Drw H4 d l c → But d l H2 H4 → Row H4 u lost' → (∀ x ∈ lost', x ∈ ss) → lost'.length = lost.length → (∃ a, v = .ref a ∧ NumH H4 a tq os) → Bt 9000 (os.filterMap id) → [u, v].length ≤ sizeLine ∧ ∀ p, H4 p = none → Q (.ref p) (L2.upd H4 p (.tup [u, v])) := by
      intro u v lost' tq os H4 D4 B4 hr hs hl hn hb
      obtain ⟨a, rfl, hn⟩ := hn
      obtain ⟨b, eb, _⟩ := id hr
      subst eb
      exact ⟨by show 2 ≤ sizeLine; rw [sizeLine_eq]; omega, fun p np => q p b a lost' tq os _ (D4.new np) ((B12.trans B4).trans (.new np)) (.inl upd_same) (hr.same (same_new np)) hs hl (hn.same (same_new np)) hb⟩
    dsimp only [List.set, L2.start]
    have nxt : ∀ i : Int, k ≠ i → decide (V.int k = V.int i) = false := fun i h => decide_eq_false fun z => h (V.int.inj z)
    have yes : ∀ i : Int, k = i → decide (V.int k = V.int i) = true := fun i h => decide_eq_true (by rw [h])
    refine ⟨_, rfl, rfl, _, rfl, ?_⟩
    by_cases c0 : k = 0
    · rw [yes 0 c0]
      refine iteT ⟨_, rfl, la, vI lost, rfl, .inl hla2, fun t nt => ⟨_, rfl, ?_⟩⟩
      refine fin (.ref t) (.ref na) lost.reverse true (ns.map some) _ (D2.new nt) (.new nt) ⟨t, rfl, .inl ?_, by rw [List.length_reverse]; exact l45⟩ (fun x hx => sub x (List.mem_reverse.mp hx)) (List.length_reverse ..) ⟨na, rfl, numI _ (Rd.same hna2 (same_new nt))⟩ (btI _ b9)
      rw [upd_same, List.map_reverse]
    rw [nxt 0 c0]
    refine iteF ?_
    refine ⟨_, rfl, rfl, _, rfl, ?_⟩
    by_cases c1 : k = 1
    · rw [yes 1 c1]
      refine iteT ⟨_, rfl, ?_⟩
      refine times_lc (c := -3) (na := na) (ns := ns) rfl hna2 (by omega) (fun n hn H4 R hR => ⟨3, rfl, _, rfl, -3, n, rfl, rfl, wide_mul (a := 10) (b := 8000) (by decide) (bns n hn) (by decide) (by decide) (by decide), hR⟩) fun t H4 s4 e4 => ?_
      refine fin (.ref la) (.ref t) lost true ((ns.map fun n => -3 * n).map some) _ (D2.same s4) (But.of s4) (hlo2.same s4) sub rfl ⟨t, rfl, by rw [List.length_map, List.length_map]; omega, ?_⟩ (btI _ fun x hx => ?_)
      · show Rd H4 t (.tup _)
        rw [(some_map _).1]
        exact .inl e4
      · obtain ⟨n, hn, rfl⟩ := List.mem_map.mp hx
        have z := bns n hn
        rw [Int.natAbs_mul]
        exact Nat.lt_of_lt_of_le (Nat.mul_lt_mul_of_lt_of_lt (show (-3 : Int).natAbs < 2 ^ 2 by decide) z) (by rw [← Nat.pow_add]; exact Nat.pow_le_pow_right (by decide) (by decide))
    rw [nxt 1 c1]
    refine iteF ?_
    refine ⟨_, rfl, rfl, _, rfl, ?_⟩
    by_cases c2 : k = 2
    · rw [yes 2 c2]
      refine iteT ⟨_, rfl, ?_⟩
      refine times_lc (c := 0) (na := na) (ns := ns) rfl hna2 (by omega) (fun n hn H4 R hR => ⟨_, rfl, 0, n, rfl, rfl, wide_mul (a := 10) (b := 8000) (by decide) (bns n hn) (by decide) (by decide) (by decide), hR⟩) fun t H4 s4 e4 => ?_
      refine fin (.ref la) (.ref t) lost true ((ns.map fun n => 0 * n).map some) _ (D2.same s4) (But.of s4) (hlo2.same s4) sub rfl ⟨t, rfl, by rw [List.length_map, List.length_map]; omega, ?_⟩ (btI _ fun x hx => ?_)
      · show Rd H4 t (.tup _)
        rw [(some_map _).1]
        exact .inl e4
      · obtain ⟨n, hn, rfl⟩ := List.mem_map.mp hx
        rw [Int.zero_mul]
        exact Nat.two_pow_pos 9000
    rw [nxt 2 c2]
    refine iteF ?_
    refine ⟨_, rfl, rfl, _, rfl, ?_⟩
    by_cases c3 : k = 3
    · rw [yes 3 c3]
      refine iteT ⟨_, rfl, _, rfl, la, vI lost, rfl, .inr (.inl hla2), _, rfl, ?_⟩
      refine slA_tup hss2.tv fun u H4 s4 hu => ⟨_, rfl, ?_⟩
      rw [cut_to', List.length_map] at hu
      have eu : (vI ss).take lost.length = vI (ss.take lost.length) := by
        unfold vI
        rw [List.map_take]
      rw [eu] at hu
      exact fin u (.ref na) (ss.take lost.length) true (ns.map some) _ (D2.same s4) (But.of s4) (hu.row (by rw [List.length_take]; omega)) (fun x hx => List.mem_of_mem_take hx) (by rw [List.length_take]; omega) ⟨na, rfl, numI _ (Rd.same hna2 s4)⟩ (btI _ b9)
    rw [nxt 3 c3]
    refine iteF ?_
    refine ⟨_, rfl, rfl, _, rfl, ?_⟩
    by_cases c4 : k = 4
    · rw [yes 4 c4]
      refine iteT ⟨_, rfl, _, rfl, na, vI ns, rfl, .inr (.inl hna2), fun t nt => ?_⟩
      refine fin (.ref la) (.ref t) lost false (ns.map some) _ (D2.new nt) (.new nt) (hlo2.same (same_new nt)) sub rfl ⟨t, rfl, by rw [List.length_map]; exact n45, ?_⟩ (btI _ b9)
      show (L2.upd H2 t _) t = some (.lst ((ns.map some).map oV))
      rw [(some_map ns).1, upd_same]
    rw [nxt 4 c4]
    refine iteF ?_
    obtain ⟨jn, rfl⟩ : ∃ jn : Nat, j = (jn : Int) := ⟨j.toNat, by omega⟩
    obtain ⟨kn, hkn, k1, k2⟩ : ∃ kn : Nat, k - 4 = (kn : Int) ∧ 1 ≤ kn ∧ kn ≤ 2 := ⟨(k - 4).toNat, by omega, by omega, by omega⟩
    refine ⟨_, rfl, 1, rfl, 10, 30, rfl, rfl, ⟨by decide, by decide, by decide⟩, by show 5 ≤ sizeLine; rw [sizeLine_eq]; omega, fun q1 nq1 => ?_⟩
    have s6 : Same H2 (L2.upd H2 q1 (.lst [.int 0, .int 1, .int (-1), .non, .int (10 ^ 30)])) := same_new nq1
    have offq := D2.off nq1
    refine ⟨d, l, c, q1, _, rfl, D2.same s6, upd_same, offq.2, by decide, by show 5 ≤ 1000; decide, fun kk x H6 hx D6 B6 => ?_⟩
    obtain ⟨o, rfl, bo⟩ : ∃ o : Option Int, x = oV o ∧ ∀ i, o = some i → i.natAbs < 2 ^ 9000 := by
      have hx : [V.int 0, V.int 1, V.int (-1), V.non, V.int (10 ^ 30)][kk]? = some x := hx
      have m := List.mem_of_getElem? hx
      have big : ∀ n : Nat, n < 2 ^ 100 → n < 2 ^ 9000 := fun n h => Nat.lt_of_lt_of_le h (Nat.pow_le_pow_right (by decide) (by decide))
      simp only [List.mem_cons, List.not_mem_nil, or_false] at m
      rcases m with h | h | h | h | h
      · exact ⟨some 0, h, fun i e => by cases e; exact big _ (by decide)⟩
      · exact ⟨some 1, h, fun i e => by cases e; exact big _ (by decide)⟩
      · exact ⟨some (-1), h, fun i e => by cases e; exact big _ (by decide)⟩
      · exact ⟨none, h, fun i e => by cases e⟩
      · exact ⟨some (10 ^ 30), h, fun i e => by cases e; exact big _ (by decide)⟩
    have B26 := (But.of s6).trans B6
    have hnt6 := ((hns2.same s6).but (D2.same s6) B6).tv
    have hlo6 := (hlo2.same s6).but (D2.same s6) B6
    refine ⟨_, rfl, _, rfl, _, rfl, _, rfl, slA_tup hnt6 fun u H7 s7 hu => ?_⟩
    rw [cut_to'] at hu
    have nl : ns.length ≤ 8 := l8
    have cont : ∀ (v : V) (H8 : Hp), Same H7 H8 → TupV H8 v (List.replicate kn (oV o)) → rCatA K u v H8 fun x H1 => tSl (rSlA K) (tVar 4) (tPart (tOp (rI0 fun i j => V.int (i + j)) (tVar 6) (tC (V.int 1)))) tNoPart [some (.ref d), some (.ref sa), some (.ref pt), some (.ref la), some (.ref na), some (.int k), some (.int (jn : Nat)), none, some (oV o)] H1 fun y H2 => rCatA K x y H2 fun z H3 => [V.ref la, z].length ≤ sizeLine ∧ ∀ p, H3 p = none → Q (.ref p) (L2.upd H3 p (.tup [.ref la, z])) := by
      intro v H8 s8 hv
      refine catA_tup (hu.same s8) hv (by rw [List.length_take, List.length_map, List.length_replicate]; omega) fun y H9 s9 hy => ?_
      refine ⟨_, rfl, _, rfl, _, _, rfl, rfl, _, rfl, ?_⟩
      dsimp only [tNoPart]
      have s79 := (s7.trans s8).trans s9
      refine slA_tup (hnt6.same s79) fun z2 H10 s10 hz => ?_
      rw [show (some ((jn : Int) + 1)) = some (((jn + 1 : Nat)) : Int) by rw [Int.natCast_add]; rfl, cut_from'] at hz
      refine catA_tup (hy.same s10) hz (by rw [List.length_append, List.length_take, List.length_drop, List.length_map, List.length_replicate]; omega) fun zz H11 s11 hzz => ?_
      have s6e := (s79.trans s10).trans s11
      have eo : (vI ns).take jn ++ List.replicate kn (oV o) ++ (vI ns).drop (jn + 1) = ((ns.take jn).map some ++ List.replicate kn o ++ (ns.drop (jn + 1)).map some).map oV := by
        rw [List.map_append, List.map_append, (some_map _).1, (some_map _).1, List.map_replicate]
        unfold vI
        rw [List.map_take, List.map_drop]
      rw [eo] at hzz
      refine fin (.ref la) zz lost true ((ns.take jn).map some ++ List.replicate kn o ++ (ns.drop (jn + 1)).map some) H11 (D6.same s6e) (B26.trans (But.of s6e)) (hlo6.same s6e) sub rfl (num_of hzz ?_) fun x hx => ?_
      · rw [List.length_append, List.length_append, List.length_map, List.length_map, List.length_replicate, List.length_take, List.length_drop]
        omega
      · obtain ⟨ox, hox, rfl⟩ := List.mem_filterMap.mp hx
        rcases List.mem_append.mp hox with h | h
        · rcases List.mem_append.mp h with h | h
          · obtain ⟨n, hn, e⟩ := List.mem_map.mp h
            cases e
            exact b9 _ (List.mem_of_mem_take hn)
          · have e := (List.mem_replicate.mp h).2
            exact bo x e.symm
        · obtain ⟨n, hn, e⟩ := List.mem_map.mp h
          cases e
          exact b9 _ (List.mem_of_mem_drop hn)
    refine ⟨_, rfl, by show 1 ≤ sizeLine; rw [sizeLine_eq]; omega, fun t nt => ⟨_, rfl, _, _, rfl, rfl, t, k - 4, [oV o], rfl, rfl, SqT.of upd_same, by simp, by omega, by omega, by show 1 ≤ 1000; omega, fun e1 => ?_, fun _ p np => ?_⟩⟩
    · refine cont _ _ (same_new nt) ?_
      have e1 : kn = 1 := by omega
      rw [e1]
      exact tv_new (by show 1 ≤ 50; omega)
    · refine cont _ _ ((same_new nt).trans (same_new np)) ?_
      rw [hkn, Int.toNat_natCast, repl_one]
      exact tv_new (by rw [List.length_replicate]; omega)
end
end Kn
-- part VLm
set_option maxHeartbeats 4000000
/-! A kept lambda with parameters, called by a name of the frame that holds it. -/
namespace HLam
open PySem PySem.Spec PyProof.Rows L2 LamX NdefX
/-- its words as a nested def's -/
abbrev nfOf (D : LD) : NF := ⟨"<lambda>", D.qual, D.params, [], D.scope, D.cl, D.c⟩
section
variable {X : Cx}
/-- a lambda that captures nothing is made, and kept -/
theorem pe_lamkept2 {T : List (Addr × Str)} {c P : Addr} {params : Arguments} {body : Expr} {scope : Scope} {pos : Pos} (TB : TabB X.base X.mg c P) (hcode : X.env.code = .ref c) (hm : (P, X.env.qual ++ "<lambda>") ∈ T)
    (hu : ∀ p ∈ T, p.1 = P → p.2 = X.env.qual ++ "<lambda>") (nf : ∀ y ∈ scope.names, y.2 ≠ .free) (hdef : defaultsOf params X.env = ([], [])) : PE X (.Lambda params body scope pos) (tKept T X params body scope) := by
  constructor
  intro pins s σ H Q I w
  obtain ⟨hT, w⟩ := w
  obtain ⟨ps, hP, tri, amo⟩ := hT _ hm
  have objP : s.heap.get? P = some { cls := .none, data := .fields ps } := I.hok P _ hP
  have bP := TB.bm.keeps I.bk
  have free := closure_ok (scope := scope) (env := X.env) (fun y hy e => absurd e (nf y hy))
  apply PySem.W.kla_eval hdef
  cases hca : codeAmong pos ps.toList with
  | some cv =>
    obtain ⟨c', rfl, hc'⟩ := amo pos cv hca
    apply PySem.W.kla_makeFunctionHit (c := c) (mg := X.mg) (P := P) (ps := ps) free I.ok.glob (I.mod.glob.keeps I.bk) hcode (TB.code.keeps I.bk) objP tri hca bP
    intro ctv h' tk ext le
    have J : Inv X pins σ H { s with heap := h', toks := tk } := I.kept ext
    have nf : H h'.objs.size = none := I.hok.fresh le
    have J2 := lam_known (D := ldOf X params body scope c') (pm := (X.mg "__name__").getD .none) (ctv := ctv) J
    have B : ∀ b o, H b = some o → upd H h'.objs.size (LamO h'.objs.size (ldOf X params body scope c')) b = some o := fun b o e => by
      rw [upd_ne (ne_of_none e nf)]
      exact e
    exact ⟨.ref h'.objs.size, _, J2, rfl, w h'.objs.size c' _ (ExtN.of B) (hT.ext B) (fun b e => upd_none e) nf upd_same (B _ _ hc')⟩
  | none =>
    apply PySem.W.kla_makeFunction (c := c) (mg := X.mg) (P := P) (ps := ps) free I.ok.glob (I.mod.glob.keeps I.bk) hcode (TB.code.keeps I.bk) objP tri hca TB.gP bP
    intro c' ctv h' tk ext ge lt rec tab
    obtain ⟨c2, oc, vs, t, e2, q1, q2, q3⟩ := rec
    cases e2
    have nc : H c' = none := I.hok.fresh ge
    have J := inv_table (more := #[rawInt pos.line, rawInt pos.col, .ref c']) (h' := h') (t' := tk) I hP (fun b o hb e => ext b o hb e) tab ge ⟨oc, vs, t, q1, q2, q3⟩
    have listy : (ps ++ #[rawInt pos.line, rawInt pos.col, .ref c']).toList = ps.toList ++ [rawInt pos.line, rawInt pos.col, .ref c'] := by simp
    have PC : P ≠ c' := ne_of_none hP nc
    generalize hG : upd (upd H P (.tbl (ps ++ #[rawInt pos.line, rawInt pos.col, .ref c']))) c' (CodeO c' (X.env.qual ++ "<lambda>")) = G at J
    have GP : G P = some (.tbl (ps ++ #[rawInt pos.line, rawInt pos.col, .ref c'])) := by rw [← hG, upd_ne PC, upd_same]
    have Gc : G c' = some (CodeO c' (X.env.qual ++ "<lambda>")) := by rw [← hG, upd_same]
    have Go : ∀ b o, H b = some o → b ≠ P → G b = some o := fun b o e n => by
      rw [← hG, upd_ne (ne_of_none e nc), upd_ne n]
      exact e
    have GE : ExtN H G := fun b o e n => Go b o e fun z => n ps (by rw [z, hP] at e; exact (Option.some.inj e).symm)
    have Gn : ∀ b, G b = none → H b = none := fun b e => by
      rw [← hG] at e
      exact upd_none (upd_none e)
    have nf : H h'.objs.size = none := I.hok.fresh (Nat.le_trans ge (Nat.le_of_lt lt))
    have nfG : G h'.objs.size = none := J.hok.fresh (Nat.le_refl _)
    have TG : Tabs T G := fun p hp => by
      by_cases z : p.1 = P
      · rw [hu p hp z, z]
        refine ⟨_, GP, ?_, ?_⟩
        · rw [listy]
          exact PySem.TriplesOk_snoc _ _ _ _ tri
        · intro pp cv q
          rw [listy] at q
          cases among_app _ tri q with
          | inr e => exact ⟨c', e, Gc⟩
          | inl e =>
            obtain ⟨c0, e1, e2⟩ := amo pp cv e
            exact ⟨c0, e1, GE _ _ e2 codeO_ne⟩
      · obtain ⟨ps2, a1, a2, a3⟩ := hT p hp
        refine ⟨ps2, Go _ _ a1 z, a2, fun pp cv q => ?_⟩
        obtain ⟨c0, e1, e2⟩ := a3 pp cv q
        exact ⟨c0, e1, GE _ _ e2 codeO_ne⟩
    have J2 := lam_known (D := ldOf X params body scope c') (pm := (X.mg "__name__").getD .none) (ctv := ctv) J
    have B : ∀ b o, G b = some o → upd G h'.objs.size (LamO h'.objs.size (ldOf X params body scope c')) b = some o := fun b o e => by
      rw [upd_ne (ne_of_none e nfG)]
      exact e
    exact ⟨.ref h'.objs.size, _, J2, rfl, w h'.objs.size c' _ (GE.trans (ExtN.of B)) (TG.ext B) (fun b e => Gn b (upd_none e)) nf upd_same (B _ _ Gc)⟩
end
def tCallLam (mk : Addr → LD) (i : Nat) (ps : Nat) (Nl : List Str) (tb : TE) (t : TA) : TE := fun σ H Q => ∃ f c', σ[i]? = some (some (.ref f)) ∧ H f = some (LamO f (mk c')) ∧
  t σ H fun vs H1 => H1 f = some (LamO f (mk c')) ∧ H1 (mk c').c = some (CodeO (mk c').c (mk c').qual) ∧ vs.length = ps ∧ tb (startF Nl vs []) H1 Q
section
variable {X : Cx} {mk : Addr → LD} {Nl ps : List Str} {k i : Nat} {x : Str} {tb : TE} {E : XK} {t : TA} {e : Expr} {es : List Expr} {p pos : Pos}
theorem pe_callLam (S : ∀ c', NScope Nl ps [] (mk c').scope) (hcl : ∀ c', (mk c').cl = []) (hr : Room (k + 1) X.A) (hx : Passes (L2.CX X.prog X.w) X E)
    (hb : ∀ (c' : Addr) (pm ctv : Value) (us : List Value), us.length = ps.length → bindArgs (PySem.W.kla_fn "<lambda>" (mk c').qual (mk c').params (mk c').body (mk c').scope (mk c').cl pm (.ref (mk c').c) ctv) ⟨us, []⟩ = pure (ps.zip us))
    (hbody : ∀ (c' : Addr) (A : Around) (outer : List Env) (s : Shared) (H : Hp) (f : Addr), Room k (A.deeper (envF (nfOf (mk c')) f s.heap.objs.size)) → PE (ncx (L2.CX X.prog X.w) X.prog X.w X.K X.mg X.base Nl (nfOf (mk c')) f A outer s H E) (mk c').body tb)
    (hN : X.N[i]? = some x) (hv : Vis X.env.scope x) (ha : PA X (e :: es) t)
    (hd : (x == ("__debug__" : Str)) = false := by decide) (hcd : (x == ("__classdict__" : Str)) = false := by decide)
    (he : starEach (e :: es) X.env = (false, eval e X.env) :: starEach es X.env := by rfl) (hpl : (backTo pos (starEach es X.env)).any (·.1) = false := by rfl) :
    PE X (.Call (.Name x p) (e :: es) [] pos) (tCallLam mk i ps.length Nl tb t) := by
  refine ⟨fun pins s σ H Q I h => ?_⟩
  obtain ⟨f, c', hs, hf, ht⟩ := h
  refine wpAny_Call_Name_kw (thn ((pe_var (pos := p) hN hv hd hcd).run pins s σ H (fun v H1 => v = .ref f ∧ H1 = H) I ⟨.ref f, hs, rfl, rfl⟩) fun u s1 ⟨v, H1, I1, r1, q1⟩ => ?_)
  obtain ⟨ev, eH⟩ := q1
  subst ev
  rw [eH] at I1
  obtain rfl : u = Value.ref f := r1
  obtain ⟨pm, ctv, of1⟩ := (I1.hok f _ hf).1
  refine PySem.W.callWith_F (first := []) ⟨_, _, _, _, of1⟩ (thn (ha.run pos pins s1 σ H _ I1 ht) fun us s2 ⟨vs, H2, I2, r, h1, h2, hl, q⟩ => ?_) he hpl
  obtain ⟨pm2, ctv2, of2⟩ := (I2.hok f _ h1).1
  refine ⟨⟨_, _, _, _, of2⟩, ?_⟩
  show wpAny _ _ (call (.ref f) us) _ _ _
  have S := S c'
  obtain ⟨⟨oc, cvs, tq, hoc, hdc, hvc⟩, _, _⟩ := I2.hok (mk c').c _ h2
  have rc : codeAny (model X.prog X.w) X.A (.call (.ref f) ⟨us, []⟩) (CR (L2.CX X.prog X.w) X.stack X.prog X.w H2 s2 Q E) s2 := by
    refine PySem.W.kla_callFunE hr.depth of2 rfl S.co S.gen rfl ⟨(mk c').c, oc, cvs, tq, rfl, hoc, hdc, hvc⟩ ?_
    rw [hb c' pm2 ctv2 us (by rw [← r.length]; exact hl)]
    refine wpAny_pure (wpAny_newFunctionEnv S.nocell (fun ⟨n, _⟩ hy => S.par n (List.of_mem_zip hy).1) (fun h₁ hns hsb => ⟨I2.nolimit.fresh _ hsb, ?_⟩) S.kind)
    show codeAny _ _ (.expr (mk c').body (envF (nfOf (mk c')) f s2.heap.objs.size)) _ _
    have kp : ∀ b o, s2.heap.get? b = some o → h₁.get? b = some o := fun b o e => hsb.extBut b o (Nat.ne_of_lt (Heap.lt_size e)) (Heap.get?_push_of_some _ e)
    have C : CellsAt (nfOf (mk c')).cl ([] : List Str) [] s2.heap H2 := by
      have z : (nfOf (mk c')).cl = [] := hcl c'
      rw [z]
      exact ⟨rfl, (fun y c e => by cases e), (fun x y c e => by cases e), fun i y e => by cases i <;> cases e⟩
    have J : Inv (ncx (L2.CX X.prog X.w) X.prog X.w X.K X.mg X.base Nl (nfOf (mk c')) f X.A X.stack s2 H2 E) [] (startF Nl vs []) H2 { s2 with heap := h₁, toks := s2.toks + (ps.zip us).length } :=
      inv_startN S hr.hd I2.env0 hl r C hns kp
    refine PySem.W.kla_codeExpr (wpAny_mono ((hbody c' _ _ s2 H2 f (hr.deeper _)).run [] _ _ H2 Q J q) (fun v s' hq => ?_) fun e s' hq => hq)
    obtain ⟨w', H', J', rv, q⟩ := hq
    exact ⟨w', H', J'.os, J'.bare, J'.base, J'.hok, rv, q⟩
  refine wpAny_call (codeAny_mono rc fun r s' hq => ?_)
  cases r with
  | error e => exact hx pins σ H2 s2 e s' I2 hq
  | ok fl =>
    cases fl with
    | ret u => exact I2.after hq
    | next => exact False.elim hq
    | brk => exact False.elim hq
    | cont => exact False.elim hq
end
end HLam
-- part VRfA
set_option maxHeartbeats 8000000
/-! What _law_refused_right lays and picks. -/
namespace Kn
open PySem PySem.Spec PyProof.Rows L2 Err LamX HLam
/-- what is new from H to H', the tables aside, stands in G -/
def News (H H' G : Hp) : Prop := ∀ b o, H b = none → H' b = some o → (∀ ps, o ≠ .tbl ps) → G b = some o
/-- a term makes just this, of new things alone -/
def MkN (te : TE) (σ : L2.St) (u : W) : Prop := ∀ (H : Hp) (Q : VK), (∀ x H', Same H H' → (∀ G, News H H' G → Is G x u) → Q x H') → te σ H Q
def MkNA (t : TA) (σ : L2.St) (us : List W) : Prop := ∀ (H : Hp) (Q : List V → Hp → Prop), (∀ xs H', Same H H' → (∀ G, News H H' G → IsAll G xs us) → Q xs H') → t σ H Q
section
variable {σ : L2.St}
theorem mkN_con {x : V} {u : W} (h : ∀ G, Is G x u) : MkN (tC x) σ u := fun H Q q => q _ _ (Same.refl _) fun G _ => h G
theorem mkN_neg {i : Int} : MkN (tUn (rU fun i => .int (-i)) (tC (.int i))) σ (.int (-i)) := fun H Q q => ⟨i, rfl, q _ _ (Same.refl _) fun G _ => .int _⟩
theorem mkN_nil : MkNA tNil σ [] := fun H Q q => q _ _ (Same.refl _) fun G _ => .nil
theorem none_back {H H' : Hp} {b : Addr} (s : Same H H') (e : H' b = none) : H b = none := by
  cases h : H b with
  | none => rfl
  | some o =>
    rw [s _ _ h] at e
    cases e
theorem News.left {H H1 H2 G : Hp} (n : News H H2 G) (s : Same H1 H2) : News H H1 G := fun b o e e1 nt => n b o e (s _ _ e1) nt
theorem News.right {H H1 H2 G : Hp} (n : News H H2 G) (s : Same H H1) : News H1 H2 G := fun b o e e1 nt => n b o (none_back s e) e1 nt
theorem mkN_cons {te : TE} {t : TA} {u : W} {us : List W} (h : MkN te σ u) (k : MkNA t σ us) : MkNA (tCons te t) σ (u :: us) := fun H Q q => h H _ fun x H1 s1 i1 => k H1 _ fun xs H2 s2 i2 => q _ _ (s1.trans s2) fun G n => .cons (i1 G (n.left s2)) (i2 G (n.right s1))
theorem mkN_tup {t : TA} {us : List W} (h : MkNA t σ us) (l : us.length ≤ 900) : MkN (tTup t) σ (.tup us) := fun H Q q => h H _ fun xs H1 s1 i1 => by
  have lx := (i1 H1 fun b o _ e _ => e).len
  refine ⟨by rw [lx]; exact Nat.le_trans l (by rw [sizeLine_eq]; omega), fun p np => q _ _ (s1.trans (same_new np)) fun G n => .tup (by rw [lx]; exact l) (.inl (n p _ (none_back s1 np) upd_same (fun _ z => by cases z))) (i1 G (n.left (same_new np)))⟩
theorem mkN_lst {t : TA} {us : List W} (h : MkNA t σ us) (l : us.length ≤ 900) : MkN (tLst t) σ (.lst us) := fun H Q q => h H _ fun xs H1 s1 i1 => by
  have lx := (i1 H1 fun b o _ e _ => e).len
  refine ⟨by rw [lx]; exact Nat.le_trans l (by rw [sizeLine_eq]; omega), fun p np => q _ _ (s1.trans (same_new np)) fun G n => .lst (by rw [lx]; exact l) (n p _ (none_back s1 np) upd_same (fun _ z => by cases z)) (i1 G (n.left (same_new np)))⟩
theorem mkN_dict : MkN tDNewK σ (.dct []) := fun H Q q => fun p np => q _ _ (same_new np) fun G n => .dct (kvs := []) (by show 0 ≤ 900; omega) ⟨[], .inl (n p _ np upd_same (fun _ z => by cases z)), rfl⟩ .nil
theorem rep_allN {H : Hp} {v : V} {u : W} (h : Is H v u) : ∀ n : Nat, IsAll H (List.replicate n v) (List.replicate n u)
  | 0 => .nil
  | n + 1 => by
    rw [List.replicate_succ, List.replicate_succ]
    exact .cons h (rep_allN h n)
/-- [x] * n -/
theorem mkN_rep {te : TE} {u : W} {n : Nat} (h : MkN te σ u) (l : n ≤ 900) : MkN (tOp rRep (tLst (tCons te tNil)) (tC (.int n))) σ (.lst (List.replicate n u)) := fun H Q q => h H _ fun x H1 s1 i1 => by
  refine ⟨by show 1 ≤ sizeLine; rw [sizeLine_eq]; omega, fun p np => ⟨p, n, [x], rfl, rfl, upd_same, by omega, by omega, by rw [sizeLine_eq]; show 1 * (n : Int).toNat ≤ _; omega, fun p2 np2 => ?_⟩⟩
  rw [Int.toNat_natCast, repl_one]
  have s2 := (same_new np (o := .lst [x])).trans (same_new np2 (o := .lst (List.replicate n x)))
  exact q _ _ (s1.trans s2) fun G nw => .lst (by rw [List.length_replicate]; exact l) (nw p2 _ (none_back (s1.trans (same_new np (o := .lst [x]))) np2) upd_same (fun _ z => by cases z)) (rep_allN (i1 G (nw.left s2)) n)
end
theorem lay_lstN {σ : L2.St} {t : TA} {us : List W} {H : Hp} {Q : VK} (h : MkNA t σ us) (l : us.length ≤ 900) (q : ∀ p xs H', Same H H' → (∀ G, News H H' G → IsAll G xs us) → H' p = some (.lst xs) → H p = none → xs.length = us.length → Q (.ref p) H') : tLst t σ H Q := h H _ fun xs H1 s1 i1 => by
  have lx := (i1 H1 fun b o _ e _ => e).len
  exact ⟨by rw [lx]; exact Nat.le_trans l (by rw [sizeLine_eq]; omega), fun p np => q p xs _ (s1.trans (same_new np)) (fun G n => i1 G (n.left (same_new np))) upd_same (none_back s1 np) lx⟩
theorem no_all {p : W → Bool} {us : List W} (h : us.all (fun u => !p u) = true) {G : Hp} {x : V} (k : ∃ u ∈ us, Is G x u) : ∃ u, Is G x u ∧ p u = false := by
  obtain ⟨u, hu, hi⟩ := k
  refine ⟨u, hi, ?_⟩
  have z := List.all_eq_true.mp h u hu
  cases e : p u with
  | false => rfl
  | true => rw [e] at z; cases z
def oddU : List W := [.non, .tup [], .lst [.int 1, .int 2], .tup [.int 2, .int 1], .tup [.int 1, .int 1], .tup [.int 0, .int 1], .tup [.int 1, .int 10], .tup [.bl true, .int 2], .tup [.str "a"], .tup [.int 1, .int 2, .int 3, .int 4, .int 5, .int 6, .int 7, .int 8, .int 9]]
def widU : List W := [.int 0, .int 7, .non, .bl true, .str "1", .int (-1)]
def schU : List W := [.non, .int 5, .lst [.tup [.int 1]], .lst [.lst [.int 1, .int 2]], .lst [.tup [.int 1, .bl true]], .lst [.tup [.int 1, .int 2], .tup []], .lst (List.replicate 25 (.tup [.int 1, .int 2])), .dct []]
def silU : List W := [.int (-1), .int 3, .non, .bl true, .str "1"]
theorem oddU_no : oddU.all (fun u => !seatsW u) = true := by decide +kernel
theorem widU_no : widU.all (fun u => !withinW 1 6 u) = true := by decide +kernel
theorem schU_no : schU.all (fun u => !schW 2 u) = true := by decide +kernel
theorem silU_no : silU.all (fun u => !withinW 0 2 u) = true := by decide +kernel
theorem isall_mem {G : Hp} {x : V} : ∀ {xs : List V} {us : List W}, IsAll G xs us → x ∈ xs → ∃ u ∈ us, Is G x u
  | _, _, .nil, h => by cases h
  | _, _, .cons i t, h => by
    rcases List.mem_cons.mp h with z | z
    · subst z
      exact ⟨_, List.mem_cons_self .., i⟩
    · obtain ⟨u, hu, h⟩ := isall_mem t z
      exact ⟨u, List.mem_cons_of_mem _ hu, h⟩
theorem news_cut {d l c : Addr} {H H' : Hp} (D : Drw H d l c) : News H H' (cut d l H') := fun b o n e nt => cut_at e (D.off n).1 (D.off n).2 nt
/-- _law_pick(draw, [..]) -/
theorem pick_mk {σ : L2.St} {H : Hp} {Q : VK} {d l c : Addr} {t : TA} {us : List W} (h : MkNA t σ us) (l0 : 0 < us.length) (l9 : us.length ≤ 900) (hd : σ[0]? = some (some (.ref d))) (D : Drw H d l c)
    (q : ∀ x H', Drw H' d l c → But d l H H' → (∃ u ∈ us, Is (cut d l H') x u) → Q x H') : tCall spPick [] E0 (tCons (tVar 0) (tCons (tLst t) tNil)) σ H Q := by
  refine ⟨_, hd, h H _ fun xs H1 s1 i1 => ?_⟩
  have lx := (i1 H1 fun b o _ e _ => e).len
  refine ⟨by rw [lx, sizeLine_eq]; omega, fun p np => ?_⟩
  have s2 : Same H (L2.upd H1 p (.lst xs)) := s1.trans (same_new np)
  have D2 := D.same s2
  have off := D.off (none_back s1 np)
  refine ⟨d, l, c, p, xs, rfl, D2, upd_same, off.2, by omega, by omega, fun k x H' hk D' B' => q x H' D' ((But.of s2).trans B') ?_⟩
  have z := i1 (cut d l (L2.upd H1 p (.lst xs))) (News.left (news_cut D) (same_new np))
  obtain ⟨u, hu, hi⟩ := isall_mem z (List.mem_of_getElem? hk)
  exact ⟨u, hu, hi.same B'.cut⟩
end Kn
-- part VRf
set_option maxHeartbeats 8000000
/-! _law_refused_right. -/
namespace Kn
open PySem PySem.Spec PyProof.Rows L2 Err LamX HLam La NdefX
abbrev sRf : Stmt := topS 57
abbrev NRf : List Str := ["_law_draw", "_law_odd_here", "_law_seats", "_law_width", "_law_scheme_here", "_law_silent", "_law_work", "_law_errors_here"]
theorem scRf : FnScope NRf ["_law_draw"] (defScope sRf) := ⟨rfl, rfl, rfl, by decide +kernel, rfl, by decide +kernel, by decide +kernel⟩
/-- the lambda with parameters -/
def lamX : Stmt → Expr
  | .For _ (.List [_, e] _) _ _ _ => e
  | _ => .Constant .none 0 ⟨0, 0, 0, 0⟩
def lamPar : Expr → Arguments
  | .Lambda a _ _ _ => a
  | _ => defArgs (topS 14)
def lamBody : Expr → Expr
  | .Lambda _ b _ _ => b
  | e => e
def lamSc : Expr → Scope
  | .Lambda _ _ s _ => s
  | _ => defScope (topS 14)
abbrev lam4 : Expr := lamX (bodyAt sRf 5)
abbrev qRf : Str := ("_law_refused_right.<locals>." : Str) ++ "<lambda>"
def mkL (c : Addr) : LD := ⟨qRf, lamPar lam4, lamBody lam4, lamSc lam4, [], c⟩
abbrev NL4 : List Str := ["_law_a", "_law_b", "_law_c", "_law_d"]
theorem scL : NScope NL4 NL4 [] (lamSc lam4) := nscope_by (by decide +kernel)
theorem nfL : ∀ y ∈ (lamSc lam4).names, y.2 ≠ .free := by
  have h : (lamSc lam4).names.all (fun y => !decide (y.2 = .free)) = true := by decide +kernel
  intro y hy e
  have z := List.all_eq_true.mp h y hy
  rw [e] at z
  cases z
theorem hbL (c' : Addr) (pm ctv : Value) (us : List Value) (h : us.length = NL4.length) : bindArgs (PySem.W.kla_fn "<lambda>" (mkL c').qual (mkL c').params (mkL c').body (mkL c').scope (mkL c').cl pm (.ref (mkL c').c) ctv) ⟨us, []⟩ = pure (NL4.zip us) := by
  match us, h with
  | [a, b, c, d], _ => rfl
def WorkV (fU : Addr) (G : Hp) (v : V) : Prop := v = .ref fU ∨ ∃ fL c', v = .ref fL ∧ G fL = some (LamO fL (mkL c')) ∧ G c' = some (CodeO c' qRf)
def Wrong4 (CS0 CW CM CC C : Addr) (a b c e : V) (G : Hp) : Prop := ∃ wa wb wc we, Is G a wa ∧ Is G b wb ∧ Is G c wc ∧ Is G e we ∧ ((seatsW wa = false ∧ C = CS0) ∨ (seatsW wa = true ∧ withinW 1 6 wb = false ∧ C = CW) ∨ (seatsW wa = true ∧ withinW 1 6 wb = true ∧ schW (lenT wa * intW wb) wc = false ∧ C = CM) ∨
  (seatsW wa = true ∧ withinW 1 6 wb = true ∧ schW (lenT wa * intW wb) wc = true ∧ withinW 0 (lenT wa) we = false ∧ C = CC))
abbrev tWork (CS0 CW CM CC fU : Addr) (t : TA) (E : XK) : TE := fun σ H Q => tCallL 6 fU (spOr (spUbE CS0 CW CM CC) spUbG) [] E t σ H Q ∨
  tCallLam mkL 6 NL4.length NL4 (tCall (spOr (spIuE CS0 CW CM CC) spIuG) [] E (tCons (tVar 0) (tCons (tVar 1) (tCons (tVar 2) (tCons (tVar 3) (tCons (tC .non) tNil)))))) t σ H Q
theorem work_no {CS0 CW CM CC fU C : Addr} {σ : L2.St} {G : Hp} {Q : VK} {E : XK} {t : TA} {v : V} (hv : σ[6]? = some (some v)) (hw : WorkV fU G v) (ht : ∀ Q' : List V → Hp → Prop, (∀ a b c e H', Same G H' → Wrong4 CS0 CW CM CC C a b c e H' → Q' [a, b, c, e] H') → t σ G Q')
    (q : ∀ H', Same G H' → E (.ref C) none H') : tWork CS0 CW CM CC fU t E σ G Q := by
  have cs : ∀ (H' : Hp) (wa wb wc we : W), Same G H' → ((seatsW wa = false ∧ C = CS0) ∨ (seatsW wa = true ∧ withinW 1 6 wb = false ∧ C = CW) ∨ (seatsW wa = true ∧ withinW 1 6 wb = true ∧ schW (lenT wa * intW wb) wc = false ∧ C = CM) ∨
      (seatsW wa = true ∧ withinW 1 6 wb = true ∧ schW (lenT wa * intW wb) wc = true ∧ withinW 0 (lenT wa) we = false ∧ C = CC)) →
      ((seatsW wa = false ∧ ∀ H2, Same H' H2 → E (.ref CS0) none H2) ∨ (seatsW wa = true ∧ withinW 1 6 wb = false ∧ ∀ H2, Same H' H2 → E (.ref CW) none H2) ∨ (seatsW wa = true ∧ withinW 1 6 wb = true ∧ schW (lenT wa * intW wb) wc = false ∧ ∀ H2, Same H' H2 → E (.ref CM) none H2) ∨
      (seatsW wa = true ∧ withinW 1 6 wb = true ∧ schW (lenT wa * intW wb) wc = true ∧ withinW 0 (lenT wa) we = false ∧ ∀ H2, Same H' H2 → E (.ref CC) none H2)) := by
    intro H' wa wb wc we s h
    rcases h with ⟨h, rfl⟩ | ⟨h1, h2, rfl⟩ | ⟨h1, h2, h3, rfl⟩ | ⟨h1, h2, h3, h4, rfl⟩
    · exact .inl ⟨h, fun H2 s2 => q H2 (s.trans s2)⟩
    · exact .inr (.inl ⟨h1, h2, fun H2 s2 => q H2 (s.trans s2)⟩)
    · exact .inr (.inr (.inl ⟨h1, h2, h3, fun H2 s2 => q H2 (s.trans s2)⟩))
    · exact .inr (.inr (.inr ⟨h1, h2, h3, h4, fun H2 s2 => q H2 (s.trans s2)⟩))
  rcases hw with rfl | ⟨fL, c', rfl, hL, hc⟩
  · refine .inl ⟨hv, ht _ fun a b c e H' s h => ?_⟩
    obtain ⟨wa, wb, wc, we, i1, i2, i3, i4, h⟩ := h
    exact .inl ⟨a, b, c, e, wa, wb, wc, we, rfl, i1, i2, i3, i4, cs H' wa wb wc we s h⟩
  · refine .inr ⟨fL, c', hv, hL, ht _ fun a b c e H' s h => ⟨s _ _ hL, s _ _ hc, rfl, ?_⟩⟩
    obtain ⟨wa, wb, wc, we, i1, i2, i3, i4, h⟩ := h
    exact ⟨_, rfl, _, rfl, _, rfl, _, rfl, .inl ⟨a, b, c, e, .non, wa, wb, wc, we, rfl, i1, i2, i3, i4, cs H' wa wb wc we s h⟩⟩
theorem lam_no {T : List (Addr × Str)} {K : PySem.W.Frag} {CS C : Addr} {σ : L2.St} {G : Hp} {Q : VK} {tl : XK → TE} (hT : Tabs T G) (xm : PySem.W.exmOne K (.ref C) (.ref CS) = some true) (h : ∀ G1, ExtN G G1 → Tabs T G1 → ∀ (E : XK) (Q' : VK), (∀ H', Same G1 H' → E (.ref C) none H') → tl E σ G1 Q')
    (q : ∀ a G3, ExtN G G3 → Tabs T G3 → QA0 G3 a C → Q (.ref a) G3) : tLam T (TCaught K CS) tl σ G Q :=
  ⟨hT, fun G1 eN T1 => h G1 eN T1 _ _ fun H' s => ⟨xm, fun a na => q a _ (eN.trans (ExtN.of (s.trans (same_new na)))) ((T1.ext s).ext (same_new na)) upd_same⟩⟩
theorem tabs_lst {T : List (Addr × Str)} {H : Hp} {el : Addr} {xs : List V} {o : HO} (t : Tabs T H) (e : H el = some (.lst xs)) : Tabs T (L2.upd H el o) := fun p hp => by
  obtain ⟨ps, h1, h2, h3⟩ := t p hp
  have keep : ∀ {b : Addr} {u : HO}, H b = some u → (∀ xs, u ≠ .lst xs) → L2.upd H el o b = some u := fun {b u} e1 n => by
    rw [upd_ne fun z => by rw [z, e] at e1; exact n _ (Option.some.inj e1).symm]
    exact e1
  refine ⟨ps, keep h1 (fun _ z => by cases z), h2, fun pos cv hc => ?_⟩
  obtain ⟨c0, e1, e2⟩ := h3 pos cv hc
  exact ⟨c0, e1, keep e2 (fun _ z => by unfold CodeO at z; cases z)⟩
theorem ext_cut2 {d l : Addr} {B G : Hp} (s : Same (cut d l B) G) {G1 : Hp} (e : ExtN G G1) : Same (cut d l B) G1 := fun b o h => e b o (s b o h) (cut_ne4 h).2.2.2
/-- the errors that were caught so far -/
structure ErS (T : List (Addr × Str)) (d l c : Addr) (B G : Hp) (el : Addr) (as Cs : List Addr) : Prop where
  D : Drw G d l c
  T : Tabs T G
  S : Same (cut d l B) G
  e : G el = some (.lst (as.map V.ref))
  o : ∃ H0, Drw H0 d l c ∧ H0 el = none
  n : cut d l B el = none
  x : Paired (fun a C => QA0 G a C) as Cs
theorem exq_ne {a b : Addr} {d : Option Addr} {xs : List V} : exq a (.ref b) d ≠ .lst xs := fun z => by unfold exq at z; cases z
theorem ErS.step {T : List (Addr × Str)} {d l c : Addr} {B G G3 : Hp} {el a C : Addr} {as Cs : List Addr} (h : ErS T d l c B G el as Cs) (e : ExtN G G3) (t : Tabs T G3) (q : QA0 G3 a C) : G3 el = some (.lst (as.map V.ref)) ∧ ErS T d l c B (L2.upd G3 el (.lst (as.map V.ref ++ [.ref a]))) el (as ++ [a]) (Cs ++ [C]) := by
  have e3 := e _ _ h.e (fun _ z => by cases z)
  obtain ⟨H0, D0, n0⟩ := h.o
  have keepQ : ∀ b C', QA0 G3 b C' → QA0 (L2.upd G3 el (.lst (as.map V.ref ++ [.ref a]))) b C' := fun b C' hb => by
    unfold QA0 at hb ⊢
    rw [upd_ne fun z => by rw [z, e3] at hb; exact exq_ne (Option.some.inj hb).symm]
    exact hb
  refine ⟨e3, ⟨(h.D.extN e).own D0 n0, tabs_lst t e3, same_own h.n (ext_cut2 h.S e), by rw [upd_same, List.map_append]; rfl, h.o, h.n, ?_⟩⟩
  refine paired_ap (paired_imp (fun b C' hb => keepQ b C' (e _ _ hb (fun _ z => by unfold exq at z; cases z))) h.x) (.cons (keepQ a C q) .nil)
def spRf (T : List (Addr × Str)) : Sp := fun vs H Q _ => ∃ d l c, vs = [.ref d] ∧ Drw H d l c ∧ Tabs T H ∧ ∀ H', Q (.bl true) H'
/-- what stands where the loop begins, and behind it -/
structure RI (T : List (Addr × Str)) (d l c : Addr) (H : Hp) (se wi sc si : V) : Prop where
  D : Drw H d l c
  T : Tabs T H
  se : ∃ u, Is (cut d l H) se u ∧ seatsW u = false
  wi : ∃ u, Is (cut d l H) wi u ∧ withinW 1 6 u = false
  sc : ∃ u, Is (cut d l H) sc u ∧ schW 2 u = false
  si : ∃ u, Is (cut d l H) si u ∧ withinW 0 2 u = false
def PRa (T : List (Addr × Str)) (CS0 CW CM CC : Addr) : TS := fun D σ H => ∃ d l c se wi sc si y1 y6 y7, σ = [some (.ref d), y1, some se, some wi, some sc, some si, y6, y7] ∧ RI T d l c H se wi sc si ∧ ∀ H', D.rt (.bl true) H'
theorem RI.to {T : List (Addr × Str)} {d l c : Addr} {H H' : Hp} {se wi sc si : V} (R : RI T d l c H se wi sc si) (s : Same (cut d l H) (cut d l H')) (D : Drw H' d l c) (t : Tabs T H') : RI T d l c H' se wi sc si :=
  ⟨D, t, R.se.imp fun _ z => ⟨z.1.same s, z.2⟩, R.wi.imp fun _ z => ⟨z.1.same s, z.2⟩, R.sc.imp fun _ z => ⟨z.1.same s, z.2⟩, R.si.imp fun _ z => ⟨z.1.same s, z.2⟩⟩
theorem WorkV.same {fU : Addr} {G G' : Hp} {v : V} (h : WorkV fU G v) (s : Same G G') : WorkV fU G' v := by
  rcases h with h | ⟨fL, c', h1, h2, h3⟩
  · exact .inl h
  · exact .inr ⟨fL, c', h1, s _ _ h2, s _ _ h3⟩
theorem cut_cut {d l : Addr} {B G : Hp} (s : Same (cut d l B) G) : Same (cut d l B) (cut d l G) := fun b o e => by
  obtain ⟨n1, n2, _, n3⟩ := cut_ne4 e
  exact cut_at (s b o e) n1 n2 n3
theorem is12 {G : Hp} {t : Addr} (e : G t = some (.tup [.int 1, .int 2])) : Is G (.ref t) (.tup [.int 1, .int 2]) := .tup (by show 2 ≤ 900; omega) (.inl e) (.cons (.int 1) (.cons (.int 2) .nil))
section
variable {P : Program} {w : World} {K : PySem.W.Frag} {mg : Str → Option Value} {base : Heap}
theorem ok_rf {T : List (Addr × Str)} {Pt c0 f fP fU fI fS fC CS CS0 CW CM CC : Addr} {fd fdP fdU fdI fdS fdC : FuncData} (F : FunC K "_law_refused_right" "_law_refused_right" sRf f fd c0) (TB : TabB base mg c0 Pt) (hT1 : (Pt, ("_law_refused_right.<locals>." : Str) ++ "<lambda>") ∈ T) (hT2 : ∀ p ∈ T, p.1 = Pt → p.2 = ("_law_refused_right.<locals>." : Str) ++ "<lambda>")
    (X0 : EC K mg CS "BadSeats" CS0) (XW : EC K mg CS "BadWidth" CW) (XM : EC K mg CS "BadScheme" CM) (XC : EC K mg CS "BadCount" CC) (k0 : PySem.W.kitOne K (.ref CS0) (.ref CS0) = some true) (kW : PySem.W.kitOne K (.ref CW) (.ref CW) = some true) (kM : PySem.W.kitOne K (.ref CM) (.ref CM) = some true) (kC : PySem.W.kitOne K (.ref CC) (.ref CC) = some true) (gS : mg "StillError" = some (.ref CS))
    (GP : FnOk P w K mg base CX0 3 fP fdP ["_law_draw", "_law_some"] spPick) (kP : PySem.W.keepIn K (.ref fP) = true) (bP : Binds K fdP ["_law_draw", "_law_some"] []) (gP : mg "_law_pick" = some (.ref fP))
    (GU : FnOk P w K mg base (L2.CX P w) 7 fU fdU ["seats", "width", "scheme", "silent"] (spOr (spUbE CS0 CW CM CC) spUbG)) (kU : PySem.W.keepIn K (.ref fU) = true) (bU : Binds K fdU ["seats", "width", "scheme", "silent"] []) (gU : mg "unborne" = some (.ref fU))
    (GI : FnOk P w K mg base (L2.CX P w) 7 fI fdI ["seats", "width", "scheme", "silent", "thing"] (spOr (spIuE CS0 CW CM CC) spIuG)) (kI : PySem.W.keepIn K (.ref fI) = true) (bI : Binds K fdI ["seats", "width", "scheme", "silent", "thing"] []) (gI : mg "is_unborne" = some (.ref fI))
    (GS : FnOk P w K mg base (L2.CX P w) 6 fS fdS ["seats", "width", "count"] (spOr (spPsE CS0 CW CC) spPsG)) (kSc : PySem.W.keepIn K (.ref fS) = true) (bSc : Binds K fdS ["seats", "width", "count"] []) (gSc : mg "power_scheme" = some (.ref fS))
    (FC : Fun K "_law_caught" "_law_caught" sCaught fC fdC) (bC : Binds K fdC ["_law_work"] []) (gC : mg "_law_caught" = some (.ref fC)) (mi : mg "isinstance" = none) : FnOk P w K mg base CX0 12 f fd ["_law_draw"] (spRf T) := by
  have S := scRf
  obtain ⟨ocC, odC, kVC, docC, pmC, anC, cdC, ctC, oslC, rfl, lkC, hcC⟩ := FC.ex
  refine F.ok S (fun vs H Q E h => ?_) (fun A outer s H vs Q E hr h => ?_)
  · obtain ⟨d, l, c, rfl, _⟩ := h
    rfl
  · obtain ⟨d, l, c, rfl, D, hT, q⟩ := h
    have hu := hu_of hr
    have hr3 := hr.mono (show 3 ≤ 11 by decide)
    refine ⟨_, (pss_cons (ps_set (i := 1) S.nd rfl (.inl rfl) (pe_lst (pa_cons pe_non (pa_cons (pe_tup pa_nil) (pa_cons (pe_lst (pa_cons pe_int (pa_cons pe_int pa_nil))) (pa_cons (pe_tup (pa_cons pe_int (pa_cons pe_int pa_nil))) (pa_cons (pe_tup (pa_cons pe_int (pa_cons pe_int pa_nil))) (pa_cons (pe_tup (pa_cons pe_int (pa_cons pe_int pa_nil))) (pa_cons (pe_tup (pa_cons pe_int (pa_cons pe_int pa_nil))) (pa_cons (pe_tup (pa_cons pe_bl (pa_cons pe_int pa_nil))) (pa_cons (pe_tup (pa_cons pe_str pa_nil)) (pa_cons (pe_tup (pa_cons pe_int (pa_cons pe_int (pa_cons pe_int (pa_cons pe_int (pa_cons pe_int (pa_cons pe_int (pa_cons pe_int (pa_cons pe_int (pa_cons pe_int pa_nil)))))))))) pa_nil))))))))))))
      (pss_cons (ps_set (i := 2) S.nd rfl (.inr rfl) (pe_call GP hr3 (by rfl) gP kP bP .nil pass0 (pa_cons (pv 0) (pa_cons (pv 1) pa_nil))))
      (pss_cons (ps_set (i := 3) S.nd rfl (.inr rfl) (pe_call GP hr3 (by rfl) gP kP bP .nil pass0 (pa_cons (pv 0) (pa_cons (pe_lst (pa_cons pe_int (pa_cons pe_int (pa_cons pe_non (pa_cons pe_bl (pa_cons pe_str (pa_cons (pe_un un_neg pe_int) pa_nil))))))) pa_nil))))
      (pss_cons (ps_set (i := 4) S.nd rfl (.inr rfl) (pe_call GP hr3 (by rfl) gP kP bP .nil pass0 (pa_cons (pv 0) (pa_cons (pe_lst (pa_cons pe_non (pa_cons pe_int (pa_cons (pe_lst (pa_cons (pe_tup (pa_cons pe_int pa_nil)) pa_nil)) (pa_cons (pe_lst (pa_cons (pe_lst (pa_cons pe_int (pa_cons pe_int pa_nil))) pa_nil)) (pa_cons (pe_lst (pa_cons (pe_tup (pa_cons pe_int (pa_cons pe_bl pa_nil))) pa_nil)) (pa_cons (pe_lst (pa_cons (pe_tup (pa_cons pe_int (pa_cons pe_int pa_nil))) (pa_cons (pe_tup pa_nil) pa_nil))) (pa_cons (pe_op (show OpR _ (binaryOp .Mult) rRep from op_rep) (pe_lst (pa_cons (pe_tup (pa_cons pe_int (pa_cons pe_int pa_nil))) pa_nil)) pe_int) (pa_cons pe_dnewK pa_nil))))))))) pa_nil))))
      (pss_cons (ps_set (i := 5) S.nd rfl (.inr rfl) (pe_call GP hr3 (by rfl) gP kP bP .nil pass0 (pa_cons (pv 0) (pa_cons (pe_lst (pa_cons (pe_un un_neg pe_int) (pa_cons pe_int (pa_cons pe_non (pa_cons pe_bl (pa_cons pe_str pa_nil)))))) pa_nil))))
      (PSs.pre (PRa T CS0 CW CM CC) (pss_cons (ps_for PassesOwn.never rfl (pi_list (pe_lst (pa_cons (pe_glob (v := .ref fU) (by rfl) gU rfl) (pa_cons (pe_lamkept2 (T := T) TB rfl hT1 hT2 nfL (by rfl)) pa_nil)))) (pg_name (i := 6) S.nd rfl (.inr rfl))
        (pss_cons (ps_set (i := 7) S.nd rfl (.inl rfl) (pe_lst (pa_cons (pe_lamcall (T := T) (TT := TCaught K CS) (k := 9) (by rfl) gC FC.kp lkC hcC bC scCa rfl (.inl rfl) (caught_gives gS) TB rfl hT1 hT2 hr (lamS_by (by show lamSB (defScope sRf) _ = true; decide +kernel)) (by rfl) (fun _ _ _ _ _ => rfl) (fun A outer s H E f c' hrL => (HLam.pe_or (pe_callL (i := 6) GU (hrL.mono (by decide)) rfl (.inr (.inr rfl)) kU bU .nil (passes_call (takes_of rfl rfl rfl rfl) fun _ _ _ _ h => h) (pa_cons (pv 2) (pa_cons (pv 3) (pa_cons (pv 4) (pa_cons (pv 5) pa_nil))))) (pe_callLam (mk := mkL) (k := 7) (E := E) (i := 6) (fun _ => scL) (fun _ => rfl) (hrL.mono (by decide)) (passes_call (takes_of rfl rfl rfl rfl) fun _ _ _ _ h => h) hbL (fun c' A outer s H f hrl => pe_call GI (hrl.mono (by decide)) (by rfl) gI kI bI .nil (passes_call (takes_of rfl rfl rfl rfl) fun _ _ _ _ h => h) (pa_cons (pv 0) (pa_cons (pv 1) (pa_cons (pv 2) (pa_cons (pv 3) (pa_cons pe_non pa_nil)))))) rfl (.inr (.inr rfl)) (pa_cons (pv 2) (pa_cons (pv 3) (pa_cons (pv 4) (pa_cons (pv 5) pa_nil)))))))) pa_nil)))
        (pss_cons (ps_expr (pe_bm PySem.F.plainAttrs_list PySem.F.slot_list_append PySem.F.type_list_append mt_append (pv 7) (pa_cons (pe_lamcall (T := T) (TT := TCaught K CS) (k := 9) (by rfl) gC FC.kp lkC hcC bC scCa rfl (.inl rfl) (caught_gives gS) TB rfl hT1 hT2 hr (lamS_by (by show lamSB (defScope sRf) _ = true; decide +kernel)) (by rfl) (fun _ _ _ _ _ => rfl) (fun A outer s H E f c' hrL => (HLam.pe_or (pe_callL (i := 6) GU (hrL.mono (by decide)) rfl (.inr (.inr rfl)) kU bU .nil (passes_call (takes_of rfl rfl rfl rfl) fun _ _ _ _ h => h) (pa_cons (pe_tup (pa_cons pe_int (pa_cons pe_int pa_nil))) (pa_cons (pv 3) (pa_cons (pv 4) (pa_cons (pv 5) pa_nil))))) (pe_callLam (mk := mkL) (k := 7) (E := E) (i := 6) (fun _ => scL) (fun _ => rfl) (hrL.mono (by decide)) (passes_call (takes_of rfl rfl rfl rfl) fun _ _ _ _ h => h) hbL (fun c' A outer s H f hrl => pe_call GI (hrl.mono (by decide)) (by rfl) gI kI bI .nil (passes_call (takes_of rfl rfl rfl rfl) fun _ _ _ _ h => h) (pa_cons (pv 0) (pa_cons (pv 1) (pa_cons (pv 2) (pa_cons (pv 3) (pa_cons pe_non pa_nil)))))) rfl (.inr (.inr rfl)) (pa_cons (pe_tup (pa_cons pe_int (pa_cons pe_int pa_nil))) (pa_cons (pv 3) (pa_cons (pv 4) (pa_cons (pv 5) pa_nil)))))))) pa_nil)))
        (pss_cons (ps_expr (pe_bm PySem.F.plainAttrs_list PySem.F.slot_list_append PySem.F.type_list_append mt_append (pv 7) (pa_cons (pe_lamcall (T := T) (TT := TCaught K CS) (k := 9) (by rfl) gC FC.kp lkC hcC bC scCa rfl (.inl rfl) (caught_gives gS) TB rfl hT1 hT2 hr (lamS_by (by show lamSB (defScope sRf) _ = true; decide +kernel)) (by rfl) (fun _ _ _ _ _ => rfl) (fun A outer s H E f c' hrL => (HLam.pe_or (pe_callL (i := 6) GU (hrL.mono (by decide)) rfl (.inr (.inr rfl)) kU bU .nil (passes_call (takes_of rfl rfl rfl rfl) fun _ _ _ _ h => h) (pa_cons (pe_tup (pa_cons pe_int (pa_cons pe_int pa_nil))) (pa_cons pe_int (pa_cons (pv 4) (pa_cons (pv 5) pa_nil))))) (pe_callLam (mk := mkL) (k := 7) (E := E) (i := 6) (fun _ => scL) (fun _ => rfl) (hrL.mono (by decide)) (passes_call (takes_of rfl rfl rfl rfl) fun _ _ _ _ h => h) hbL (fun c' A outer s H f hrl => pe_call GI (hrl.mono (by decide)) (by rfl) gI kI bI .nil (passes_call (takes_of rfl rfl rfl rfl) fun _ _ _ _ h => h) (pa_cons (pv 0) (pa_cons (pv 1) (pa_cons (pv 2) (pa_cons (pv 3) (pa_cons pe_non pa_nil)))))) rfl (.inr (.inr rfl)) (pa_cons (pe_tup (pa_cons pe_int (pa_cons pe_int pa_nil))) (pa_cons pe_int (pa_cons (pv 4) (pa_cons (pv 5) pa_nil)))))))) pa_nil)))
        (pss_cons (ps_expr (pe_bm PySem.F.plainAttrs_list PySem.F.slot_list_append PySem.F.type_list_append mt_append (pv 7) (pa_cons (pe_lamcall (T := T) (TT := TCaught K CS) (k := 9) (by rfl) gC FC.kp lkC hcC bC scCa rfl (.inl rfl) (caught_gives gS) TB rfl hT1 hT2 hr (lamS_by (by show lamSB (defScope sRf) _ = true; decide +kernel)) (by rfl) (fun _ _ _ _ _ => rfl) (fun A outer s H E f c' hrL => (HLam.pe_or (pe_callL (i := 6) GU (hrL.mono (by decide)) rfl (.inr (.inr rfl)) kU bU .nil (passes_call (takes_of rfl rfl rfl rfl) fun _ _ _ _ h => h) (pa_cons (pe_tup (pa_cons pe_int (pa_cons pe_int pa_nil))) (pa_cons pe_int (pa_cons (pe_lst (pa_cons (pe_tup (pa_cons pe_int (pa_cons pe_int pa_nil))) pa_nil)) (pa_cons (pv 5) pa_nil))))) (pe_callLam (mk := mkL) (k := 7) (E := E) (i := 6) (fun _ => scL) (fun _ => rfl) (hrL.mono (by decide)) (passes_call (takes_of rfl rfl rfl rfl) fun _ _ _ _ h => h) hbL (fun c' A outer s H f hrl => pe_call GI (hrl.mono (by decide)) (by rfl) gI kI bI .nil (passes_call (takes_of rfl rfl rfl rfl) fun _ _ _ _ h => h) (pa_cons (pv 0) (pa_cons (pv 1) (pa_cons (pv 2) (pa_cons (pv 3) (pa_cons pe_non pa_nil)))))) rfl (.inr (.inr rfl)) (pa_cons (pe_tup (pa_cons pe_int (pa_cons pe_int pa_nil))) (pa_cons pe_int (pa_cons (pe_lst (pa_cons (pe_tup (pa_cons pe_int (pa_cons pe_int pa_nil))) pa_nil)) (pa_cons (pv 5) pa_nil)))))))) pa_nil)))
        (pss_cons (ps_if (PW.pt (pw_or (pt_not (pt_val (pe_callB (show CallR _ (.builtin "isinstance") (rIs0 K) from call_is0) (by rfl) mi PyProof.Rows.boot_isinstance (pa_cons (pe_ix (show IxR _ (rIxL K) from ix_list) (pv 7) pe_int (fun _ _ => rfl)) (pa_cons (pe_glob (v := .ref CS0) (by rfl) X0.glob rfl) pa_nil))))) (pw_or1 (pt_not (pt_val (pe_callB (show CallR _ (.builtin "isinstance") (rIs0 K) from call_is0) (by rfl) mi PyProof.Rows.boot_isinstance (pa_cons (pe_ix (show IxR _ (rIxL K) from ix_list) (pv 7) pe_int (fun _ _ => rfl)) (pa_cons (pe_glob (v := .ref CW) (by rfl) XW.glob rfl) pa_nil)))))))) (pss_one (ps_ret pe_bl)) pss_nil)
        (pss_one (ps_if (PW.pt (pw_or (pt_not (pt_val (pe_callB (show CallR _ (.builtin "isinstance") (rIs0 K) from call_is0) (by rfl) mi PyProof.Rows.boot_isinstance (pa_cons (pe_ix (show IxR _ (rIxL K) from ix_list) (pv 7) pe_int (fun _ _ => rfl)) (pa_cons (pe_glob (v := .ref CM) (by rfl) XM.glob rfl) pa_nil))))) (pw_or1 (pt_not (pt_val (pe_callB (show CallR _ (.builtin "isinstance") (rIs0 K) from call_is0) (by rfl) mi PyProof.Rows.boot_isinstance (pa_cons (pe_ix (show IxR _ (rIxL K) from ix_list) (pv 7) pe_int (fun _ _ => rfl)) (pa_cons (pe_glob (v := .ref CC) (by rfl) XC.glob rfl) pa_nil)))))))) (pss_one (ps_ret pe_bl)) pss_nil))))))))
      (PSs.pre (PRa T CS0 CW CM CC)       (pss_cons (ps_if (pt_not (pt_val (pe_callB (show CallR _ (.builtin "isinstance") (rIs0 K) from call_is0) (by rfl) mi PyProof.Rows.boot_isinstance (pa_cons (pe_lamcall (T := T) (TT := TCaught K CS) (k := 9) (by rfl) gC FC.kp lkC hcC bC scCa rfl (.inl rfl) (caught_gives gS) TB rfl hT1 hT2 hr (lamS_by (by show lamSB (defScope sRf) _ = true; decide +kernel)) (by rfl) (fun _ _ _ _ _ => rfl) (fun A outer s H E f c' hrL => (pe_call GS (hrL.mono (by decide)) (by rfl) gSc kSc bSc .nil (passes_call (takes_of rfl rfl rfl rfl) fun _ _ _ _ h => h) (pa_cons (pv 2) (pa_cons (pv 3) (pa_cons pe_int pa_nil)))))) (pa_cons (pe_glob (v := .ref CS0) (by rfl) X0.glob rfl) pa_nil))))) (pss_one (ps_ret pe_bl)) pss_nil)
      (pss_cons (ps_if (pt_not (pt_val (pe_callB (show CallR _ (.builtin "isinstance") (rIs0 K) from call_is0) (by rfl) mi PyProof.Rows.boot_isinstance (pa_cons (pe_lamcall (T := T) (TT := TCaught K CS) (k := 9) (by rfl) gC FC.kp lkC hcC bC scCa rfl (.inl rfl) (caught_gives gS) TB rfl hT1 hT2 hr (lamS_by (by show lamSB (defScope sRf) _ = true; decide +kernel)) (by rfl) (fun _ _ _ _ _ => rfl) (fun A outer s H E f c' hrL => (pe_call GS (hrL.mono (by decide)) (by rfl) gSc kSc bSc .nil (passes_call (takes_of rfl rfl rfl rfl) fun _ _ _ _ h => h) (pa_cons (pe_tup (pa_cons pe_int pa_nil)) (pa_cons (pv 3) (pa_cons pe_int pa_nil)))))) (pa_cons (pe_glob (v := .ref CW) (by rfl) XW.glob rfl) pa_nil))))) (pss_one (ps_ret pe_bl)) pss_nil)
      (pss_one (ps_ret (pe_callB (show CallR _ (.builtin "isinstance") (rIs0 K) from call_is0) (by rfl) mi PyProof.Rows.boot_isinstance (pa_cons (pe_lamcall (T := T) (TT := TCaught K CS) (k := 9) (by rfl) gC FC.kp lkC hcC bC scCa rfl (.inl rfl) (caught_gives gS) TB rfl hT1 hT2 hr (lamS_by (by show lamSB (defScope sRf) _ = true; decide +kernel)) (by rfl) (fun _ _ _ _ _ => rfl) (fun A outer s H E f c' hrL => (pe_call GS (hrL.mono (by decide)) (by rfl) gSc kSc bSc .nil (passes_call (takes_of rfl rfl rfl rfl) fun _ _ _ _ h => h) (pa_cons (pe_tup (pa_cons pe_int pa_nil)) (pa_cons pe_int (pa_cons (pe_call GP (hrL.mono (by decide)) (by rfl) gP kP bP .nil pass0 (pa_cons (pv 0) (pa_cons (pe_lst (pa_cons pe_int (pa_cons (pe_un un_neg pe_int) (pa_cons pe_non (pa_cons pe_bl pa_nil))))) pa_nil))) pa_nil)))))) (pa_cons (pe_glob (v := .ref CC) (by rfl) XC.glob rfl) pa_nil))))))) ?tail)) ?loop)))))), ?_⟩
    case tail =>
      rintro D0 σ H ⟨d, l, c, se, wi, sc, si, y1, y6, y7, rfl, R, q⟩
      have ps_no : ∀ (C : Addr) (vs : List V) (G : Hp) (Q : VK) (E : XK), (∃ v u y wv wu wy, vs = [v, u, y] ∧ Is G v wv ∧ Is G u wu ∧ Is G y wy ∧ ((seatsW wv = false ∧ C = CS0) ∨ (seatsW wv = true ∧ withinW 1 6 wu = false ∧ C = CW) ∨ (seatsW wv = true ∧ withinW 1 6 wu = true ∧ withinW 0 4 wy = false ∧ C = CC))) → (∀ H', Same G H' → E (.ref C) none H') → spOr (spPsE CS0 CW CC) spPsG (vs ++ []) G Q E := by
        rintro C vs G Q E ⟨v, u, y, wv, wu, wy, rfl, i1, i2, i3, h⟩ qe
        refine .inl ⟨v, u, y, wv, wu, wy, rfl, i1, i2, i3, ?_⟩
        rcases h with ⟨h, rfl⟩ | ⟨h1, h2, rfl⟩ | ⟨h1, h2, h3, rfl⟩
        · exact .inl ⟨h, qe⟩
        · exact .inr (.inl ⟨h1, h2, qe⟩)
        · exact .inr (.inr ⟨h1, h2, h3, qe⟩)
      obtain ⟨use, ise, pse⟩ := R.se
      obtain ⟨uwi, iwi, pwi⟩ := R.wi
      have is9 : ∀ {G : Hp} {t : Addr}, G t = some (.tup [.int 9]) → Is G (.ref t) (.tup [.int 9]) := fun e => .tup (by show 1 ≤ 900; omega) (.inl e) (.cons (.int 9) .nil)
      have size1 : (1 : Nat) ≤ sizeLine := by rw [sizeLine_eq]; omega
      refine lam_no (C := CS0) R.T X0.xm (fun Ga ea Ta E2 Q2 qe => ⟨_, rfl, _, rfl, ps_no CS0 _ Ga _ _ ⟨se, wi, .int 5, use, uwi, .int 5, rfl, ise.same (ext_cut2 cut_le ea), iwi.same (ext_cut2 cut_le ea), .int 5, .inl ⟨pse, rfl⟩⟩ qe⟩) fun a1 G1 e1 T1 qa1 => ?_
      refine ⟨a1, CS0, .ref CS0, .ref CS0, true, rfl, qa1, X0.is, .own CS0, k0, _, rfl, iteF ?_⟩
      refine lam_no (C := CW) T1 XW.xm (fun Ga ea Ta E2 Q2 qe => ⟨size1, fun t nt => ⟨_, rfl, ps_no CW _ _ _ _ ⟨.ref t, wi, .int 5, .tup [.int 9], uwi, .int 5, rfl, is9 upd_same, (iwi.same (ext_cut2 cut_le (e1.trans ea))).same (same_new nt), .int 5, .inr (.inl ⟨by decide +kernel, pwi, rfl⟩)⟩ fun H' s' => qe H' ((same_new nt).trans s')⟩⟩) fun a2 G2 e2 T2 qa2 => ?_
      refine ⟨a2, CW, .ref CW, .ref CW, true, rfl, qa2, XW.is, .own CW, kW, _, rfl, iteF ?_⟩
      have D2 := (R.D.extN e1).extN e2
      refine ⟨T2, fun Ga ea Ta => ⟨size1, fun t nt => ?_⟩⟩
      have Da := D2.extN ea
      have offt := Da.off nt
      refine pick_mk (σ := [some (.ref d), y1, some se, some wi, some sc, some si, y6, y7]) (us := [.int 5, .int (-1), .non, .bl true]) (mkN_cons (mkN_con fun _ => .int _) (mkN_cons mkN_neg (mkN_cons (mkN_con fun _ => .non) (mkN_cons (mkN_con fun _ => .bl _) mkN_nil)))) (by decide) (by show 4 ≤ 900; omega) rfl (Da.new nt) fun y H3 D3 B3 hy => ?_
      obtain ⟨u, hu, pu⟩ := no_all (p := withinW 0 4) (by decide +kernel) hy
      exact ps_no CC _ _ _ _ ⟨.ref t, .int 6, y, .tup [.int 9], .int 6, u, rfl, is9 (B3 _ _ upd_same offt.1 offt.2), .int 6, hu.same cut_le, .inr (.inr ⟨by decide +kernel, by decide, pu, rfl⟩)⟩ fun H' s' => ⟨XC.xm, fun a na => ⟨a, CC, .ref CC, .ref CC, true, rfl, upd_same, XC.is, .own CC, kC, q _⟩⟩
    case loop =>
      rintro D0 σ H ⟨d, l, c, se, wi, sc, si, y1, y6, y7, rfl, R, q⟩
      refine ⟨R.T, fun fL c' H1 eN T1 nb nf hL hc => ⟨by show 2 ≤ sizeLine; rw [sizeLine_eq]; omega, fun lp nlp => ?_⟩⟩
      have D1 := R.D.extN eN
      have D2 : Drw (L2.upd H1 lp (.lst [.ref fU, .ref fL])) d l c := D1.new nlp
      have T2 : Tabs T (L2.upd H1 lp (.lst [.ref fU, .ref fL])) := T1.ext (same_new nlp)
      have s12 : Same H1 (L2.upd H1 lp (.lst [.ref fU, .ref fL])) := same_new nlp
      have elp : (L2.upd H1 lp (.lst [.ref fU, .ref fL])) lp = some (.lst [.ref fU, .ref fL]) := upd_same
      have offl := D1.off nlp
      generalize L2.upd H1 lp (.lst [.ref fU, .ref fL]) = H2 at D2 T2 s12 elp ⊢
      have R2 : RI T d l c H2 se wi sc si := R.to ((ButN.ext eN).cut.trans (But.of s12).cut) D2 T2
      have ext_off : ∀ {b : Addr} {u : HO}, H2 b = some u → (∀ kvs, u ≠ .dK kvs) → (∀ xs, u ≠ .lst xs) → (∀ ps, u ≠ .tbl ps) → cut d l H2 b = some u := fun {b u} e n1 n2 n3 => by
        obtain ⟨⟨r0, t0, hd⟩, ⟨ns0, hl⟩, _, _⟩ := id D2
        exact cut_at e (fun z => by rw [z, hd] at e; exact n1 _ (Option.some.inj e).symm) (fun z => by rw [z, hl] at e; exact n2 _ (Option.some.inj e).symm) n3
      have hL2 : cut d l H2 fL = some (LamO fL (mkL c')) := ext_off (s12 _ _ hL) (fun _ z => by unfold LamO at z; cases z) (fun _ z => by unfold LamO at z; cases z) lamO_ne
      have hc2 : cut d l H2 c' = some (CodeO c' qRf) := ext_off (s12 _ _ hc) (fun _ z => by unfold CodeO at z; cases z) (fun _ z => by unfold CodeO at z; cases z) codeO_ne
      have elp2 : cut d l H2 lp = some (.lst [.ref fU, .ref fL]) := cut_at elp offl.1 offl.2
      obtain ⟨use, ise, pse⟩ := R2.se
      obtain ⟨uwi, iwi, pwi⟩ := R2.wi
      obtain ⟨usc, isc, psc⟩ := R2.sc
      obtain ⟨usi, isi, psi⟩ := R2.si
      refine ⟨lp, rfl, ⟨_, SqL.of elp⟩, for_it (walk_list (K := K) (a := lp) (xs := [.ref fU, .ref fL])) (fun _ σ G => ∃ y6 y7, σ = [some (.ref d), y1, some se, some wi, some sc, some si, y6, y7] ∧ Drw G d l c ∧ Tabs T G ∧ Same (cut d l H2) G) ⟨y6, y7, rfl, D2, T2, cut_le⟩ (fun i σ G _ h => by obtain ⟨_, _, _, _, _, s⟩ := h; exact SqL.of (s _ _ elp2)) ?_ ?_⟩
      · rintro i x σ G G' hi ⟨y6, y7, rfl, Dg, Tg, Sg⟩ ⟨rfl, hx⟩
        have hw : WorkV fU (cut d l H2) x := by
          have mx := List.mem_of_getElem? hx
          simp only [List.mem_cons, List.not_mem_nil, or_false] at mx
          rcases mx with h | h
          · exact .inl h
          · exact .inr ⟨fL, c', h, hL2, hc2⟩
        have size0 : (1 : Nat) ≤ sizeLine := by rw [sizeLine_eq]; omega
        refine lam_no (C := CS0) Tg X0.xm (fun Ga ea Ta E2 Q2 qe => work_no (v := x) rfl (hw.same (ext_cut2 Sg ea)) (fun Q' h => ⟨_, rfl, _, rfl, _, rfl, _, rfl, h _ _ _ _ Ga (Same.refl _) ⟨use, uwi, usc, usi, ise.same (ext_cut2 Sg ea), iwi.same (ext_cut2 Sg ea), isc.same (ext_cut2 Sg ea), isi.same (ext_cut2 Sg ea), .inl ⟨pse, rfl⟩⟩⟩) qe) fun a1 G3 e3 T3 qa1 => ⟨size0, fun el nel => ?_⟩
        have Z : ErS T d l c H2 (L2.upd G3 el (.lst [.ref a1])) el [a1] [CS0] := ⟨(Dg.extN e3).new nel, T3.ext (same_new nel), (ext_cut2 Sg e3).trans (same_new nel), upd_same, ⟨G3, Dg.extN e3, nel⟩, none_back (ext_cut2 Sg e3) nel, .cons (same_new nel _ _ qa1) .nil⟩
        generalize L2.upd G3 el (.lst [.ref a1]) = G4 at Z ⊢
        refine ⟨_, rfl, .inl ⟨rfl, _, SqL.of Z.e⟩, lam_no (C := CW) Z.T XW.xm (fun Ga ea Ta E2 Q2 qe => work_no (v := x) rfl (hw.same (ext_cut2 Z.S ea)) (fun Q' h => ⟨by show 2 ≤ sizeLine; rw [sizeLine_eq]; omega, fun t nt => ⟨_, rfl, _, rfl, _, rfl, h _ _ _ _ _ (same_new nt) ⟨.tup [.int 1, .int 2], uwi, usc, usi, is12 upd_same, (iwi.same (ext_cut2 Z.S ea)).same (same_new nt), (isc.same (ext_cut2 Z.S ea)).same (same_new nt), (isi.same (ext_cut2 Z.S ea)).same (same_new nt), .inr (.inl ⟨by decide +kernel, pwi, rfl⟩)⟩⟩⟩) qe) fun a2 G5 e5 T5 qa2 => ?_⟩
        obtain ⟨el5, Z5⟩ := Z.step e5 T5 qa2
        refine ⟨el, _, _, rfl, rfl, el5, by show 1 < sizeLine; rw [sizeLine_eq]; omega, ?_⟩
        generalize L2.upd G5 el (.lst ([a1].map V.ref ++ [.ref a2])) = G6 at Z5 ⊢
        refine ⟨_, rfl, .inl ⟨rfl, _, SqL.of Z5.e⟩, lam_no (C := CM) Z5.T XM.xm (fun Ga ea Ta E2 Q2 qe => work_no (v := x) rfl (hw.same (ext_cut2 Z5.S ea)) (fun Q' h => ⟨by show 2 ≤ sizeLine; rw [sizeLine_eq]; omega, fun t nt => ⟨_, rfl, _, rfl, h _ _ _ _ _ (same_new nt) ⟨.tup [.int 1, .int 2], .int 1, usc, usi, is12 upd_same, .int 1, (isc.same (ext_cut2 Z5.S ea)).same (same_new nt), (isi.same (ext_cut2 Z5.S ea)).same (same_new nt), .inr (.inr (.inl ⟨by decide +kernel, by decide, psc, rfl⟩))⟩⟩⟩) qe) fun a3 G7 e7 T7 qa3 => ?_⟩
        obtain ⟨el7, Z7⟩ := Z5.step e7 T7 qa3
        refine ⟨el, _, _, rfl, rfl, el7, by show 2 < sizeLine; rw [sizeLine_eq]; omega, ?_⟩
        generalize L2.upd G7 el (.lst (([a1] ++ [a2]).map V.ref ++ [.ref a3])) = G8 at Z7 ⊢
        refine ⟨_, rfl, .inl ⟨rfl, _, SqL.of Z7.e⟩, lam_no (C := CC) Z7.T XC.xm (fun Ga ea Ta E2 Q2 qe => work_no (v := x) rfl (hw.same (ext_cut2 Z7.S ea)) (fun Q' h => ⟨by show 2 ≤ sizeLine; rw [sizeLine_eq]; omega, fun t nt => ⟨by show 2 ≤ sizeLine; rw [sizeLine_eq]; omega, fun t2 nt2 => ⟨by show 1 ≤ sizeLine; rw [sizeLine_eq]; omega, fun l2 nl2 => ⟨_, rfl, h _ _ _ _ _ (((same_new nt).trans (same_new nt2)).trans (same_new nl2)) ⟨.tup [.int 1, .int 2], .int 1, .lst [.tup [.int 1, .int 2]], usi, is12 (same_new nl2 _ _ (same_new nt2 _ _ upd_same)), .int 1, .lst (by show 1 ≤ 900; omega) upd_same (.cons (is12 (same_new nl2 _ _ upd_same)) .nil), (isi.same (ext_cut2 Z7.S ea)).same (((same_new nt).trans (same_new nt2)).trans (same_new nl2)), .inr (.inr (.inr ⟨by decide +kernel, by decide, by decide +kernel, psi, rfl⟩))⟩⟩⟩⟩⟩) qe) fun a4 G9 e9 T9 qa4 => ?_⟩
        obtain ⟨el9, Z9⟩ := Z7.step e9 T9 qa4
        refine ⟨el, _, _, rfl, rfl, el9, by show 3 < sizeLine; rw [sizeLine_eq]; omega, ?_⟩
        generalize L2.upd G9 el (.lst ((([a1] ++ [a2]) ++ [a3]).map V.ref ++ [.ref a4])) = GA at Z9 ⊢
        have e4 : GA el = some (.lst [.ref a1, .ref a2, .ref a3, .ref a4]) := Z9.e
        obtain ⟨q1, q2, q3, q4⟩ : QA0 GA a1 CS0 ∧ QA0 GA a2 CW ∧ QA0 GA a3 CM ∧ QA0 GA a4 CC := by
          have z := Z9.x
          cases z with
          | cons z1 z => cases z with
            | cons z2 z => cases z with
              | cons z3 z => cases z with
                | cons z4 z => exact ⟨z1, z2, z3, z4⟩
        refine ⟨_, rfl, el, _, 0, .ref a1, rfl, rfl, SqL.of e4, at_of (j := 0) rfl rfl, a1, CS0, .ref CS0, .ref CS0, true, rfl, q1, X0.is, .own CS0, k0, _, rfl, ?_⟩
        refine iteF ⟨_, rfl, el, _, 1, .ref a2, rfl, rfl, SqL.of e4, at_of (j := 1) rfl rfl, a2, CW, .ref CW, .ref CW, true, rfl, q2, XW.is, .own CW, kW, _, rfl, ?_⟩
        refine iteF ?_
        refine ⟨_, rfl, el, _, 2, .ref a3, rfl, rfl, SqL.of e4, at_of (j := 2) rfl rfl, a3, CM, .ref CM, .ref CM, true, rfl, q3, XM.is, .own CM, kM, _, rfl, ?_⟩
        refine iteF ⟨_, rfl, el, _, 3, .ref a4, rfl, rfl, SqL.of e4, at_of (j := 3) rfl rfl, a4, CC, .ref CC, .ref CC, true, rfl, q4, XC.is, .own CC, kC, _, rfl, ?_⟩
        refine iteF ?_
        exact ⟨_, _, rfl, Z9.D, Z9.T, Z9.S⟩
      · rintro σ G ⟨y6, y7, rfl, Dg, Tg, Sg⟩
        exact ⟨d, l, c, se, wi, sc, si, _, _, _, rfl, R2.to (cut_cut Sg) Dg Tg, q⟩
    dsimp only [tSeq]
    dsimp only [tAsg]
    refine lay_lstN (σ := L2.start NRf [.ref d]) (us := oddU) (mkN_cons (mkN_con fun _ => .non) (mkN_cons (mkN_tup mkN_nil (by show 0 ≤ 900; omega)) (mkN_cons (mkN_lst (mkN_cons (mkN_con fun _ => .int _) (mkN_cons (mkN_con fun _ => .int _) mkN_nil)) (by show 2 ≤ 900; omega)) (mkN_cons (mkN_tup (mkN_cons (mkN_con fun _ => .int _) (mkN_cons (mkN_con fun _ => .int _) mkN_nil)) (by show 2 ≤ 900; omega)) (mkN_cons (mkN_tup (mkN_cons (mkN_con fun _ => .int _) (mkN_cons (mkN_con fun _ => .int _) mkN_nil)) (by show 2 ≤ 900; omega)) (mkN_cons (mkN_tup (mkN_cons (mkN_con fun _ => .int _) (mkN_cons (mkN_con fun _ => .int _) mkN_nil)) (by show 2 ≤ 900; omega)) (mkN_cons (mkN_tup (mkN_cons (mkN_con fun _ => .int _) (mkN_cons (mkN_con fun _ => .int _) mkN_nil)) (by show 2 ≤ 900; omega)) (mkN_cons (mkN_tup (mkN_cons (mkN_con fun _ => .bl _) (mkN_cons (mkN_con fun _ => .int _) mkN_nil)) (by show 2 ≤ 900; omega)) (mkN_cons (mkN_tup (mkN_cons (mkN_con fun _ => .str "a" (by decide +kernel) (by decide +kernel)) mkN_nil) (by show 1 ≤ 900; omega)) (mkN_cons (mkN_tup (mkN_cons (mkN_con fun _ => .int _) (mkN_cons (mkN_con fun _ => .int _) (mkN_cons (mkN_con fun _ => .int _) (mkN_cons (mkN_con fun _ => .int _) (mkN_cons (mkN_con fun _ => .int _) (mkN_cons (mkN_con fun _ => .int _) (mkN_cons (mkN_con fun _ => .int _) (mkN_cons (mkN_con fun _ => .int _) (mkN_cons (mkN_con fun _ => .int _) mkN_nil))))))))) (by show 9 ≤ 900; omega)) mkN_nil)))))))))) (by show 10 ≤ 900; omega) fun e1 xs H1 s1 i1 ee ne lx => ?_
    have D1 := D.same s1
    have T1 := hT.ext s1
    have off1 := D.off ne
    refine ⟨_, rfl, _, rfl, d, l, c, e1, xs, rfl, D1, ee, off1.2, by rw [lx]; decide, by rw [lx]; show 10 ≤ 1000; omega, fun k1 se H2 hk1 D2 B2 => ?_⟩
    have hse := no_all oddU_no (isall_mem ((i1 _ (news_cut D)).same B2.cut) (List.mem_of_getElem? hk1))
    have T2 := tabs_but T1 D1 B2
    refine pick_mk (σ := [some (.ref d), some (.ref e1), some se, none, none, none, none, none]) (us := widU) (mkN_cons (mkN_con fun _ => .int _) (mkN_cons (mkN_con fun _ => .int _) (mkN_cons (mkN_con fun _ => .non) (mkN_cons (mkN_con fun _ => .bl _) (mkN_cons (mkN_con fun _ => .str "1" (by decide +kernel) (by decide +kernel)) (mkN_cons mkN_neg mkN_nil)))))) (by decide) (by show 6 ≤ 900; omega) rfl D2 fun wi H3 D3 B3 hwi => ?_
    have T3 := tabs_but T2 D2 B3
    refine pick_mk (σ := [some (.ref d), some (.ref e1), some se, some wi, none, none, none, none]) (us := schU) (mkN_cons (mkN_con fun _ => .non) (mkN_cons (mkN_con fun _ => .int _) (mkN_cons (mkN_lst (mkN_cons (mkN_tup (mkN_cons (mkN_con fun _ => .int _) mkN_nil) (by show 1 ≤ 900; omega)) mkN_nil) (by show 1 ≤ 900; omega)) (mkN_cons (mkN_lst (mkN_cons (mkN_lst (mkN_cons (mkN_con fun _ => .int _) (mkN_cons (mkN_con fun _ => .int _) mkN_nil)) (by show 2 ≤ 900; omega)) mkN_nil) (by show 1 ≤ 900; omega)) (mkN_cons (mkN_lst (mkN_cons (mkN_tup (mkN_cons (mkN_con fun _ => .int _) (mkN_cons (mkN_con fun _ => .bl _) mkN_nil)) (by show 2 ≤ 900; omega)) mkN_nil) (by show 1 ≤ 900; omega)) (mkN_cons (mkN_lst (mkN_cons (mkN_tup (mkN_cons (mkN_con fun _ => .int _) (mkN_cons (mkN_con fun _ => .int _) mkN_nil)) (by show 2 ≤ 900; omega)) (mkN_cons (mkN_tup mkN_nil (by show 0 ≤ 900; omega)) mkN_nil)) (by show 2 ≤ 900; omega)) (mkN_cons (mkN_rep (n := 25) (mkN_tup (mkN_cons (mkN_con fun _ => .int _) (mkN_cons (mkN_con fun _ => .int _) mkN_nil)) (by show 2 ≤ 900; omega)) (by show 25 ≤ 900; omega)) (mkN_cons mkN_dict mkN_nil)))))))) (by decide) (by show 8 ≤ 900; omega) rfl D3 fun sc H4 D4 B4 hsc => ?_
    have T4 := tabs_but T3 D3 B4
    refine pick_mk (σ := [some (.ref d), some (.ref e1), some se, some wi, some sc, none, none, none]) (us := silU) (mkN_cons mkN_neg (mkN_cons (mkN_con fun _ => .int _) (mkN_cons (mkN_con fun _ => .non) (mkN_cons (mkN_con fun _ => .bl _) (mkN_cons (mkN_con fun _ => .str "1" (by decide +kernel) (by decide +kernel)) mkN_nil))))) (by decide) (by show 5 ≤ 900; omega) rfl D4 fun si H5 D5 B5 hsi => ?_
    have T5 := tabs_but T4 D4 B5
    have up : ∀ {p : W → Bool} {x : V} {G G' : Hp}, Same G G' → (∃ u, Is G x u ∧ p u = false) → ∃ u, Is G' x u ∧ p u = false := fun s ⟨u, h1, h2⟩ => ⟨u, h1.same s, h2⟩
    exact ⟨d, l, c, se, wi, sc, si, _, _, _, rfl, ⟨D5, T5, up ((B3.trans B4).trans B5).cut hse, up (B4.trans B5).cut (no_all widU_no hwi), up B5.cut (no_all schU_no hsc), no_all silU_no hsi⟩, q⟩
end
end Kn
-- part VLaA
set_option maxHeartbeats 4000000
/-! What the law's schemes bear: powers as many as checks; fewer rows than numbers never. -/
namespace Kn
open PySem PySem.Spec PyProof.Rows L2 La
theorem schOk_of {ss : List Int} {w k : Nat} {rows : List (List Int)} (asc : ascB ss = true) (rg : ∀ s ∈ ss, 1 ≤ s ∧ s ≤ 9) (n1 : 1 ≤ ss.length) (n8 : ss.length ≤ 8) (w1 : 1 ≤ w) (w6 : w ≤ 6) (sz : ss.length * w ≤ 45) (g : SchG (ss.length * w) rows) (kn : k ≤ ss.length) : SchOk ss w k rows 10 67 7 :=
  ⟨asc, rg, n1, n8, w1, w6, sz, g.rl, by have := g.r8; omega, g.bt, g.bt2, by decide, kn, .inl (by have := g.r8; omega), by decide +kernel⟩
theorem psRow_at {w p pl m : Nat} (hm : m < w) : ∀ {ss : List Int} {i : Nat}, i < ss.length → (psRow ss w p pl).getD (i * w + m) 0 = if m = pl then (ss.getD i 0) ^ p else 0
  | [], _, h => absurd h (Nat.not_lt_zero _)
  | s :: ss, 0, _ => by
    show (((List.range w).map fun a => if a = pl then s ^ p else 0) ++ psRow ss w p pl).getD (0 * w + m) 0 = _
    rw [Nat.zero_mul, Nat.zero_add, List.getD_eq_getElem?_getD, List.getElem?_append_left (by rw [List.length_map, List.length_range]; exact hm), List.getElem?_map, List.getElem?_range hm]
    rfl
  | s :: ss, i + 1, h => by
    have ih := psRow_at (p := p) (pl := pl) hm (ss := ss) (i := i) (by simpa using h)
    show (((List.range w).map fun a => if a = pl then s ^ p else 0) ++ psRow ss w p pl).getD ((i + 1) * w + m) 0 = _
    rw [List.getD_eq_getElem?_getD, List.getElem?_append_right (by rw [List.length_map, List.length_range, Nat.succ_mul]; omega), List.length_map, List.length_range, show (i + 1) * w + m - w = i * w + m by rw [Nat.succ_mul]; omega, ← List.getD_eq_getElem?_getD, ih]
    rfl
theorem dot_pl {w pl : Nat} (hp : pl < w) {g h : Nat → Int} : ∀ {is : List Nat} {y : Nat → Int}, (∀ i ∈ is, ∀ m, m < w → g (i * w + m) = if m = pl then h i else 0) → dotN ((plF w is).map g) y = dotN (is.map h) fun j => y (j * w + pl)
  | [], _, _ => rfl
  | i :: is, y, hg => by
    have ih := dot_pl hp (g := g) (h := h) (is := is) (y := fun k => y (w + k)) fun j hj => hg j (List.mem_cons_of_mem _ hj)
    show dotN ((((List.range w).map fun m => i * w + m) ++ plF w is).map g) y = h i * y (0 * w + pl) + dotN (is.map h) fun j => y ((j + 1) * w + pl)
    rw [List.map_append, dot_app, List.length_map, List.length_map, List.length_range, ih]
    have e1 : dotN (((List.range w).map fun m => i * w + m).map g) y = h i * y (0 * w + pl) := by
      have at_ : ∀ k, k < w → (((List.range w).map fun m => i * w + m).map g).getD k 0 = if k = pl then h i else 0 := fun k hk => by
        rw [List.getD_eq_getElem?_getD, List.getElem?_map, List.getElem?_map, List.getElem?_range hk]
        exact hg i (List.mem_cons_self ..) k hk
      rw [dot_one (i := pl) (by rw [List.length_map, List.length_map, List.length_range]; exact hp) fun k hk ne => by
        rw [List.length_map, List.length_map, List.length_range] at hk
        rw [at_ k hk, if_neg ne, Int.zero_mul], at_ pl hp, if_pos rfl, Nat.zero_mul, Nat.zero_add]
    rw [e1]
    congr 1
    exact dot_ext fun k _ => by rw [Nat.succ_mul, Nat.add_comm (k * w) w, Nat.add_assoc]
/-- powers bear as many as there are checks -/
theorem powers_bear {ss : List Int} {w k n m m2 kM : Nat} (ok : SchOk ss w k (psF ss w n) m m2 kM) (kn : k ≤ n) (n4 : n ≤ 4) : ubF ss w k (psF ss w n) = none := by
  cases e : ubF ss w k (psF ss w n) with
  | none => rfl
  | some cn =>
    obtain ⟨c, ns⟩ := cn
    obtain ⟨hc, ln, ⟨i, hi, hn⟩, hd⟩ := ub_pair ok e
    obtain ⟨sub, lk⟩ := mem_combs.mp hc
    have nd := asc_nodup ok.asc
    have w1 := ok.w1
    have pl : i % w < w := Nat.mod_lt _ (by omega)
    have dm : i / w * w + i % w = i := by rw [Nat.mul_comm]; exact Nat.div_add_mod i w
    have el : (lostI ss c).map (fun i => ss.getD i 0) = c := by rw [lostI_map, filter_sub sub nd]
    have z := vand (ss := c) (ps := List.range k) (v := fun j => ns.getD (j * w + i % w) 0) ((asc_pair ok.asc).sublist sub) (fun s hs => ok.rg s (sub.subset hs)) (List.range_sublist.mpr (show k ≤ 4 by omega)) (by rw [List.length_range]; exact lk) (fun r hr => by
      obtain ⟨p, hp, rfl⟩ := List.mem_map.mp hr
      have hp := List.mem_range.mp hp
      have mem : psRow ss w p (i % w) ∈ psF ss w n := List.mem_flatMap.mpr ⟨p, List.mem_range.mpr (by omega), List.mem_map.mpr ⟨i % w, List.mem_range.mpr pl, rfl⟩⟩
      have y := hd _ (List.mem_map.mpr ⟨_, mem, rfl⟩)
      rw [dot_pl pl (is := lostI ss c) (g := fun q => (psRow ss w p (i % w)).getD q 0) (h := fun j => (ss.getD j 0) ^ p) fun j hj m hm => psRow_at hm (List.mem_range.mp (List.mem_filter.mp hj).1)] at y
      have e2 : (lostI ss c).map (fun j => (ss.getD j 0) ^ p) = c.map fun s => s ^ p := by
        conv => rhs; rw [← el]
        rw [List.map_map]
        rfl
      rw [e2] at y
      exact y) (i / w) (by
        rw [lk]
        exact (Nat.div_lt_iff_lt_mul (by omega)).mpr hi)
    have z : ns.getD (i / w * w + i % w) 0 = 0 := z
    rw [dm] at z
    exact absurd z hn
/-- fewer rows than numbers: some are not seen -/
theorem few_rows {ss : List Int} {w k m m2 kM : Nat} {rows : List (List Int)} (ok : SchOk ss w k rows m m2 kM) (h : rows.length < k * w) : (ubF ss w k rows).isSome = true := by
  unfold ubF
  rw [List.findSome?_isSome_iff]
  have hc : ss.take k ∈ combsL ss k := mem_combs.mpr ⟨List.take_sublist .., by rw [List.length_take]; exact Nat.min_eq_left ok.kn⟩
  refine ⟨_, hc, ?_⟩
  rw [Option.isSome_map]
  have rb := ok.rw_ hc
  have lsh : (sharesF ss (ss.take k) w rows).length = rows.length := List.length_map ..
  obtain ⟨_, _, t3, _⟩ := takes_ok rb (sharesF ss (ss.take k) w rows).length (Nat.le_refl _)
  rw [List.take_length, lsh] at t3
  unfold seeF unseenF
  cases e : freeP (k * w) (takesF (sharesF ss (ss.take k) w rows)) with
  | cons a l => rfl
  | nil =>
    exfalso
    have cov : List.range (k * w) ⊆ (takesF (sharesF ss (ss.take k) w rows)).map (·.1) := fun p hp => by
      apply Classical.byContradiction
      intro c
      have mf : p ∈ freeP (k * w) (takesF (sharesF ss (ss.take k) w rows)) := by
        unfold freeP
        exact List.mem_filter.mpr ⟨hp, decide_eq_true c⟩
      rw [e] at mf
      cases mf
    have z := (List.nodup_range (n := k * w)).length_le_of_subset cov
    rw [List.length_range, List.length_map] at z
    omega
end Kn
-- part VRw
set_option maxHeartbeats 4000000
/-! Lists of rows as data: equal ones. -/
namespace Kn
open PySem PySem.Spec PyProof.Rows L2 La
theorem dp_ints' {K : PySem.W.Frag} {H : Hp} : ∀ ns : List Int, DpAll K H (ns.map V.int) (ns.map PyData.int)
  | [] => .nil
  | n :: ns => .cons (.int n) (dp_ints' ns)
theorem depth_ints : ∀ a : List Int, PyData.depthAll (a.map PyData.int) = 0
  | [] => rfl
  | x :: a => by
    have e : PyData.depthAll ((x :: a).map PyData.int) = max (PyData.int x).depth (PyData.depthAll (a.map PyData.int)) := rfl
    rw [e, depth_ints a]
    rfl
/-! ### lists of rows, as data -/
def rowsD (ls : List (List Int)) : PyData := .list (ls.map fun r => .tuple (r.map PyData.int))
theorem rows_dpa {K : PySem.W.Frag} {H : Hp} : ∀ {vs : List V} {ls : List (List Int)}, RowsL H vs ls → DpAll K H vs (ls.map fun r => PyData.tuple (r.map PyData.int))
  | [], [], _ => .nil
  | [], _ :: _, h => absurd h.1 (by simp)
  | _ :: _, [], h => absurd h.1 (by simp)
  | v :: vs, l :: ls, h => by
    obtain ⟨ns, e, a, rfl, r, z⟩ := h.2 0 v rfl
    cases e
    exact .cons (.tup (.inl r) (dp_ints' _)) (rows_dpa ⟨Nat.succ.inj h.1, fun i x hx => h.2 (i + 1) x hx⟩)
theorem rows_dp {K : PySem.W.Frag} {H : Hp} {a : Addr} {vs : List V} {ls : List (List Int)} (e : H a = some (.lst vs)) (h : RowsL H vs ls) : Dp K H (.ref a) (rowsD ls) := .lst (SqL.of e) (rows_dpa h)
theorem lay_ints : ∀ ns : List Int, PyData.canLayAll0 (ns.map PyData.int) = true
  | [] => rfl
  | n :: ns => by
    show (PyData.canLay0 (.int n) && PyData.canLayAll0 (ns.map PyData.int)) = true
    rw [lay_ints ns]
    rfl
theorem rows_lay : ∀ ls : List (List Int), PyData.canLayAll0 (ls.map fun r => PyData.tuple (r.map PyData.int)) = true ∧ PyData.depthAll (ls.map fun r => PyData.tuple (r.map PyData.int)) ≤ 2
  | [] => ⟨rfl, Nat.zero_le _⟩
  | r :: ls => by
    obtain ⟨h1, h2⟩ := rows_lay ls
    refine ⟨?_, ?_⟩
    · show (PyData.canLay0 (.tuple (r.map PyData.int)) && PyData.canLayAll0 (ls.map fun r => PyData.tuple (r.map PyData.int))) = true
      rw [h1, Bool.and_true]
      show PyData.canLayAll0 (r.map PyData.int) = true
      exact lay_ints r
    · have e := depth_ints r
      rw [List.map_cons]
      simp only [PyData.depthAll, PyData.depth]
      omega
theorem rows_shaped (ls : List (List Int)) : SeqAt.shaped (rowsD ls) = true := by
  obtain ⟨h1, h2⟩ := rows_lay ls
  unfold SeqAt.shaped
  rw [Bool.and_eq_true]
  refine ⟨h1, decide_eq_true ?_⟩
  unfold rowsD
  simp only [PyData.depth]
  omega
/-- equal lists of rows -/
theorem rows_ne {K : PySem.W.Frag} {H : Hp} {a b : Addr} {vs us : List V} {ls : List (List Int)} {Q : VK} (e1 : H a = some (.lst vs)) (h1 : RowsL H vs ls) (e2 : H b = some (.lst us)) (h2 : RowsL H us ls) (q : Q (.bl false) H) : rNeD K (.ref a) (.ref b) H Q := by
  refine ⟨rowsD ls, rowsD ls, rows_dp e1 h1, rows_dp e2 h2, rows_shaped ls, rows_shaped ls, ?_⟩
  rw [SeqAt.eqv_refl _ (SeqAt.canLay_of_shaped (rows_shaped ls))]
  exact q
def pairD (c ns : List Int) : PyData := .tuple [.tuple (c.map PyData.int), .tuple (ns.map PyData.int)]
theorem pair_dp {K : PySem.W.Frag} {H : Hp} {t a b : Addr} {c ns : List Int} (e : H t = some (.tup [.ref a, .ref b])) (ea : H a = some (.tup (vI c))) (eb : H b = some (.tup (vI ns))) : Dp K H (.ref t) (pairD c ns) :=
  .tup (.inl (.inl e)) (.cons (.tup (.inl (.inl ea)) (dp_ints' c)) (.cons (.tup (.inl (.inl eb)) (dp_ints' ns)) .nil))
theorem pair_shaped (c ns : List Int) : SeqAt.shaped (pairD c ns) = true := by
  obtain ⟨h1, h2⟩ := rows_lay [c, ns]
  unfold SeqAt.shaped
  rw [Bool.and_eq_true]
  refine ⟨h1, decide_eq_true ?_⟩
  unfold pairD
  simp only [PyData.depth]
  simp only [List.map_cons, List.map_nil] at h2
  omega
/-- the same pair twice, or None twice -/
theorem pair_ne {K : PySem.W.Frag} {H : Hp} {x y : V} {o : Option (List Int × List Int)} {Q : VK} (hx : ∀ H', Same H H' → match o with | none => x = .non | some (c, ns) => ∃ t a b, x = .ref t ∧ H' t = some (.tup [.ref a, .ref b]) ∧ H' a = some (.tup (vI c)) ∧ H' b = some (.tup (vI ns)))
    (hy : match o with | none => y = .non | some (c, ns) => ∃ t a b, y = .ref t ∧ H t = some (.tup [.ref a, .ref b]) ∧ H a = some (.tup (vI c)) ∧ H b = some (.tup (vI ns))) (q : Q (.bl false) H) : rNeD K x y H Q := by
  have hx := hx H (Same.refl _)
  cases o with
  | none =>
    subst hx hy
    refine ⟨.none, .none, .non, .non, by decide +kernel, by decide +kernel, ?_⟩
    exact q
  | some cn =>
    obtain ⟨c, ns⟩ := cn
    obtain ⟨t, a, b, rfl, e1, e2, e3⟩ := hx
    obtain ⟨t2, a2, b2, rfl, f1, f2, f3⟩ := hy
    refine ⟨pairD c ns, pairD c ns, pair_dp e1 e2 e3, pair_dp f1 f2 f3, pair_shaped c ns, pair_shaped c ns, ?_⟩
    rw [SeqAt.eqv_refl _ (SeqAt.canLay_of_shaped (pair_shaped c ns))]
    exact q
end Kn
-- part VLw
set_option maxHeartbeats 8000000
/-! _law_powers. -/
namespace Kn
open PySem PySem.Spec PyProof.Rows L2 La
abbrev sLw : Stmt := topS 51
abbrev NLw : List Str := ["_law_seats", "_law_width", "_law_count", "_law_found", "_law_index", "_law_at_here", "_law_row", "_law_seat", "_law_place"]
theorem scLw : FnScope NLw ["_law_seats", "_law_width", "_law_count"] (defScope sLw) := ⟨rfl, rfl, rfl, by decide +kernel, rfl, by decide +kernel, by decide +kernel⟩
def spLw : Sp := fun vs H Q _ => ∃ sa ss, ∃ w n : Nat, vs = [.ref sa, .int w, .int n] ∧ Row H (.ref sa) ss ∧ (∀ s ∈ ss, 1 ≤ s ∧ s ≤ 9) ∧ w ≤ 6 ∧ n ≤ 4 ∧ ss.length * w ≤ 45 ∧
  ∀ l vs' H', Same H H' → H l = none → H' l = some (.lst vs') → RowsL H' vs' (psF ss w n) → Q (.ref l) H'
theorem psRow_take {ss : List Int} {w p pl i : Nat} {s : Int} (h : ss[i]? = some s) : psRow (ss.take (i + 1)) w p pl = psRow (ss.take i) w p pl ++ (List.range w).map fun a => if a = pl then s ^ p else 0 := by
  unfold psRow
  rw [List.take_add_one, h, List.flatMap_append]
  show _ ++ (_ ++ []) = _
  rw [List.append_nil]
section
variable {P : Program} {w : World} {K : PySem.W.Frag} {mg : Str → Option Value} {base : Heap}
theorem ok_lw {f fP : Addr} {fd fdP : FuncData} (F : Fun K "_law_powers" "_law_powers" sLw f fd) (GP : FnOk P w K mg base CX0 1 fP fdP ["_law_seat", "_law_index"] spRaised) (kP : PySem.W.keepIn K (.ref fP) = true) (bP : Binds K fdP ["_law_seat", "_law_index"] []) (gP : mg "_law_power" = some (.ref fP))
    (mr : mg "range" = none) (mi : mg "int" = none) (mt : mg "tuple" = none) : FnOk P w K mg base CX0 2 f fd ["_law_seats", "_law_width", "_law_count"] spLw := by
  have S := scLw
  refine F.ok S (fun vs H Q E h => ?_) (fun cdv A outer s H vs Q E hr h => ?_)
  · obtain ⟨sa, ss, w, n, rfl, _⟩ := h
    rfl
  · obtain ⟨sa, ss, wd, n, rfl, hs, rg, w6, n4, l45, q⟩ := h
    refine ⟨_, (pss_cons (ps_set (i := 3) S.nd rfl (.inl rfl) (pe_lst pa_nil))
      (pss_cons (ps_for PassesOwn.never rfl (pi_range1 (by rfl) mr (pa_cons (pv 2) pa_nil)) (pg_name (i := 4) S.nd rfl (.inr rfl))
        (pss_one (ps_for PassesOwn.never rfl (pi_range1 (by rfl) mr (pa_cons (pv 1) pa_nil)) (pg_name (i := 5) S.nd rfl (.inr rfl))
          (pss_cons (ps_set (i := 6) S.nd rfl (.inl rfl) (pe_lst pa_nil))
          (pss_cons (ps_for PassesOwn.never rfl (pi_tup (pv 0)) (pg_name (i := 7) S.nd rfl (.inr rfl))
            (pss_one (ps_set (i := 6) S.nd rfl (.inl rfl) (pe_op op_cat (pv 6) (pe_lc (own := [("_law_place", 8)]) (g := gName 8) rfl S.nd (pi_range1 (by rfl) mr (pa_cons (pv 1) pa_nil)) (blkOk_by (N := NLw) (sc := defScope sLw) (by decide +kernel)) (fun _ _ _ _ _ => (pg_name (i := 8) S.nd rfl (.inl rfl))) (fun _ _ _ _ _ => pts_nil) (fun _ _ _ _ _ => (pe_op op_mulW (pe_call GP hr (by rfl) gP kP bP .nil pass0 (pa_cons (pv 7) (pa_cons (pv 4) pa_nil))) (pe_callTy call_int1 (by rfl) mi (by decide +kernel) (pa_cons (pe_cmpR op_eq (pv 8) (pv 5) (nomark _)) pa_nil)))))))))
          (pss_one (ps_expr (pe_bm PySem.F.plainAttrs_list PySem.F.slot_list_append PySem.F.type_list_append mt_append (pv 3) (pa_cons (pe_callTy (show CallR _ (.type "tuple") (rTupA K) from call_tuple_of) (by rfl) mt (by decide +kernel) (pa_cons (pv 6) pa_nil)) pa_nil)))))))))
      (pss_one (ps_ret (pv 3))))), ?_⟩
    obtain ⟨sa', ea, rs, _⟩ := id hs
    cases ea
    have psS : ∀ p, psF ss wd (p + 1) = psF ss wd p ++ (List.range wd).map (psRow ss wd p) := fun p => by
      unfold psF
      rw [List.range_succ, List.flatMap_append]
      show _ ++ (_ ++ []) = _
      rw [List.append_nil]
    have psL : ∀ p, (psF ss wd p).length = p * wd := fun p => by
      induction p with
      | zero => exact (Nat.zero_mul wd).symm
      | succ p ih => rw [psS, List.length_append, ih, List.length_map, List.length_range, Nat.succ_mul]
    refine ⟨by show 0 ≤ sizeLine; omega, fun l nl => ?_⟩
    have s2 : Same H (L2.upd H l (.lst [])) := same_new nl
    have el : (L2.upd H l (.lst [])) l = some (.lst []) := upd_same
    generalize L2.upd H l (.lst []) = H2 at s2 el ⊢
    refine ⟨_, rfl, n, rfl, by omega, by omega, for_range (fun p σ H3 => ∃ y4 y5 y6 y7 vs', σ = [some (.ref sa), some (.int wd), some (.int n), some (.ref l), y4, y5, y6, y7, none] ∧ Same H H3 ∧ H3 l = some (.lst vs') ∧ RowsL H3 vs' (psF ss wd p)) ⟨none, none, none, none, [], rfl, s2, el, rfl, fun i v e => by cases i <;> cases e⟩ ?_ ?_⟩
    · rintro p σ H3 hp ⟨y4, y5, y6, y7, vs', rfl, s3, e3, r3⟩
      have hp : p < n := hp
      rw [Int.zero_add]
      refine ⟨_, rfl, wd, rfl, by omega, by omega, for_range (fun pl σ H4 => ∃ y5 y6 y7 vs', σ = [some (.ref sa), some (.int wd), some (.int n), some (.ref l), some (.int (p : Nat)), y5, y6, y7, none] ∧ Same H H4 ∧ H4 l = some (.lst vs') ∧ RowsL H4 vs' (psF ss wd p ++ (List.range pl).map (psRow ss wd p))) ⟨y5, y6, y7, vs', rfl, s3, e3, by rw [List.range_zero, List.map_nil, List.append_nil]; exact r3⟩ ?_ ?_⟩
      · rintro pl σ H4 hpl ⟨y5', y6', y7', vs2, rfl, s4, e4, r4⟩
        have hpl : pl < wd := hpl
        rw [Int.zero_add]
        refine ⟨by show 0 ≤ sizeLine; omega, fun rl0 nrl => ?_⟩
        have s5 : Same H4 (L2.upd H4 rl0 (.lst [])) := same_new nrl
        have er : (L2.upd H4 rl0 (.lst [])) rl0 = some (.lst []) := upd_same
        generalize L2.upd H4 rl0 (.lst []) = H5 at s5 er ⊢
        refine ⟨_, rfl, sa, rfl, ⟨_, .inl (Rd.same rs (s4.trans s5))⟩, for_it (walk_tup (K := K) (a := sa) (xs := vI ss)) (fun i σ H6 => ∃ rl y7, σ = [some (.ref sa), some (.int wd), some (.int n), some (.ref l), some (.int (p : Nat)), some (.int (pl : Nat)), some (.ref rl), y7, none] ∧ Same H4 H6 ∧ H6 rl = some (.lst (vI (psRow (ss.take i) wd p pl)))) ⟨rl0, y7', rfl, s5, er⟩ (fun i σ H6 _ h => by obtain ⟨_, _, _, s6, _⟩ := h; exact .inl (Rd.same rs (s4.trans s6))) ?_ ?_⟩
        · rintro i x σ H6 H7 hi ⟨rl, y7'', rfl, s6, e6⟩ ⟨rfl, hx⟩
          rw [List.getElem?_map] at hx
          obtain ⟨sv, hsv, rfl⟩ := Option.map_eq_some_iff.mp hx
          have z := rg sv (List.mem_of_getElem? hsv)
          have li := (List.getElem?_eq_some_iff.mp hsv).1
          refine ⟨_, rfl, range_lc (n := wd) (fun a => if a = pl then sv ^ p else 0) (fun R hR => ⟨_, rfl, _, rfl, by omega, by omega, by rw [Int.toNat_natCast]; exact hR⟩) (by omega) (fun a ha H8 s8 R hR => ?_) fun pr H8 s8 npr epr => ?_⟩
          · have big : (sv ^ p).natAbs < 2 ^ 20 := by
              rw [Int.natAbs_pow]
              have h1 : sv.natAbs ≤ 9 := by omega
              have h2 : sv.natAbs ^ p ≤ 9 ^ p := Nat.pow_le_pow_left h1 p
              have h3 : 9 ^ p ≤ 9 ^ 4 := Nat.pow_le_pow_right (by decide) (by omega)
              have h4 : 9 ^ 4 < 2 ^ 20 := by decide
              omega
            refine ⟨_, rfl, _, rfl, sv, p, rfl, by omega, by omega, by omega, _, rfl, _, rfl, rfl, .inr ⟨_, rfl, _, _, rfl, rfl, wide_mul (a := 20) (b := 2) big ?_ (by decide) (by decide) (by decide), ?_⟩⟩
            · split <;> decide
            · by_cases c : a = pl
              · subst c
                rw [if_pos rfl] at hR
                rw [decide_eq_true rfl, if_pos rfl]
                show R (.int (sv ^ p * 1)) H8
                rw [Int.mul_one]
                exact hR
              · rw [if_neg c] at hR
                rw [decide_eq_false (fun z => c (by have y := V.int.inj z; omega)), if_neg Bool.false_ne_true]
                show R (.int (sv ^ p * 0)) H8
                rw [Int.mul_zero]
                exact hR
          · refine ⟨rl, pr, _, _, rfl, rfl, s8 _ _ e6, epr, ?_, fun p2 np2 => ⟨p2, _, rfl, (s6.trans s8).trans (same_new np2), ?_⟩⟩
            · rw [List.length_map, List.length_map, psRow_len, List.length_map, List.length_range, List.length_take]
              have z := Nat.mul_le_mul_right wd (show min i ss.length ≤ ss.length by omega)
              rw [sizeLine_eq]
              omega
            · rw [upd_same, psRow_take hsv]
              unfold vI
              rw [List.map_append]
        · rintro σ H6 ⟨rl, y7'', rfl, s6, e6⟩
          rw [List.length_map, List.take_length] at e6
          refine ⟨_, rfl, .inl ⟨rfl, _, SqL.of (s6 _ _ e4)⟩, _, rfl, rl, _, rfl, .inl ⟨SqL.of e6, fun t2 nt2 => ?_⟩⟩
          have s7 : Same H4 (L2.upd H6 t2 (.tup (vI (psRow ss wd p pl)))) := s6.trans (same_new nt2)
          refine ⟨l, vs2, _, rfl, rfl, s7 _ _ e4, ?_, ?_⟩
          · rw [r4.1, List.length_append, psL, List.length_map, List.length_range]
            have z := Nat.mul_le_mul_right wd (show p ≤ 4 by omega)
            exact small1000 (by omega)
          · refine ⟨_, _, _, _, rfl, same_own nl (s4.trans s7), upd_same, ?_⟩
            rw [List.range_succ, List.map_append, ← List.append_assoc]
            exact rowsL_upd (s7 _ _ e4) ((r4.same s7).snoc ⟨t2, rfl, .inl upd_same, by rw [psRow_len]; exact l45⟩)
      · rintro σ H4 ⟨y5', y6', y7', vs2, rfl, s4, e4, r4⟩
        refine ⟨_, _, _, _, vs2, rfl, s4, e4, ?_⟩
        rw [psS]
        rw [Int.toNat_natCast] at r4
        exact r4
    · rintro σ H3 ⟨y4, y5, y6, y7, vs', rfl, s3, e3, r3⟩
      rw [Int.toNat_natCast] at r3
      exact ⟨_, rfl, q l vs' H3 s3 nl e3 r3⟩
end
end Kn
-- part Gd
set_option maxHeartbeats 4000000
/-! Promises of defs that ask for the text of a value: what runs around them holds no open repr. -/
namespace Gd
open PySem PySem.Spec PyProof.Rows L2
section
variable (P : Program) (w : World) (K : PySem.W.Frag) (mg : Str → Option Value) (base : Heap)
structure FnOkG (CX : CXT) (k : Nat) (f : Addr) (fd : FuncData) (ps : List Str) (sp : Sp) : Prop where
  len : ∀ vs H Q E, sp vs H Q E → vs.length = ps.length
  run : ∀ (A : Around) (outer : List Env) (s : Shared) (H : Hp) (args : Args) (us : List Value) (vs : List V) (Q : VK) (E : XK),
    Room k A → A.guards = some [] → Env0 P w K mg base A outer s H → BindsTo s fd args (ps.zip us) → Vals vs us → sp vs H Q E →
      codeAny (model P w) A (.call (.ref f) args) (CR CX outer P w H s Q E) s
end
section
variable {P : Program} {w : World} {K : PySem.W.Frag} {mg : Str → Option Value} {base : Heap} {CX : CXT} {k j : Nat} {f : Addr} {fd : FuncData} {ps : List Str} {sp : Sp}
theorem FnOkG.of (F : FnOk P w K mg base CX k f fd ps sp) : FnOkG P w K mg base CX k f fd ps sp :=
  ⟨F.len, fun A outer s H args us vs Q E hr _ e0 hb r h => F.run A outer s H args us vs Q E hr e0 hb r h⟩
theorem FnOkG.mono (F : FnOkG P w K mg base CX j f fd ps sp) (h : j ≤ k) : FnOkG P w K mg base CX k f fd ps sp :=
  ⟨F.len, fun A outer s H args us vs Q E hr => F.run A outer s H args us vs Q E (hr.mono h)⟩
theorem okG_of {name qual : Str} {params : Arguments} {body : List Stmt} {scope : Scope} {dV kV doc pm cdv ct oc : Value} {an od : Option Addr} {osl : Array (Option Value)} {N : List Str}
    (lk : K.lookup f = some ⟨oc, od, .func (PySem.W.fnOf name qual params body scope dV kV doc pm an cdv ct), osl⟩) (hcd : PySem.W.codeIn K cdv qual = true)
    (S : FnScope N ps scope) (len : ∀ vs H Q E, sp vs H Q E → vs.length = ps.length)
    (hbody : ∀ (A : Around) (outer : List Env) (s : Shared) (H : Hp) (vs : List V) (Q : VK) (E : XK), Room k (A.deeper (envOfC qual scope s.heap.objs.size f cdv)) → A.guards = some [] → sp vs H Q E →
      ∃ t, PSs (cxOf CX P w K mg base N qual scope f cdv A outer s H E) body t ∧ t { nx := fun _ H' => Q .non H', rt := Q } (start N vs) H) :
    FnOkG P w K mg base CX (k + 1) f (PySem.W.fnOf name qual params body scope dV kV doc pm an cdv ct) ps sp := by
  refine ⟨len, fun A outer s H args us vs Q E hr hg e0 hb r hsp => ?_⟩
  have eql := len _ _ _ _ hsp
  have kin : K.In s.heap := e0.mod.kin.keeps fun b o z => (e0.bs b o z).1
  have lim := e0.mod.nolimit.keeps fun b o z => (e0.bs b o z).1
  have kinds : ∀ y ∈ ps.zip us, scope.names.lookup y.1 = some .local ∨ (scope.names.lookup y.1 = some .cell ∧ ((cellsFrom (s.heap.objs.size + 1) scope.names []).lookup y.1).isSome = true) := by
    rintro ⟨n, v⟩ hy
    rcases S.par n (List.of_mem_zip hy).1 with z | z
    · exact .inl z
    · exact .inr ⟨z, PySem.W.cellsFrom_some _ _ _ (.inl z)⟩
  refine codeAny_call_function hr.depth (kin _ _ lk) rfl S.co S.gen rfl (PySem.W.codeRec_of kin hcd) (hb _ _ _ _ ?_)
  refine wpAny_newFunctionEnv_cells S.kind kinds fun env he s1 x => ?_
  subst he
  refine ⟨lim.keeps x.toInCall.keep, codeAny_func ?_⟩
  obtain ⟨t, ht, hq⟩ := hbody A outer s H vs Q E (hr.deeper _) hg hsp
  have I : Inv (cxOf CX P w K mg base N qual scope f cdv A outer s H E) [] (start N vs) H s1 := inv_start S hr.hd e0 eql r x
  refine wpAny_mono (ht.run [] s1 (start N vs) H _ I hq) (fun fl s' hs => ?_) fun _ _ z => z
  cases fl with
  | next =>
    obtain ⟨σ', H', J, q⟩ := hs
    exact ⟨.non, H', J.os, J.bare, J.base, J.hok, rfl, q⟩
  | ret u =>
    obtain ⟨v, σ', H', J, rv, q⟩ := hs
    exact ⟨v, H', J.os, J.bare, J.base, J.hok, rv, q⟩
  | brk =>
    obtain ⟨_, _, _, q⟩ := hs
    exact q.elim
  | cont =>
    obtain ⟨_, _, _, q⟩ := hs
    exact q.elim
/-- THE RULE for such a def -/
theorem okG {x qual : Str} {st : Stmt} {N : List Str} (F : Fun K x qual st f fd) (S : FnScope N ps (defScope st)) (len : ∀ vs H Q E, sp vs H Q E → vs.length = ps.length)
    (hbody : ∀ (cdv : Value) (A : Around) (outer : List Env) (s : Shared) (H : Hp) (vs : List V) (Q : VK) (E : XK), Room k (A.deeper (envOfC qual (defScope st) s.heap.objs.size f cdv)) → A.guards = some [] → sp vs H Q E →
      ∃ t, PSs (cxOf CX0 P w K mg base N qual (defScope st) f cdv A outer s H E).nox (defBody st) t ∧ t { nx := fun _ H' => Q .non H', rt := Q } (start N vs) H) :
    FnOkG P w K mg base CX0 (k + 1) f fd ps sp := by
  obtain ⟨oc, od, kV, doc, pm, an, cdv, ct, osl, rfl, lk, hcd⟩ := F.ex
  refine okG_of lk hcd S len fun A outer s H vs Q E hr hg hsp => ?_
  obtain ⟨t, h, q⟩ := hbody cdv A outer s H vs Q E hr hg hsp
  exact ⟨t, h.nox, q⟩
end
/-- a call of such a def -/
theorem callG {X : Cx} {CX : CXT} {k : Nat} {f : Addr} {fd : FuncData} {ps : List Str} {sp : Sp} {E : XK} {x : Str} {p pos : Pos} {e : Expr} {es : List Expr} {t : TA}
    (F : FnOkG X.prog X.w X.K X.mg X.base CX k f fd ps sp) (hr : Room k X.A) (gd : X.A.guards = some []) (hg : Gl X x) (hm : X.mg x = some (.ref f)) (hk : PySem.W.keepIn X.K (.ref f) = true) (hb : Binds X.K fd ps []) (hx : Passes CX X E)
    (ha : PA X (e :: es) t) (hdb : (x == ("__debug__" : Str)) = false := by decide) (he : starEach (e :: es) X.env = (false, eval e X.env) :: starEach es X.env := by rfl)
    (hpl : (backTo pos (starEach es X.env)).any (·.1) = false := by rfl) : PE X (.Call (.Name x p) (e :: es) [] pos) (tCall sp [] E t) := by
  refine ⟨fun pins s σ H Q I h => ?_⟩
  refine wpAny_Call_Name_kw (ld_glob I hg hm ?_ hdb)
  refine PySem.W.callWith_K (h₀ := X.base) I.ok.mod.kin hk (thn (ha.run pos pins s σ H _ I h) fun us s1 ⟨vs, H1, I1, r, q⟩ => ⟨I1.kIn, ?_⟩) he hpl
  have q' : sp (vs ++ []) H1 Q E := q
  rw [List.append_nil] at q'
  have hl : us.length = ps.length := by
    rw [← r.length]
    exact F.len _ _ _ _ q'
  refine wpAny_call (codeAny_mono (F.run X.A X.stack s1 H1 ⟨us, []⟩ us vs Q E hr gd I1.env0 (by have z := hb s1 us I1.kIn (by rw [List.append_nil]; exact hl); rw [List.append_nil] at z; exact z) r q') fun r s' hq => ?_)
  cases r with
  | error er => exact hx pins σ H1 s1 er s' I1 hq
  | ok fl =>
    cases fl with
    | ret u => exact I1.after hq
    | next => exact False.elim hq
    | brk => exact False.elim hq
    | cont => exact False.elim hq
end Gd
-- part VLaP
set_option maxHeartbeats 8000000
/-! The law: what it needs, its places. -/
namespace Kn
open PySem PySem.Spec PyProof.Rows L2 Err LamX HLam La
abbrev sLaw : Stmt := topS 58
abbrev NLa : List Str := ["_law_script", "_law_draw", "_law_turn", "_law_seats", "_law_width", "_law_count", "_law_powers_here", "_law_scheme_here", "_law_silent", "_law_found", "_law_trial", "_law_lap", "_law_pair", "_law_due", "_law_told_here", "_law_odd_here"]
theorem scLaw69 : FnScope NLa ["_law_script"] (defScope sLaw) := ⟨rfl, rfl, rfl, by decide +kernel, rfl, by decide +kernel, by decide +kernel⟩
abbrev XL69 (P : Program) (w : World) (K : PySem.W.Frag) (mg : Str → Option Value) (base : Heap) (f c0 : Addr) (A : Around) (outer : List Env) (s : Shared) (H : Hp) (E : XK) : Cx := (cxOf CX0 P w K mg base NLa "law" (defScope sLaw) f (.ref c0) A outer s H E).nox
def forOf : Stmt → List Stmt
  | .For _ _ b _ _ => b
  | _ => []
abbrev lawFor : Stmt := (defBody sLaw).getD 1 (.Pass ⟨0, 0, 0, 0⟩)
abbrev silFor : Stmt := (forOf lawFor).getD 6 (.Pass ⟨0, 0, 0, 0⟩)
/-- a def that is there -/
def Dfx (P : Program) (w : World) (K : PySem.W.Frag) (mg : Str → Option Value) (base : Heap) (CX : CXT) (k : Nat) (x : Str) (ps : List Str) (sp : Sp) : Prop := ∃ (f : Addr) (fd : FuncData), FnOk P w K mg base CX k f fd ps sp ∧ PySem.W.keepIn K (.ref f) = true ∧ Binds K fd ps [] ∧ mg x = some (.ref f)
/-- a def that is there, its keywords in the other order too -/
def DfK (P : Program) (w : World) (K : PySem.W.Frag) (mg : Str → Option Value) (base : Heap) (CX : CXT) (k : Nat) (x : Str) (ps : List Str) (sp : Sp) : Prop := ∃ (f : Addr) (fd : FuncData), FnOk P w K mg base CX k f fd ps sp ∧ PySem.W.keepIn K (.ref f) = true ∧ Binds K fd ps [] ∧ mg x = some (.ref f) ∧
  KBn K fd ps 0 ps.reverse (fun us ws => us ++ ws.reverse) (fun vs zs => vs ++ zs.reverse)
structure LE69 (P : Program) (w : World) (K : PySem.W.Frag) (mg : Str → Option Value) (base : Heap) (T : List (Addr × Str)) (CS CS0 CW CM CC : Addr) : Prop where
  begun : Dfx P w K mg base CX0 1 "_law_begun" ["_law_script"] (spBegun K)
  take : Dfx P w K mg base CX0 2 "_law_take" ["_law_draw", "_law_amount"] spTake
  shuf : Dfx P w K mg base CX0 3 "_law_shuffled" ["_law_draw", "_law_some"] spShuf
  ps : DfK P w K mg base (L2.CX P w) 6 "power_scheme" ["seats", "width", "count"] (spOr (spPsE CS0 CW CC) spPsG)
  ub : DfK P w K mg base (L2.CX P w) 7 "unborne" ["seats", "width", "scheme", "silent"] (spOr (spUbE CS0 CW CM CC) spUbG)
  iu : DfK P w K mg base (L2.CX P w) 7 "is_unborne" ["seats", "width", "scheme", "silent", "thing"] (spOr (spIuE CS0 CW CM CC) spIuG)
  lw : Dfx P w K mg base CX0 2 "_law_powers" ["_law_seats", "_law_width", "_law_count"] spLw
  sc : Dfx P w K mg base CX0 4 "_law_scheme" ["_law_draw", "_law_seats", "_law_width", "_law_powers_here"] spSc
  lb : Dfx P w K mg base CX0 5 "_law_bears" ["_law_seats", "_law_width", "_law_scheme_here", "_law_silent"] spLb
  ip : Dfx P w K mg base CX0 2 "_law_is_pair" ["_law_seats", "_law_width", "_law_scheme_here", "_law_silent", "_law_pair"] spIP
  sp : Dfx P w K mg base CX0 4 "_law_spoilt" ["_law_draw", "_law_seats", "_law_trial"] spSp
  od : Dfx P w K mg base CX0 1 "_law_odd" ["_law_seats", "_law_trial"] spOd
  rf : Dfx P w K mg base CX0 12 "_law_refused_right" ["_law_draw"] (spRf T)
  fr : ∀ x : Str, x ∈ (["range", "min", "len", "list", "tuple", "repr", "sorted"] : List Str) → mg x = none
/-- between turns -/
def LInv (T : List (Addr × Str)) (d l c : Addr) (σ : L2.St) (H : Hp) : Prop := ∃ y0 y2 y3 y4 y5 y6 y7 y8 y9 y10 y11 y12 y13 y14 y15, σ = [y0, some (.ref d), y2, y3, y4, y5, y6, y7, y8, y9, y10, y11, y12, y13, y14, y15] ∧ Drw H d l c ∧ Tabs T H
/-- seats, a scheme -/
structure LF9 (T : List (Addr × Str)) (d l c : Addr) (H : Hp) (sa sc : Addr) (ss : List Int) (w : Nat) (rows : List (List Int)) (xs : List V) : Prop where
  D : Drw H d l c
  T : Tabs T H
  fr : FrT H sa (vI ss)
  sch : H sc = some (.lst xs)
  nl : sc ≠ l
  rws : RowsL H xs rows
  asc : ascB ss = true
  rg : ∀ s ∈ ss, 1 ≤ s ∧ s ≤ 9
  n1 : 1 ≤ ss.length
  n4 : ss.length ≤ 4
  w1 : 1 ≤ w
  w2 : w ≤ 2
  g : SchG (ss.length * w) rows
section
variable {T : List (Addr × Str)} {d l c : Addr} {H H' : Hp} {sa sc : Addr} {ss : List Int} {w : Nat} {rows : List (List Int)} {xs : List V}
theorem LF9.but (F : LF9 T d l c H sa sc ss w rows xs) (D : Drw H' d l c) (B : But d l H H') : LF9 T d l c H' sa sc ss w rows xs :=
  ⟨D, tabs_but F.T F.D B, Kn.FrT.but F.fr F.D B, B _ _ F.sch (fun z => by
    obtain ⟨⟨r0, t0, hd⟩, _⟩ := F.D
    have e := F.sch
    rw [z, hd] at e
    cases e) F.nl, F.nl, F.rws.but F.D B, F.asc, F.rg, F.n1, F.n4, F.w1, F.w2, F.g⟩
theorem LF9.same (F : LF9 T d l c H sa sc ss w rows xs) (s : Same H H') : LF9 T d l c H' sa sc ss w rows xs := F.but (F.D.same s) (But.of s)
theorem LF9.row (F : LF9 T d l c H sa sc ss w rows xs) : Row H (.ref sa) ss := ⟨sa, rfl, F.fr.rd, by have := F.n4; omega⟩
theorem LF9.sw (F : LF9 T d l c H sa sc ss w rows xs) : ss.length * w ≤ 8 := Nat.mul_le_mul F.n4 F.w2
theorem LF9.ok (F : LF9 T d l c H sa sc ss w rows xs) {k : Nat} (h : k ≤ ss.length) : SchOk ss w k rows 10 67 7 :=
  schOk_of F.asc F.rg F.n1 (by have := F.n4; omega) F.w1 (by have := F.w2; omega) (by have := F.sw; omega) F.g h
theorem LF9.schH (F : LF9 T d l c H sa sc ss w rows xs) : SchH H sc rows := ⟨xs, .inl F.sch, F.rws⟩
end
/-- a pair to try -/
structure TrA (H : Hp) (pt la na : Addr) (ss lost ns : List Int) (k w : Nat) : Prop where
  p : Rd H pt (.tup [.ref la, .ref na])
  lo : Row H (.ref la) lost
  nu : Row H (.ref na) ns
  bt : Bt 8000 ns
  ll : lost.length = k
  sub : ∀ x ∈ lost, x ∈ ss
  ln : ns.length = k * w
theorem TrA.but {d l c : Addr} {H H' : Hp} {pt la na : Addr} {ss lost ns : List Int} {k w : Nat} (h : TrA H pt la na ss lost ns k w) (D : Drw H d l c) (B : But d l H H') : TrA H' pt la na ss lost ns k w :=
  ⟨rd_but h.p D B, h.lo.but D B, h.nu.but D B, h.bt, h.ll, h.sub, h.ln⟩
theorem TrA.same {H H' : Hp} {pt la na : Addr} {ss lost ns : List Int} {k w : Nat} (h : TrA H pt la na ss lost ns k w) (s : Same H H') : TrA H' pt la na ss lost ns k w :=
  ⟨Rd.same h.p s, h.lo.same s, h.nu.same s, h.bt, h.ll, h.sub, h.ln⟩
/-- between two numbers of silent seats -/
def LSil (T : List (Addr × Str)) (d l c sa sc : Addr) (ss : List Int) (w : Nat) (rows : List (List Int)) (xs : List V) (σ : L2.St) (H : Hp) : Prop := ∃ y0 y2 y5 y6 y8 y9 y10 y11 y12 y13 y14 y15, σ = [y0, some (.ref d), y2, some (.ref sa), some (.int w), y5, y6, some (.ref sc), y8, y9, y10, y11, y12, y13, y14, y15] ∧ LF9 T d l c H sa sc ss w rows xs
/-- a number of silent seats -/
def PS1 (T : List (Addr × Str)) : TS := fun D σ H => ∃ d l c sa sc ss rows xs, ∃ w k : Nat, ∃ y0 y2 y5 y6 y9 y10 y11 y12 y13 y14 y15, σ = [y0, some (.ref d), y2, some (.ref sa), some (.int w), y5, y6, some (.ref sc), some (.int k), y9, y10, y11, y12, y13, y14, y15] ∧
  LF9 T d l c H sa sc ss w rows xs ∧ k ≤ ss.length ∧ ∀ σ' H', LSil T d l c sa sc ss w rows xs σ' H' → D.nx σ' H'
/-- the pair to try is there -/
def PS2 (T : List (Addr × Str)) : TS := fun D σ H => ∃ d l c sa sc pt la na ss rows xs lost ns, ∃ w k : Nat, ∃ y0 y2 y5 y6 y9 y11 y12 y13 y14 y15, σ = [y0, some (.ref d), y2, some (.ref sa), some (.int w), y5, y6, some (.ref sc), some (.int k), y9, some (.ref pt), y11, y12, y13, y14, y15] ∧
  LF9 T d l c H sa sc ss w rows xs ∧ k ≤ ss.length ∧ TrA H pt la na ss lost ns k w ∧ ∀ σ' H', LSil T d l c sa sc ss w rows xs σ' H' → D.nx σ' H'
end Kn
-- part Rp
set_option maxHeartbeats 4000000
/-! repr of values that are data, dicts of texts among them. -/
namespace Rp
open PySem PySem.Spec PyProof.Rows L2
/-- v is to be read as the datum d -/
def Tx (K : PySem.W.Frag) (H : Hp) (v : V) (d : PyData) : Prop :=
  ∀ (X : Cx) (pins : List (Addr × Obj)) (σ : L2.St) (s : Shared), X.K = K → Inv X pins σ H s → ∀ u, L2.RelV v u → ∃ as, Reads s.heap u d as ∧ (d.hasDict = true → sysModules ∉ as)
section
variable {K : PySem.W.Frag} {H : Hp}
theorem Tx.dp {v : V} {d : PyData} (h : Dp K H v d) (n : d.hasDict = false) : Tx K H v d := by
  rintro X pins σ s rfl I u ru
  obtain ⟨as, r⟩ := Dp.reads I d v u h ru
  exact ⟨as, r, fun z => by rw [n] at z; cases z⟩
theorem rep_dict {d : PyData} {n : Nat} : PyData.hasDictAll (List.replicate (n + 1) d) = d.hasDict := by
  induction n with
  | zero => show (d.hasDict || false) = d.hasDict; rw [Bool.or_false]
  | succ n ih =>
    show (d.hasDict || PyData.hasDictAll (List.replicate (n + 1) d)) = d.hasDict
    rw [ih, Bool.or_self]
theorem Tx.rep {l : Addr} {v : V} {d : PyData} {n : Nat} (h : H l = some (.lst (List.replicate (n + 1) v))) (hv : Tx K H v d) (hm : ∃ o, K.lookup sysModules = some o) : Tx K H (.ref l) (.list (List.replicate (n + 1) d)) := by
  rintro X pins σ s rfl I u ru
  obtain rfl : u = Value.ref l := ru
  obtain ⟨hz, its, m, rv, ho⟩ := I.hok _ _ h
  have all : ∀ (k : Nat) (us : List Value), Vals (List.replicate k v) us → ∃ as, ReadsAll s.heap us (List.replicate k d) as ∧ (d.hasDict = true → sysModules ∉ as) := by
    intro k
    induction k with
    | zero =>
      intro us r
      cases r
      exact ⟨[], .nil, fun _ => by simp⟩
    | succ k ih =>
      intro us r
      cases r with
      | cons r1 r2 =>
        obtain ⟨as, q1, z1⟩ := hv X pins σ s rfl I _ r1
        obtain ⟨bs, q2, z2⟩ := ih _ r2
        exact ⟨as ++ bs, .cons q1 q2, fun z => by
          intro y
          rcases List.mem_append.mp y with y | y
          · exact z1 z y
          · exact z2 z y⟩
  obtain ⟨as, q, z⟩ := all _ _ rv
  refine ⟨l :: as, Reads.list ho rfl rfl (by simpa using q), fun y => ?_⟩
  have y' : d.hasDict = true := (rep_dict (d := d) (n := n)).symm.trans y
  intro w
  rcases List.mem_cons.mp w with w | w
  · obtain ⟨o, e⟩ := hm
    have z2 := (I.bs _ _ (I.ok.mod.kin _ _ e)).2
    rw [w, h] at z2
    cases z2
  · exact z y' w
end
/-- the same, and no list on the way is the table of modules -/
def Ty (K : PySem.W.Frag) (H : Hp) (v : V) (d : PyData) : Prop :=
  ∀ (X : Cx) (pins : List (Addr × Obj)) (σ : L2.St) (s : Shared), X.K = K → Inv X pins σ H s → ∀ u, L2.RelV v u → ∃ as, Reads s.heap u d as ∧ sysModules ∉ as
def kD : Key → PyData
  | .inl i => .int i
  | .inr x => .str x
section
variable {K : PySem.W.Frag} {H : Hp}
theorem Ty.tx {v : V} {d : PyData} (h : Ty K H v d) : Tx K H v d := fun X pins σ s e I u ru =>
  let ⟨as, r, z⟩ := h X pins σ s e I u ru
  ⟨as, r, fun _ => z⟩
theorem Ty.tup0 {a : Addr} (h : H a = some (.tup [])) : Ty K H (.ref a) (.tuple []) := by
  rintro X pins σ s rfl I u ru
  obtain rfl : u = Value.ref a := ru
  obtain ⟨its, rv, ⟨o, ho, hc, n, hd⟩, _⟩ := I.tuple (SqT.of h)
  cases rv
  exact ⟨[], Reads.tuple ho hc hd .nil, by simp⟩
theorem Ty.dK {a : Addr} {kvs : List (Key × V)} {ds : List PyData} (h : H a = some (.dK kvs)) (hd : Paired (fun (kv : Key × V) d => Ty K H kv.2 d) kvs ds) : Ty K H (.ref a) (.dict ((kvs.map fun kv => kD kv.1).zip ds)) := by
  rintro X pins σ s rfl I u ru
  obtain rfl : u = Value.ref a := ru
  obtain ⟨hz, hs, vs, rel, o, es, ep, ho, ⟨hc, _, _⟩, hdat, _, hp, _⟩ := I.hok _ _ h
  have all : ∀ (es : List DictEntry) (vs : List (Key × Value)) (kvs : List (Key × V)) (ds : List PyData), Pairs (mixKind X.prog X.w) es vs → KV kvs vs → Paired (fun (kv : Key × V) d => Ty X.K H kv.2 d) kvs ds →
      ReadsAll s.heap (es.map (·.key)) (((kvs.map fun kv => kD kv.1).zip ds).map (·.1)) [] ∧ ∃ bs, ReadsAll s.heap (es.map (·.val)) (((kvs.map fun kv => kD kv.1).zip ds).map (·.2)) bs ∧ sysModules ∉ bs := by
    intro es vs kvs ds p
    induction p generalizing kvs ds with
    | nil =>
      intro r q
      cases r
      cases q
      exact ⟨.nil, [], .nil, by simp⟩
    | @cons e kv es vs k1 k2 _ ih =>
      intro r q
      cases r with
      | @cons kv' _ kvs' _ r1 r2 =>
        cases q with
        | @cons _ d _ ds' q1 q2 =>
          obtain ⟨i1, bs, i2, i3⟩ := ih _ _ r2 q2
          obtain ⟨as, z1, z2⟩ := q1 X pins σ s rfl I _ r1.2
          have ek : Reads s.heap e.key (kD kv'.1) [] := by
            have k1' : keyIs kv.1 e.key = true := k1
            rw [← r1.1] at k1'
            rcases keyIs_shape k1' with ⟨i, t, e1, e2⟩ | ⟨x, t, e1, e2⟩
            · rw [e1, e2]
              exact .int i t
            · rw [e1, e2]
              exact .str x t
          refine ⟨.cons ek i1, as ++ bs, .cons (by show Reads s.heap e.val d as; rw [k2]; exact z1) i2, fun w => ?_⟩
          rcases List.mem_append.mp w with w | w
          · exact z2 w
          · exact i3 w
  obtain ⟨i1, bs, i2, i3⟩ := all _ _ _ _ hp rel hd
  refine ⟨_, Reads.dict ho hc hdat i1 i2, fun w => ?_⟩
  rcases List.mem_append.mp w with w | w
  · rcases List.mem_cons.mp w with w | w
    · rw [← w] at hs
      simp at hs
    · simp at w
  · exact i3 w
end
/-- repr(v) -/
def rRp (K : PySem.W.Frag) : List V → Hp → VK → Prop := fun xs H Q => ∃ v d, xs = [v] ∧ Tx K H v d ∧ d.showable = true ∧ d.depth ≤ 60 ∧ d.shown.length ≤ sizeLine ∧ Q (.str d.shown) H
theorem call_rp {X : Cx} (gd : X.A.guards = some []) (hu : X.A.units + 64 < cLine) : CallR X (.builtin "repr") (rRp X.K) := by
  intro pins s σ H xs us Q I r h
  obtain ⟨v, d, rfl, hv, hs, hd, hz, q⟩ := h
  obtain ⟨u, rfl, ru⟩ : ∃ u, us = [u] ∧ L2.RelV v u := by
    cases r with
    | cons r1 r2 =>
      cases r2
      exact ⟨_, rfl, r1⟩
  obtain ⟨as, rd, hm⟩ := hv X pins σ s rfl I u ru
  have fin : ∀ h' u tk, (∀ b o, s.heap.get? b = some o → h'.get? b = some o) → EP X pins σ Q (.str d.shown u) { s with heap := h', toks := tk } := fun h' u tk k => ⟨.str d.shown, H, I.kept k, ⟨u, rfl⟩, q⟩
  have tok : ∀ u tk, EP X pins σ Q (.str d.shown u) { s with toks := tk } := fun u tk => fin s.heap u tk fun _ _ z => z
  cases rd with
  | none => exact PySem.P.repr_of_none (tok _ _)
  | bool b => exact PySem.P.repr_of_bool (tok _ _)
  | int i t => exact PySem.P.repr_of_int (of_decide_eq_true hs) (tok _ _)
  | str x t => exact PySem.P.repr_of_str (tok _ _) hz
  | list h1 h2 h3 h4 => exact repr_of_reads' (.list h1 h2 h3 h4) hs hm gd (by omega) (fun _ _ z => z) (fun h' u tk k => fin h' u tk k) hz
  | tuple h1 h2 h3 h4 => exact repr_of_reads' (.tuple h1 h2 h3 h4) hs hm gd (by omega) (fun _ _ z => z) (fun h' u tk k => fin h' u tk k) hz
  | dict h1 h2 h3 h4 h5 => exact repr_of_reads' (.dict h1 h2 h3 h4 h5) hs hm gd (by omega) (fun _ _ z => z) (fun h' u tk k => fin h' u tk k) hz
end Rp
-- part VLaS2
set_option maxHeartbeats 8000000
/-! The law: pairs tried. -/
namespace Kn
open PySem PySem.Spec PyProof.Rows L2 Err LamX HLam La
/-- the pair of a lap is there -/
def PS3 (T : List (Addr × Str)) : TS := fun D σ H => ∃ d l c sa sc pp la na ss rows xs lost tq os, ∃ w k : Nat, ∃ y0 y2 y5 y6 y9 y10 y11 y13 y14 y15, σ = [y0, some (.ref d), y2, some (.ref sa), some (.int w), y5, y6, some (.ref sc), some (.int k), y9, y10, y11, some (.ref pp), y13, y14, y15] ∧
  LF9 T d l c H sa sc ss w rows xs ∧ k ≤ ss.length ∧ Rd H pp (.tup [.ref la, .ref na]) ∧ Row H (.ref la) lost ∧ (∀ x ∈ lost, x ∈ ss) ∧ lost.length = k ∧ NumH H na tq os ∧ Bt 9000 (os.filterMap id) ∧
  ∀ y13 y14 H', Same H H' → D.nx [y0, some (.ref d), y2, some (.ref sa), some (.int w), y5, y6, some (.ref sc), some (.int k), y9, y10, y11, some (.ref pp), y13, y14, y15] H'
def rNotB2 : R2 := fun x y H Q => ∃ a b : Bool, x = .bl a ∧ y = .bl b ∧ Q (.bl (!decide (a = b))) H
/-- repr of a bool -/
theorem repr_bl {K : PySem.W.Frag} {σ : L2.St} {H : Hp} {Q : VK} {i : Nat} {b : Bool} (h : σ[i]? = some (some (.bl b))) (q : Q (.str (PyData.bool b).shown) H) : tCB (Rp.rRp K) (tCons (tVar i) tNil) σ H Q :=
  ⟨_, h, .bl b, .bool b, rfl, Rp.Tx.dp (.bl b) (by cases b <;> rfl), by cases b <;> decide +kernel, by cases b <;> decide +kernel, by cases b <;> decide +kernel, q⟩
theorem iu_of {CS0 CW CM CC : Addr} {T : List (Addr × Str)} {d l c : Addr} {H : Hp} {sa sc : Addr} {ss : List Int} {w k : Nat} {rows : List (List Int)} {xs : List V} {Q : VK} {E : XK} {t : V} {tw : W} (F : LF9 T d l c H sa sc ss w rows xs) (hk : k ≤ ss.length) (it : Is H t tw) (hb : ∀ ls ns, tw = .tup [.tup ls, .tup ns] → Bt 9000 (ns.map intW))
    (q : ∀ H', Same H H' → Q (.bl (iuW ss w k rows tw)) H') : spOr (spIuE CS0 CW CM CC) spIuG ([.ref sa, .int w, .ref sc, .int k, t] ++ []) H Q E :=
  .inr ⟨sa, ss, sc, rows, t, tw, w, k, 10, 67, 7, rfl, F.row, F.schH, F.ok hk, it, hb, q⟩
theorem ub_of {CS0 CW CM CC : Addr} {T : List (Addr × Str)} {d l c : Addr} {H : Hp} {sa sc : Addr} {ss : List Int} {w k : Nat} {rows : List (List Int)} {xs : List V} {Q : VK} {E : XK} (F : LF9 T d l c H sa sc ss w rows xs) (hk : k ≤ ss.length)
    (q1 : ubF ss w k rows = none → ∀ H', Same H H' → Q .non H') (q2 : ∀ c ns, ubF ss w k rows = some (c, ns) → ∀ t a b H', Same H H' → H' t = some (.tup [.ref a, .ref b]) → H' a = some (.tup (vI c)) → H' b = some (.tup (vI ns)) → Q (.ref t) H') : spOr (spUbE CS0 CW CM CC) spUbG ([.ref sa, .int w, .ref sc, .int k] ++ []) H Q E :=
  .inr ⟨sa, ss, sc, rows, w, k, 10, 67, 7, rfl, F.row, F.schH, F.ok hk, q1, q2⟩
theorem ip_of {T : List (Addr × Str)} {d l c : Addr} {H : Hp} {sa sc pt la na : Addr} {ss lost : List Int} {w k : Nat} {rows : List (List Int)} {xs : List V} {Q : VK} {E : XK} {tq : Bool} {os : List (Option Int)} (F : LF9 T d l c H sa sc ss w rows xs) (hk : k ≤ ss.length) (hp : Rd H pt (.tup [.ref la, .ref na])) (hl : Row H (.ref la) lost) (sub : ∀ x ∈ lost, x ∈ ss) (ll : lost.length = k) (hn : NumH H na tq os) (hb : Bt 9000 (os.filterMap id))
    (q : ∀ H', Same H H' → Q (.bl (iuW ss w k rows (.tup [.tup (lost.map W.int), numW tq os]))) H') : spIP ([.ref sa, .int w, .ref sc, .int k, .ref pt] ++ []) H Q E :=
  ⟨sa, sc, pt, la, na, ss, rows, xs, lost, tq, os, w, k, 10, 67, 7, rfl, F.fr, F.sch, F.rws, F.ok hk, hp, hl, sub, ll, hn, hb, q⟩
theorem TrA.num {H : Hp} {pt la na : Addr} {ss lost ns : List Int} {k w : Nat} (h : TrA H pt la na ss lost ns k w) : NumH H na true (ns.map some) := by
  obtain ⟨a, ea, r, n⟩ := h.nu
  cases ea
  refine ⟨by rw [List.length_map]; exact n, ?_⟩
  show Rd H na (.tup ((ns.map some).map oV))
  rw [(some_map ns).1]
  exact r
theorem pair_is {H : Hp} {pt la na : Addr} {lost : List Int} {tq : Bool} {os : List (Option Int)} (hp : Rd H pt (.tup [.ref la, .ref na])) (hl : Row H (.ref la) lost) (hn : NumH H na tq os) : Is H (.ref pt) (.tup [.tup (lost.map W.int), numW tq os]) :=
  .tup (by show 2 ≤ 900; omega) hp (.cons (rowIs hl) (.cons hn.is .nil))
theorem pair_bt {lost : List Int} {tq : Bool} {os : List (Option Int)} (hb : Bt 9000 (os.filterMap id)) : ∀ ls ns, W.tup [.tup (lost.map W.int), numW tq os] = .tup [.tup ls, .tup ns] → Bt 9000 (ns.map intW) := by
  intro ls ns e
  cases tq with
  | false => cases e
  | true =>
    have e : os.map oW = ns := by cases e; rfl
    subst e
    intro x hx
    rw [List.map_map] at hx
    obtain ⟨o, ho, rfl⟩ := List.mem_map.mp hx
    cases o with
    | none => exact Nat.two_pow_pos 9000
    | some i => exact hb i (List.mem_filterMap.mpr ⟨some i, ho, rfl⟩)
section
variable {P : Program} {w : World} {K : PySem.W.Frag} {mg : Str → Option Value} {base : Heap} {T : List (Addr × Str)} {CS CS0 CW CM CC Pt : Addr} {f c0 : Addr} {A : Around} {outer : List Env} {s0 : Shared} {H00 : Hp} {E00 : XK}
theorem la_s2 (L0 : LE69 P w K mg base T CS CS0 CW CM CC) (hr : Room 12 (XL69 P w K mg base f c0 A outer s0 H00 E00).A) (hgd : (XL69 P w K mg base f c0 A outer s0 H00 E00).A.guards = some []) : PSs (XL69 P w K mg base f c0 A outer s0 H00 E00) ((forOf silFor).drop 4) (PS2 T) := by
  have S := scLaw69
  have hr1 := hr.mono (show 1 ≤ 12 by decide)
  have hr2 := hr.mono (show 2 ≤ 12 by decide)
  have hr3 := hr.mono (show 3 ≤ 12 by decide)
  have hr4 := hr.mono (show 4 ≤ 12 by decide)
  have hr5 := hr.mono (show 5 ≤ 12 by decide)
  have hr6 := hr.mono (show 6 ≤ 12 by decide)
  have hr7 := hr.mono (show 7 ≤ 12 by decide)
  have mr := L0.fr "range" (by decide)
  have mn := L0.fr "len" (by decide)
  have mre := L0.fr "repr" (by decide)
  have mt := L0.fr "tuple" (by decide)
  have ml := L0.fr "list" (by decide)
  have mso := L0.fr "sorted" (by decide)
  have mm := L0.fr "min" (by decide)
  obtain ⟨fsp, fdsp, Gsp, ksp, bsp, gsp⟩ := L0.sp
  obtain ⟨fip, fdip, Gip, kip, bip, gip⟩ := L0.ip
  obtain ⟨fiu, fdiu, Giu, kiu, biu, giu, kbiu⟩ := L0.iu
  obtain ⟨fod, fdod, God, kod, bod, god⟩ := L0.od
  refine PSs.pre (PS2 T) (pss_cons (ps_for PassesOwn.never rfl (pi_range1 (by rfl) mr (pa_cons pe_int pa_nil)) (pg_name (i := 11) S.nd rfl (.inl rfl))
        (pss_cons (ps_set (i := 12) S.nd rfl (.inl rfl) (pe_ifExp (pt_cmpR op_eq (pv 11) pe_int (nomark _)) (pv 10) (pe_call Gsp hr4 (by rfl) gsp ksp bsp .nil pass0 (pa_cons (pv 1) (pa_cons (pv 3) (pa_cons (pv 10) pa_nil))))))
      (PSs.pre (PS3 T) (pss_cons (ps_set (i := 13) S.nd rfl (.inl rfl) (pe_call Gip hr2 (by rfl) gip kip bip .nil pass0 (pa_cons (pv 3) (pa_cons (pv 4) (pa_cons (pv 7) (pa_cons (pv 8) (pa_cons (pv 12) pa_nil)))))))
      (pss_cons (ps_set (i := 14) S.nd rfl (.inl rfl) (pe_callN0 Giu hr7 (by rfl) giu kiu kbiu (passes_call L2.takes0 fun _ _ _ _ h => h) (pk_cons (pv 12) (pk_cons (pv 8) (pk_cons (pv 7) (pk_cons (pv 4) (pk_cons (pv 3) pk_nil)))))))
      (pss_one (ps_if (pt_cmpR op_ne (pe_callB (show CallR _ (.builtin "repr") (Rp.rRp K) from Rp.call_rp hgd hr.units) (by rfl) mre PyProof.Rows.boot_repr (pa_cons (pv 14) pa_nil)) (pe_callB (show CallR _ (.builtin "repr") (Rp.rRp K) from Rp.call_rp hgd hr.units) (by rfl) mre PyProof.Rows.boot_repr (pa_cons (pv 13) pa_nil)) (nomark _)) (pss_one (ps_ret pe_bl)) pss_nil)))) ?lap)))
      (pss_one (ps_for PassesOwn.never rfl (pi_list (pe_call God hr1 (by rfl) god kod bod .nil pass0 (pa_cons (pv 3) (pa_cons (pv 10) pa_nil)))) (pg_name (i := 15) S.nd rfl (.inl rfl))
        (pss_one (ps_if (pt_cmpR (show OpR _ (compareOp .IsNot) rNotB2 from op_isnot_bl) (pe_call Giu hr7 (by rfl) giu kiu biu .nil (passes_call L2.takes0 fun _ _ _ _ h => h) (pa_cons (pv 3) (pa_cons (pv 4) (pa_cons (pv 7) (pa_cons (pv 8) (pa_cons (pv 15) pa_nil)))))) pe_bl (nomark _)) (pss_one (ps_ret pe_bl)) pss_nil))))) ?rest
  case lap =>
    rintro D0 σ H ⟨d, l, c, sa, sc, pp, la, na, ss, rows, xs, lost, tq, os, wd, k, y0, y2, y5, y6, y9, y10, y11, y13, y14, y15, rfl, F, hk, hp, hl, sub, ll, hn, hb, q⟩
    refine ⟨_, rfl, _, rfl, _, rfl, _, rfl, _, rfl, ?_⟩
    dsimp only [tNil]
    refine ip_of F hk hp hl sub ll hn hb fun H2 s2 => ?_
    refine ⟨_, rfl, _, rfl, _, rfl, _, rfl, _, rfl, ?_⟩
    dsimp only [tNil]
    refine ⟨rfl, rfl, iu_of (F.same s2) hk (pair_is (Rd.same hp s2) (hl.same s2) (hn.same s2)) (pair_bt hb) fun H3 s3 => ?_⟩
    refine repr_bl rfl (repr_bl rfl ⟨rfl, _, rfl, ?_⟩)
    rw [decide_eq_true rfl]
    exact iteF (q _ _ _ (s2.trans s3))
  case rest =>
  rintro D0 σ H ⟨d, l, c, sa, sc, pt, la, na, ss, rows, xs, lost, ns, wd, k, y0, y2, y5, y6, y9, y11, y12, y13, y14, y15, rfl, F, hk, Tr, q⟩
  refine ⟨3, rfl, by omega, by omega, for_range (fun i σ H1 => ∃ y11 y12 y13 y14 y15, σ = [y0, some (.ref d), y2, some (.ref sa), some (.int wd), y5, y6, some (.ref sc), some (.int k), y9, some (.ref pt), y11, y12, y13, y14, y15] ∧ LF9 T d l c H1 sa sc ss wd rows xs ∧ TrA H1 pt la na ss lost ns k wd) ⟨_, _, _, _, _, rfl, F, Tr⟩ ?_ ?_⟩
  · rintro i σ H1 hi ⟨z11, z12, z13, z14, z15, rfl, F1, Tr1⟩
    rw [Int.zero_add]
    have kw : k * wd ≤ 8 := Nat.le_trans (Nat.mul_le_mul_right wd hk) F1.sw
    have b9 : Bt 9000 ((ns.map some).filterMap id) := by
      rw [(some_map ns).2]
      exact bt_le (by decide) Tr1.bt
    refine ⟨_, rfl, rfl, _, rfl, ?_⟩
    by_cases c0 : (i : Int) = 0
    · rw [show decide (V.int (i : Nat) = V.int 0) = true from decide_eq_true (by rw [c0])]
      refine iteT ⟨_, rfl, d, l, c, sa, sc, pt, la, na, ss, rows, xs, lost, true, ns.map some, wd, k, _, _, _, _, _, _, _, _, _, _, rfl, F1, hk, Tr1.p, Tr1.lo, Tr1.sub, Tr1.ll, Tr1.num, b9, fun u13 u14 H2 s2 => ⟨_, _, _, _, _, rfl, F1.same s2, Tr1.same s2⟩⟩
    · rw [show decide (V.int (i : Nat) = V.int 0) = false from decide_eq_false fun z => c0 (V.int.inj z)]
      refine iteF ⟨_, rfl, _, rfl, _, rfl, d, l, c, sa, pt, la, na, ss, lost, ns, rfl, F1.D, F1.row, Tr1.p, Tr1.lo, Tr1.nu, Tr1.bt, by rw [Tr1.ll]; exact hk, by rw [Tr1.ln]; exact kw, Tr1.sub, fun p la2 na2 lost2 tq os H2 D2 B2 hp2 hl2 sub2 ll2 hn2 hb2 => ?_⟩
      have F2 := F1.but D2 B2
      have Tr2 := Tr1.but F1.D B2
      exact ⟨d, l, c, sa, sc, p, la2, na2, ss, rows, xs, lost2, tq, os, wd, k, _, _, _, _, _, _, _, _, _, _, rfl, F2, hk, hp2, hl2, sub2, by rw [ll2, Tr1.ll], hn2, hb2, fun u13 u14 H3 s3 => ⟨_, _, _, _, _, rfl, F2.same s3, Tr2.same s3⟩⟩
  · rintro σ H1 ⟨z11, z12, z13, z14, z15, rfl, F1, Tr1⟩
    have kw : k * wd ≤ 8 := Nat.le_trans (Nat.mul_le_mul_right wd hk) F1.sw
    have kn0 : lost.length = 0 → ns = [] := fun e => by
      have z := Tr1.ln
      rw [← Tr1.ll, e, Nat.zero_mul] at z
      exact List.eq_nil_of_length_eq_zero z
    refine ⟨_, rfl, _, rfl, sa, pt, la, na, ss, lost, ns, rfl, F1.row, Tr1.p, Tr1.lo, Tr1.nu, fun p us o H2 s2 ep iu => ?_⟩
    have lu := iu.len
    have F2 := F1.same s2
    refine ⟨p, rfl, ⟨_, SqL.of ep⟩, for_it (walk_list (K := K) (a := p) (xs := us)) (fun i σ H3 => ∃ z15, σ = [y0, some (.ref d), y2, some (.ref sa), some (.int wd), y5, y6, some (.ref sc), some (.int k), y9, some (.ref pt), z11, z12, z13, z14, z15] ∧ Same H2 H3) ⟨_, rfl, Same.refl _⟩ (fun i σ H3 _ h => by obtain ⟨_, _, s⟩ := h; exact SqL.of (s _ _ ep)) ?_ ?_⟩
    · rintro i x σ H3 H4 hi ⟨z15, rfl, s3⟩ ⟨rfl, hx⟩
      obtain ⟨u, hu, hi2⟩ := isall_mem iu (List.mem_of_getElem? hx)
      refine ⟨_, rfl, _, rfl, _, rfl, _, rfl, _, rfl, ?_⟩
      dsimp only [tNil]
      refine iu_of (F2.same s3) hk (hi2.same s3) (odd_bt (bt_le (by decide) Tr1.bt) u hu) fun H5 s5 => ?_
      rw [odd_no kn0 u hu]
      exact ⟨false, false, rfl, rfl, _, rfl, iteF ⟨_, rfl, s3.trans s5⟩⟩
    · rintro σ H3 ⟨z15, rfl, s3⟩
      exact q _ _ ⟨_, _, _, _, _, _, _, _, _, _, _, _, rfl, F2.same s3⟩
end
end Kn
-- part VLaS1
set_option maxHeartbeats 8000000
/-! The law: what is found. -/
namespace Kn
open PySem PySem.Spec PyProof.Rows L2 Err LamX HLam La
/-- what unborne tells is a pair -/
theorem iu_true {ss : List Int} {w k m m2 kM : Nat} {rows : List (List Int)} (ok : SchOk ss w k rows m m2 kM) {c ns : List Int} (h : ubF ss w k rows = some (c, ns)) : iuW ss w k rows (.tup [.tup (c.map W.int), numW true (ns.map some)]) = true := by
  obtain ⟨hc, ln, ⟨i, hi, hn⟩, hd⟩ := ub_pair ok h
  obtain ⟨sub, lk⟩ := mem_combs.mp hc
  have e2 : (ns.map some).map oW = ns.map W.int := by rw [List.map_map]; rfl
  have e2l : (c.map W.int).map intW = c := by
    rw [List.map_map]
    exact (List.map_congr_left fun _ _ => rfl).trans (List.map_id c)
  have e2n : (ns.map W.int).map intW = ns := by
    rw [List.map_map]
    exact (List.map_congr_left fun _ _ => rfl).trans (List.map_id ns)
  have kwI : (k : Int) * (w : Int) = ((k * w : Nat) : Int) := (Int.natCast_mul ..).symm
  have nW : numsW ((k : Int) * w) (.tup (ns.map W.int)) = true := nums_row (by rw [ln, kwI])
  have ca : ascB c = true := asc_of ((asc_pair ok.asc).sublist sub)
  show pairB ss w k rows (c.map W.int) ((ns.map some).map oW) = true
  rw [e2]
  unfold pairB
  rw [asc_W ok.rg fun x hx => sub.subset hx, ca, e2l, e2n, nW, List.length_map, lk, decide_eq_true rfl, List.all_eq_true.mpr fun x hx => decide_eq_true (sub.subset hx)]
  have f1 : (firstNz ns).isSome = true := by
    cases e : firstNz ns with
    | some _ => rfl
    | none => exact absurd (first_none e i (by omega)) hn
  have f2 : (sharesF ss c w rows).all (fun r => decide (dotF r ns = 0)) = true := List.all_eq_true.mpr fun r hr => by
    refine decide_eq_true ?_
    have lr : r.length = ns.length := by
      obtain ⟨r0, _, rfl⟩ := List.mem_map.mp hr
      rw [List.length_map, plF_len, lostI_len sub (asc_nodup ok.asc), lk, ln]
    rw [dotF_dotN lr]
    exact hd r hr
  rw [f1, f2]
  rfl
theorem rep_ones {K : PySem.W.Frag} {σ : L2.St} {H : Hp} {Q : VK} {k w : Nat} (h8 : σ[8]? = some (some (.int k))) (h4 : σ[4]? = some (some (.int w))) (hk : k ≤ 8) (hw : w ≤ 8) (kw : k * w ≤ 8) (q : ∀ a H', Same H H' → Row H' (.ref a) (List.replicate (k * w) 1) → Q (.ref a) H') :
    tOp (rRepA K) (tTup (tCons (tC (.int 1)) tNil)) (tOp (rI CMulW fun i j => V.int (i * j)) (tVar 8) (tVar 4)) σ H Q := by
  have kwI : (k : Int) * (w : Int) = ((k * w : Nat) : Int) := (Int.natCast_mul ..).symm
  refine ⟨by show 1 ≤ sizeLine; rw [sizeLine_eq]; omega, fun t nt => ⟨_, h8, _, h4, _, _, rfl, rfl, wide_mul (a := 10) (b := 10) (by rw [Int.natAbs_natCast]; omega) (by rw [Int.natAbs_natCast]; omega) (by decide) (by decide) (by decide), t, (k : Int) * (w : Int), [.int 1], rfl, rfl, SqT.of upd_same, by simp, by omega, by omega, by show 1 ≤ 1000; omega, fun e1 => ?_, fun _ p np => ?_⟩⟩
  · have e1 : k * w = 1 := by omega
    refine q _ _ (same_new nt) ⟨t, rfl, .inl ?_, by rw [e1]; show 1 ≤ 45; omega⟩
    rw [upd_same, e1]
    rfl
  · refine q _ _ ((same_new nt).trans (same_new np)) ⟨p, rfl, .inl ?_, by rw [List.length_replicate]; omega⟩
    rw [upd_same, kwI, Int.toNat_natCast, repl_one, List.map_replicate]
section
variable {P : Program} {w : World} {K : PySem.W.Frag} {mg : Str → Option Value} {base : Heap} {T : List (Addr × Str)} {CS CS0 CW CM CC Pt : Addr} {f c0 : Addr} {A : Around} {outer : List Env} {s0 : Shared} {H00 : Hp} {E00 : XK}
theorem la_s1 (L0 : LE69 P w K mg base T CS CS0 CW CM CC) (hr : Room 12 (XL69 P w K mg base f c0 A outer s0 H00 E00).A) (t2 : PSs (XL69 P w K mg base f c0 A outer s0 H00 E00) ((forOf silFor).drop 4) (PS2 T)) : PSs (XL69 P w K mg base f c0 A outer s0 H00 E00) (forOf silFor) (PS1 T) := by
  have S := scLaw69
  have hr1 := hr.mono (show 1 ≤ 12 by decide)
  have hr2 := hr.mono (show 2 ≤ 12 by decide)
  have hr3 := hr.mono (show 3 ≤ 12 by decide)
  have hr4 := hr.mono (show 4 ≤ 12 by decide)
  have hr5 := hr.mono (show 5 ≤ 12 by decide)
  have hr6 := hr.mono (show 6 ≤ 12 by decide)
  have hr7 := hr.mono (show 7 ≤ 12 by decide)
  have mr := L0.fr "range" (by decide)
  have mn := L0.fr "len" (by decide)
  have mre := L0.fr "repr" (by decide)
  have mt := L0.fr "tuple" (by decide)
  have ml := L0.fr "list" (by decide)
  have mso := L0.fr "sorted" (by decide)
  have mm := L0.fr "min" (by decide)
  obtain ⟨fub, fdub, Gub, kub, bub, gub, kbub⟩ := L0.ub
  obtain ⟨flb, fdlb, Glb, klb, blb, glb⟩ := L0.lb
  obtain ⟨fip, fdip, Gip, kip, bip, gip⟩ := L0.ip
  refine PSs.pre (PS1 T) (pss_cons (ps_set (i := 9) S.nd rfl (.inl rfl) (pe_call Gub hr7 (by rfl) gub kub bub .nil (passes_call L2.takes0 fun _ _ _ _ h => h) (pa_cons (pv 3) (pa_cons (pv 4) (pa_cons (pv 7) (pa_cons (pv 8) pa_nil))))))
      (pss_cons (ps_if (pt_cmpR op_ne (pe_cmpR op_isN (pv 9) pe_non (nomark _)) (pe_call Glb hr5 (by rfl) glb klb blb .nil pass0 (pa_cons (pv 3) (pa_cons (pv 4) (pa_cons (pv 7) (pa_cons (pv 8) pa_nil))))) (nomark _)) (pss_one (ps_ret pe_bl)) pss_nil)
      (pss_cons (ps_if (PW.pt (pw_and (pt_cmpR op_notN (pv 9) pe_non (nomark _)) (pw_and1 (pt_not (pt_val (pe_call Gip hr2 (by rfl) gip kip bip .nil pass0 (pa_cons (pv 3) (pa_cons (pv 4) (pa_cons (pv 7) (pa_cons (pv 8) (pa_cons (pv 9) pa_nil))))))))))) (pss_one (ps_ret pe_bl)) pss_nil)
      (pss_cons (ps_set (i := 10) S.nd rfl (.inl rfl) (pe_ifExp (pt_cmpR op_notN (pv 9) pe_non (nomark _)) (pv 9) (pe_tup (pa_cons (pe_slice (show L2.SlR _ (rSlA K) from sl_tupA) (pv 3) po_none (po_some (pv 8))) (pa_cons (pe_op (show OpR _ (binaryOp .Mult) (rRepA K) from op_repA) (pe_tup (pa_cons pe_int pa_nil)) (pe_op op_mulW (pv 8) (pv 4))) pa_nil)))))
      t2)))) ?_
  rintro D0 σ H ⟨d, l, c, sa, sc, ss, rows, xs, wd, k, y0, y2, y5, y6, y9, y10, y11, y12, y13, y14, y15, rfl, F, hk, q⟩
  have kw : k * wd ≤ 8 := Nat.le_trans (Nat.mul_le_mul_right wd hk) F.sw
  have n4 := F.n4
  have w2 := F.w2
  have bear : ∀ {σ : L2.St} {H1 : Hp} {Q : VK}, Same H H1 → σ[3]? = some (some (.ref sa)) → σ[4]? = some (some (.int wd)) → σ[7]? = some (some (.ref sc)) → σ[8]? = some (some (.int k)) → (∀ H2, Same H1 H2 → Q (.bl (ubF ss wd k rows).isNone) H2) → tCall spLb [] E0 (tCons (tVar 3) (tCons (tVar 4) (tCons (tVar 7) (tCons (tVar 8) tNil)))) σ H1 Q := fun s h3 h4 h7 h8 q => by
    have F1 := F.same s
    exact ⟨_, h3, _, h4, _, h7, _, h8, sa, sc, ss, rows, xs, wd, k, 10, 67, 7, rfl, F1.fr, F1.sch, F1.rws, F1.ok hk, n4, w2, by decide +kernel, q⟩
  refine ⟨_, rfl, _, rfl, _, rfl, _, rfl, ?_⟩
  dsimp only [tNil]
  refine ub_of F hk (fun hn H1 s1 => ?_) fun c2 ns hs t a b H1 s1 et ea eb => ?_
  · refine ⟨_, rfl, rfl, bear s1 rfl rfl rfl rfl fun H2 s2 => ⟨rfl, _, rfl, ?_⟩⟩
    rw [hn]
    refine iteF ?_
    refine ⟨_, rfl, rfl, _, rfl, ?_⟩
    refine iteF ?_
    refine iteF ?_
    refine ⟨_, rfl, rfl, _, rfl, ?_⟩
    refine iteF ⟨_, rfl, _, rfl, _, rfl, slA_tup (F.row.same (s1.trans s2)).tv fun u H3 s3 hu => ?_⟩
    rw [cut_to'] at hu
    have eu : (vI ss).take k = vI (ss.take k) := by
      unfold vI
      rw [List.map_take]
    rw [eu] at hu
    have lt : (ss.take k).length = k := by rw [List.length_take]; omega
    obtain ⟨la, rfl, hla, l45⟩ := hu.row (by omega)
    have hw := F.w2
    refine rep_ones rfl rfl (by omega) (by omega) kw fun na H4 s4 hna => ⟨by show 2 ≤ sizeLine; rw [sizeLine_eq]; omega, fun pt npt => ?_⟩
    have s34 := s3.trans s4
    have sA := (((s1.trans s2).trans s34)).trans (same_new npt (o := .tup [.ref la, .ref na]))
    refine ⟨d, l, c, sa, sc, pt, la, na, ss, rows, xs, ss.take k, List.replicate (k * wd) 1, wd, k, _, _, _, _, _, _, _, _, _, _, rfl, F.same sA, hk, ⟨.inl upd_same, ⟨la, rfl, Rd.same (Rd.same hla s4) (same_new npt), l45⟩, hna.same (same_new npt), fun x hx => ?_, lt, fun x hx => List.mem_of_mem_take hx, List.length_replicate ..⟩, q⟩
    rw [(List.mem_replicate.mp hx).2]
    exact Nat.lt_of_lt_of_le (show 1 < 2 ^ 1 by decide) (Nat.pow_le_pow_right (by decide) (by decide))
  · refine ⟨_, rfl, rfl, bear s1 rfl rfl rfl rfl fun H2 s2 => ⟨rfl, _, rfl, ?_⟩⟩
    rw [hs]
    refine iteF ?_
    obtain ⟨hc, ln, _, _⟩ := ub_pair (F.ok hk) hs
    obtain ⟨sub, lk⟩ := mem_combs.mp hc
    have F2 := F.same (s1.trans s2)
    have hp : Rd H2 t (.tup [.ref a, .ref b]) := .inl (s2 _ _ et)
    have hla : Row H2 (.ref a) c2 := ⟨a, rfl, .inl (s2 _ _ ea), by omega⟩
    have hnb : Row H2 (.ref b) ns := ⟨b, rfl, .inl (s2 _ _ eb), by omega⟩
    have b8 := ub_bt (F.ok hk) hs
    have Tr : TrA H2 t a b ss c2 ns k wd := ⟨hp, hla, hnb, b8, lk, fun x hx => sub.subset hx, ln⟩
    refine ⟨_, rfl, rfl, _, rfl, ?_⟩
    refine iteT ⟨_, rfl, _, rfl, _, rfl, _, rfl, _, rfl, ?_⟩
    dsimp only [tNil]
    refine ip_of F2 hk hp hla Tr.sub lk Tr.num (by rw [(some_map ns).2]; exact bt_le (by decide) b8) fun H3 s3 => ⟨_, rfl, ?_⟩
    rw [iu_true (F.ok hk) hs]
    refine iteF ?_
    refine ⟨_, rfl, rfl, _, rfl, ?_⟩
    exact iteT ⟨_, rfl, d, l, c, sa, sc, t, a, b, ss, rows, xs, c2, ns, wd, k, _, _, _, _, _, _, _, _, _, _, rfl, F2.same s3, hk, Tr.same s3, q⟩
end
end Kn
-- part VLaT
set_option maxHeartbeats 8000000
/-! The law: a turn. -/
namespace Kn
open PySem PySem.Spec PyProof.Rows L2 Err LamX HLam La
def rFrz (K : PySem.W.Frag) : List V → Hp → VK → Prop := fun xs H Q => ∃ p ys, xs = [.ref p] ∧ SqL K H p ys ∧ ∀ l o, H l = none → o.dict = none → Q (.ref l) (upd H l (.frz o (.tup ys)))
def P0 (T : List (Addr × Str)) : TS := fun D σ H => ∃ d l c, LInv T d l c σ H ∧ ∀ σ' H', LInv T d l c σ' H' → D.nx σ' H'
def PT (T : List (Addr × Str)) : TS := fun D σ H => ∃ d l c sa sc ss rows xs, ∃ w : Nat, LSil T d l c sa sc ss w rows xs σ H ∧ ∀ σ' H', LInv T d l c σ' H' → D.nx σ' H'
def toI : V → Int
  | .int i => i
  | _ => 0
theorem seats_of {ys : List V} (h : ys.Perm (rgV 1 10)) : ∃ ns : List Int, ys = ns.map V.int ∧ ns.Nodup ∧ (∀ x ∈ ns, 1 ≤ x ∧ x ≤ 9) ∧ ns.length = 9 := by
  have e : (rgV 1 10).map toI = [1, 2, 3, 4, 5, 6, 7, 8, 9] := by decide +kernel
  have hp : (ys.map toI).Perm [1, 2, 3, 4, 5, 6, 7, 8, 9] := e ▸ h.map toI
  refine ⟨ys.map toI, ?_, hp.nodup_iff.mpr (by decide), fun x hx => ?_, hp.length_eq⟩
  · rw [List.map_map]
    refine (List.map_id ys).symm.trans (List.map_congr_left fun y hy => ?_)
    have z := h.mem_iff.mp hy
    unfold rgV at z
    obtain ⟨i, _, rfl⟩ := List.mem_map.mp z
    rfl
  · have z := hp.mem_iff.mp hx
    simp only [List.mem_cons, List.not_mem_nil, or_false] at z
    omega
theorem seats_te0 : True := trivial
theorem le_lt_of_nd {l : List Int} (h : l.Pairwise (· ≤ ·)) (nd : l.Nodup) : l.Pairwise (· < ·) := by
  rw [List.nodup_iff_pairwise_ne] at nd
  exact (h.and nd).imp fun ⟨a, b⟩ => by omega
theorem seats_te {K : PySem.W.Frag} {σ : L2.St} {H : Hp} {Q : VK} {te : TE} {d l c : Addr} {Pj : Nat → Prop} (h1 : σ[1]? = some (some (.ref d))) (D : Drw H d l c)
    (hb : ∀ (H1 : Hp) (R : V → Hp → Prop), Drw H1 d l c → (∀ (j : Nat) H2, 1 ≤ j → j ≤ 8 → Pj j → Drw H2 d l c → But d l H1 H2 → R (.int (j : Nat)) H2) → te σ H1 R)
    (q : ∀ sa ss H', Drw H' d l c → But d l H H' → FrT H' sa (vI ss) → ascB ss = true → (∀ s ∈ ss, 1 ≤ s ∧ s ≤ 9) → Pj ss.length → 1 ≤ ss.length → ss.length ≤ 8 → Q (.ref sa) H') :
    tCB (rFrz K) (tCons (tCB (rSorted K) (tCons (tSl (rSlL K) (tCall spShuf [] E0 (tCons (tVar 1) (tCons (tLstRg (tRg2 (tC (V.int 1)) (tC (V.int 10)))) tNil))) tNoPart (tPart te)) tNil)) tNil) σ H Q := by
  refine ⟨_, h1, 1, 10, rfl, rfl, RgOk.of_le (by decide) (by decide) (by decide) (by decide), fun s0 ns0 => ?_⟩
  have D2 : Drw (L2.upd H s0 (.lst (rgV 1 10))) d l c := D.new ns0
  refine ⟨d, l, c, s0, rgV 1 10, rfl, D2, upd_same, (D.off ns0).2, fun x hx => ?_, by rw [rgV_length]; decide, fun yl ys H3 perm D3 B3 nyl eyl => ?_⟩
  · unfold rgV at hx
    obtain ⟨i, _, rfl⟩ := List.mem_map.mp hx
    exact ⟨_, .int _⟩
  obtain ⟨ns, rfl, nd, n19, n9⟩ := seats_of perm
  have B13 : But d l H H3 := (But.new ns0).trans B3
  have offy := D2.off nyl
  refine hb H3 _ D3 fun j H4 j1 j8 pj D4 B4 => ⟨_, rfl, yl, _, rfl, SqL.of (B4 _ _ eyl offy.1 offy.2), fun zl nzl => ?_⟩
  rw [cut_to', ← List.map_take]
  have lt : (ns.take j).length = j := by rw [List.length_take, n9]; omega
  refine ⟨zl, ns.take j, rfl, SqL.of upd_same, by omega, fun ss p perm2 srt np => ⟨p, _, rfl, SqL.of upd_same, fun sa o nsa od => ?_⟩⟩
  have nd2 : (ns.take j).Nodup := nd.sublist (List.take_sublist _ _)
  have lss : ss.length = j := by rw [perm2.length_eq]; exact lt
  refine q sa ss _ (((D4.new nzl).new np).new nsa) ((((B13.trans B4).trans (.new nzl)).trans (.new np)).trans (.new nsa)) ⟨o, upd_same, od⟩ (asc_of (le_lt_of_nd srt (perm2.nodup_iff.mpr nd2))) (fun s hs => n19 s (List.mem_of_mem_take (perm2.mem_iff.mp hs))) (by rw [lss]; exact pj) (by omega) (by omega)
section
variable {P : Program} {w : World} {K : PySem.W.Frag} {mg : Str → Option Value} {base : Heap} {T : List (Addr × Str)} {CS CS0 CW CM CC Pt : Addr} {f c0 : Addr} {A : Around} {outer : List Env} {s0 : Shared} {H00 : Hp} {E00 : XK}
theorem la_t (L0 : LE69 P w K mg base T CS CS0 CW CM CC) (hr : Room 12 (XL69 P w K mg base f c0 A outer s0 H00 E00).A) (t1 : PSs (XL69 P w K mg base f c0 A outer s0 H00 E00) (forOf silFor) (PS1 T)) : PSs (XL69 P w K mg base f c0 A outer s0 H00 E00) (forOf lawFor) (P0 T) := by
  have S := scLaw69
  have hr1 := hr.mono (show 1 ≤ 12 by decide)
  have hr2 := hr.mono (show 2 ≤ 12 by decide)
  have hr3 := hr.mono (show 3 ≤ 12 by decide)
  have hr4 := hr.mono (show 4 ≤ 12 by decide)
  have hr5 := hr.mono (show 5 ≤ 12 by decide)
  have hr6 := hr.mono (show 6 ≤ 12 by decide)
  have hr7 := hr.mono (show 7 ≤ 12 by decide)
  have mr := L0.fr "range" (by decide)
  have mn := L0.fr "len" (by decide)
  have mre := L0.fr "repr" (by decide)
  have mt := L0.fr "tuple" (by decide)
  have ml := L0.fr "list" (by decide)
  have mso := L0.fr "sorted" (by decide)
  have mm := L0.fr "min" (by decide)
  obtain ⟨fshuf, fdshuf, Gshuf, kshuf, bshuf, gshuf⟩ := L0.shuf
  obtain ⟨ftake, fdtake, Gtake, ktake, btake, gtake⟩ := L0.take
  obtain ⟨fps, fdps, Gps, kps, bps, gps, kbps⟩ := L0.ps
  obtain ⟨flw, fdlw, Glw, klw, blw, glw⟩ := L0.lw
  obtain ⟨fub, fdub, Gub, kub, bub, gub, kbub⟩ := L0.ub
  obtain ⟨fsc, fdsc, Gsc, ksc, bsc, gsc⟩ := L0.sc
  refine PSs.pre (P0 T) (pss_cons (ps_set (i := 3) S.nd rfl (.inl rfl) (pe_callTy (show CallR _ (.type "tuple") (rFrz K) from call_tuple_frz) (by rfl) mt (by decide +kernel) (pa_cons (pe_callB (show CallR _ (.builtin "sorted") (rSorted K) from cr_sorted) (by rfl) mso (by decide +kernel) (pa_cons (pe_slice (show L2.SlR _ (rSlL K) from sl_list) (pe_call Gshuf hr3 (by rfl) gshuf kshuf bshuf .nil pass0 (pa_cons (pv 1) (pa_cons (pe_listRg (by rfl) (by rfl) ml (prg_2 (by rfl) mr pe_int pe_int)) pa_nil))) po_none (po_some (pe_op op_add pe_int (pe_call Gtake hr2 (by rfl) gtake ktake btake .nil pass0 (pa_cons (pv 1) (pa_cons pe_int pa_nil)))))) pa_nil)) pa_nil)))
      (pss_cons (ps_par (i := 4) (j := 5) rfl S.nd rfl rfl (by decide) rfl rfl (pa_cons (pe_op op_add pe_int (pe_call Gtake hr2 (by rfl) gtake ktake btake .nil pass0 (pa_cons (pv 1) (pa_cons pe_int pa_nil)))) (pa_cons (pe_call Gtake hr2 (by rfl) gtake ktake btake .nil pass0 (pa_cons (pv 1) (pa_cons pe_int pa_nil))) pa_nil)) (by rfl) (by rfl))
      (pss_cons (ps_set (i := 6) S.nd rfl (.inl rfl) (pe_callN0 Gps hr6 (by rfl) gps kps kbps (passes_call L2.takes0 fun _ _ _ _ h => h) (pk_cons (pv 5) (pk_cons (pv 4) (pk_cons (pv 3) pk_nil)))))
      (pss_cons (ps_if (pt_cmpR (show OpR _ (compareOp .NotEq) (rNeD K) from op_neD hr.units) (pv 6) (pe_call Glw hr2 (by rfl) glw klw blw .nil pass0 (pa_cons (pv 3) (pa_cons (pv 4) (pa_cons (pv 5) pa_nil)))) (nomark _)) (pss_one (ps_ret pe_bl)) pss_nil)
      (pss_cons (ps_if (pt_cmpR op_notN (pe_call Gub hr7 (by rfl) gub kub bub .nil (passes_call L2.takes0 fun _ _ _ _ h => h) (pa_cons (pv 3) (pa_cons (pv 4) (pa_cons (pv 6) (pa_cons (pe_callB (call_min2 rfl) (by rfl) mm (by decide +kernel) (pa_cons (pv 5) (pa_cons (pe_callB (show CallR _ (.builtin "len") (rLenS K) from call_len_seq) (by rfl) mn PySem.boot_len (pa_cons (pv 3) pa_nil)) pa_nil))) pa_nil))))) pe_non (nomark _)) (pss_one (ps_ret pe_bl)) pss_nil)
      (pss_cons (ps_set (i := 7) S.nd rfl (.inl rfl) (pe_call Gsc hr4 (by rfl) gsc ksc bsc .nil pass0 (pa_cons (pv 1) (pa_cons (pv 3) (pa_cons (pv 4) (pa_cons (pv 6) pa_nil))))))
      (PSs.pre (PT T) (pss_cons (ps_for PassesOwn.never rfl (pi_range1 (by rfl) mr (pa_cons (pe_op op_add (pe_callB (show CallR _ (.builtin "len") (rLenS K) from call_len_seq) (by rfl) mn PySem.boot_len (pa_cons (pv 3) pa_nil)) pe_int) pa_nil)) (pg_name (i := 8) S.nd rfl (.inl rfl)) t1)
      (PSs.pre (PT T) (pss_one (ps_if (pt_cmpR (show OpR _ (compareOp .NotEq) (rNeD K) from op_neD hr.units) (pe_callN0 Gub hr7 (by rfl) gub kub kbub (passes_call L2.takes0 fun _ _ _ _ h => h) (pk_cons pe_int (pk_cons (pe_callTy (show CallR _ (.type "tuple") (rTupA K) from call_tuple_of) (by rfl) mt (by decide +kernel) (pa_cons (pv 7) pa_nil)) (pk_cons (pv 4) (pk_cons (pv 3) pk_nil))))) (pe_call Gub hr7 (by rfl) gub kub bub .nil (passes_call L2.takes0 fun _ _ _ _ h => h) (pa_cons (pv 3) (pa_cons (pv 4) (pa_cons (pv 7) (pa_cons pe_int pa_nil))))) (nomark _)) (pss_one (ps_ret pe_bl)) pss_nil)) ?lasts)) ?sils))))))) ?first
  case first =>
    rintro D0 σ H ⟨d, l, c, ⟨y0, y2, y3, y4, y5, y6, y7, y8, y9, y10, y11, y12, y13, y14, y15, rfl, D, hT⟩, q⟩
    dsimp only [tSeq]
    dsimp only [tAsg]
    refine seats_te (σ := [y0, some (.ref d), y2, y3, y4, y5, y6, y7, y8, y9, y10, y11, y12, y13, y14, y15]) (Pj := fun j => j ≤ 4) rfl D (fun H1 R D1 h => ⟨_, rfl, d, l, c, 4, rfl, D1, by decide, by decide, fun k H2 k0 k4 D2 B2 => ⟨1, k, rfl, rfl, ?_⟩⟩) fun sa ss H1 D1 B1 fr asc rg n4 n1 n8 => ?_
    · show R (.int (1 + k)) H2
      rw [show (1 + k : Int) = ((k.toNat + 1 : Nat) : Int) by omega]
      exact h _ H2 (by omega) (by omega) (by omega) D2 B2
    have T1 := tabs_but hT D B1
    refine ⟨_, rfl, d, l, c, 2, rfl, D1, by decide, by decide, fun k H2 k0 k2 D2 B2 => ⟨1, k, rfl, rfl, _, rfl, d, l, c, 5, rfl, D2, by decide, by decide, fun n H3 n0 n5 D3 B3 => ⟨_, _, rfl, ?_⟩⟩⟩
    obtain ⟨wd, hwd, w1, w2⟩ : ∃ wd : Nat, (1 + k : Int) = (wd : Int) ∧ 1 ≤ wd ∧ wd ≤ 2 := ⟨k.toNat + 1, by omega, by omega, by omega⟩
    obtain ⟨nn, rfl⟩ : ∃ nn : Nat, n = (nn : Int) := ⟨n.toNat, by omega⟩
    dsimp only [List.set]
    rw [hwd]
    have nn4 : nn ≤ 4 := by omega
    have sw : ss.length * wd ≤ 4 * 2 := Nat.mul_le_mul n4 w2
    have T3 := tabs_but (tabs_but T1 D1 B2) D2 B3
    have fr3 := Kn.FrT.but (Kn.FrT.but fr D1 B2) D2 B3
    have row : ∀ {H'}, FrT H' sa (vI ss) → Row H' (.ref sa) ss := fun h => ⟨sa, rfl, h.rd, by omega⟩
    refine ⟨_, rfl, _, rfl, _, rfl, rfl, rfl, .inr ⟨sa, ss, wd, nn, rfl, row fr3, asc, rg, n1, n8, w1, by omega, nn4, by omega, fun pl xs0 H4 s4 npl epl rpl => ?_⟩⟩
    have D4 := D3.same s4
    have fr4 := fr_same fr3 s4
    have offp := D3.off npl
    refine ⟨_, rfl, _, rfl, _, rfl, _, rfl, sa, ss, wd, nn, rfl, row fr4, rg, by omega, nn4, by omega, fun l2 vs2 H5 s5 nl2 el2 rl2 => rows_ne (s5 _ _ epl) (rpl.same s5) el2 rl2 ⟨_, rfl, iteF ?_⟩⟩
    have s45 := s4.trans s5
    obtain ⟨kk, hkk, kk1, kk2⟩ : ∃ kk : Nat, (if (((vI ss).length : Nat) : Int) < (nn : Int) then (((vI ss).length : Nat) : Int) else (nn : Int)) = (kk : Int) ∧ kk ≤ nn ∧ kk ≤ ss.length := by
      rw [List.length_map]
      by_cases c : ((ss.length : Nat) : Int) < (nn : Int)
      · exact ⟨ss.length, by rw [if_pos c], by omega, Nat.le_refl _⟩
      · exact ⟨nn, by rw [if_neg c], Nat.le_refl _, by omega⟩
    obtain ⟨lps, fps⟩ := psF_facts (w := wd) (n := nn) rg nn4
    have nw8 : nn * wd ≤ 4 * 2 := Nat.mul_le_mul nn4 w2
    have okP := schOk_of (rows := psF ss wd nn) asc rg n1 n8 w1 (by omega) (by omega) (schG_all (fun r hr => (fps r hr).1) (by omega) fun r hr => (fps r hr).2) kk2
    have nop := powers_bear okP kk1 nn4
    refine ⟨_, rfl, _, rfl, _, rfl, _, rfl, _, rfl, sa, vI ss, rfl, .inr (.inl (fr_same fr3 s45).rd), nn, _, rfl, ?_⟩
    rw [hkk]
    refine .inr ⟨sa, ss, pl, psF ss wd nn, wd, kk, 10, 67, 7, rfl, row (fr_same fr3 s45), ⟨xs0, .inl (s5 _ _ epl), rpl.same s5⟩, okP, fun _ H6 s6 => ?_, fun c2 ns2 e2 => by rw [nop] at e2; cases e2⟩
    refine ⟨rfl, _, rfl, ?_⟩
    refine iteF ?_
    have s46 := s45.trans s6
    have fr6 := fr_same fr3 s46
    have D6 := D3.same s46
    refine ⟨_, rfl, _, rfl, _, rfl, _, rfl, d, l, c, sa, pl, ss, xs0, wd, nn, rfl, D6, row fr6, s6 _ _ (s5 _ _ epl), offp.2, (rpl.same s5).same s6, n1, n4, rg, w1, w2, nn4, fun p xs rows H7 D7 B7 ep npl2 rl7 g7 => ?_⟩
    exact ⟨d, l, c, sa, p, ss, rows, xs, wd, ⟨_, _, _, _, _, _, _, _, _, _, _, _, rfl, ⟨D7, tabs_but (T3.ext s46) D6 B7, Kn.FrT.but fr6 D6 B7, ep, npl2, rl7, asc, rg, n1, n4, w1, w2, g7⟩⟩, q⟩
  case sils =>
    rintro D0 σ H ⟨d, l, c, sa, sc, ss, rows, xs, wd, ⟨y0, y2, y5, y6, y8, y9, y10, y11, y12, y13, y14, y15, rfl, F⟩, q⟩
    refine ⟨_, rfl, sa, vI ss, rfl, .inr (.inl F.fr.rd), _, _, rfl, rfl, _, rfl, by rw [List.length_map]; have := F.n4; omega, by rw [List.length_map]; have := F.n4; omega, for_range (fun i σ H1 => LSil T d l c sa sc ss wd rows xs σ H1) ⟨_, _, _, _, _, _, _, _, _, _, _, _, rfl, F⟩ ?_ ?_⟩
    · rintro i σ H1 hi ⟨z0, z2, z5, z6, z8, z9, z10, z11, z12, z13, z14, z15, rfl, F1⟩
      rw [Int.zero_add]
      exact ⟨d, l, c, sa, sc, ss, rows, xs, wd, i, _, _, _, _, _, _, _, _, _, _, _, rfl, F1, by rw [List.length_map] at hi; omega, fun σ' H' z => z⟩
    · rintro σ H1 z
      exact ⟨d, l, c, sa, sc, ss, rows, xs, wd, z, q⟩
  case lasts =>
    rintro D0 σ H ⟨d, l, c, sa, sc, ss, rows, xs, wd, ⟨y0, y2, y5, y6, y8, y9, y10, y11, y12, y13, y14, y15, rfl, F⟩, q⟩
    have n1 := F.n1
    have fin : ∀ H', Same H H' → D0.nx [y0, some (.ref d), y2, some (.ref sa), some (.int wd), y5, y6, some (.ref sc), y8, y9, y10, y11, y12, y13, y14, y15] H' := fun H' s => q _ _ ⟨_, _, _, _, _, _, _, _, _, _, _, _, _, _, _, rfl, (F.same s).D, (F.same s).T⟩
    refine ⟨_, rfl, sc, xs, rfl, .inl ⟨SqL.of F.sch, fun t nt => ⟨_, rfl, _, rfl, rfl, rfl, ?_⟩⟩⟩
    have st : Same H (L2.upd H t (.tup xs)) := same_new nt
    have et : (L2.upd H t (.tup xs)) t = some (.tup xs) := upd_same
    generalize L2.upd H t (.tup xs) = H1 at st et ⊢
    have F1 := F.same st
    have okF := F.ok (k := 1) n1
    have two : ∀ (x : V) (H2 : Hp), Same H1 H2 → (match ubF ss wd 1 rows with | none => x = .non | some (c, ns) => ∃ t a b, x = .ref t ∧ H2 t = some (.tup [.ref a, .ref b]) ∧ H2 a = some (.tup (vI c)) ∧ H2 b = some (.tup (vI ns))) →
        spOr (spUbE CS0 CW CM CC) spUbG ([.ref sa, .int wd, .ref sc, .int (1 : Nat)] ++ []) H2 (fun y H3 => rNeD K x y H3 fun z H4 => ∃ k, z = V.bl k ∧ if k = true then tRet (tC (V.bl false)) D0 [y0, some (.ref d), y2, some (.ref sa), some (.int wd), y5, y6, some (.ref sc), y8, y9, y10, y11, y12, y13, y14, y15] H4 else tNext D0 [y0, some (.ref d), y2, some (.ref sa), some (.int wd), y5, y6, some (.ref sc), y8, y9, y10, y11, y12, y13, y14, y15] H4) (fun _ _ _ => False) := by
      intro x H2 s2 hx
      refine ub_of (F1.same s2) n1 (fun hn H3 s3 => ?_) fun c2 ns2 hs t2 a2 b2 H3 s3 e1 e2 e3 => ?_
      · rw [hn] at hx
        have hx : x = .non := hx
        subst hx
        exact pair_ne (o := none) (fun _ _ => rfl) rfl ⟨_, rfl, iteF (fin _ ((st.trans s2).trans s3))⟩
      · rw [hs] at hx
        obtain ⟨t1, a1, b1, rfl, f1, f2, f3⟩ := hx
        exact pair_ne (o := some (c2, ns2)) (fun H' s => ⟨t1, a1, b1, rfl, s _ _ (s3 _ _ f1), s _ _ (s3 _ _ f2), s _ _ (s3 _ _ f3)⟩) ⟨t2, a2, b2, rfl, e1, e2, e3⟩ ⟨_, rfl, iteF (fin _ ((st.trans s2).trans s3))⟩
    refine .inr ⟨sa, ss, t, rows, wd, 1, 10, 67, 7, rfl, F1.row, ⟨xs, .inr (.inl et), F1.rws⟩, okF, fun hn H2 s2 => ⟨_, rfl, _, rfl, _, rfl, ?_⟩, fun c2 ns2 hs t2 a2 b2 H2 s2 e1 e2 e3 => ⟨_, rfl, _, rfl, _, rfl, ?_⟩⟩
    · refine two .non H2 s2 ?_
      rw [hn]
    · refine two (.ref t2) H2 s2 ?_
      rw [hs]
      exact ⟨t2, a2, b2, rfl, e1, e2, e3⟩
end
end Kn
-- part VLaw
set_option maxHeartbeats 8000000
/-! The law: the whole of it. -/
namespace Kn
open PySem PySem.Spec PyProof.Rows L2 Err LamX HLam La
def spLaw69 (K : PySem.W.Frag) (T : List (Addr × Str)) : Sp := fun vs H Q _ => ∃ (a : Addr) (ns : List Int), vs = [.ref a] ∧ SqL K H a (ns.map V.int) ∧ ns.length ≤ 63 ∧ Tabs T H ∧ ∀ H', Q (.bl true) H'
theorem sql_same {K : PySem.W.Frag} {H H' : Hp} {a : Addr} {xs : List V} (h : SqL K H a xs) (s : Same H H') : SqL K H' a xs := by
  rcases h with h | h
  · exact .inl (Rd.same h s)
  · exact .inr h
theorem ok9 : SchOk [9] 6 1 (psF [9] 6 4) 10 67 6 := by
  obtain ⟨lps, fps⟩ := psF_facts (ss := [9]) (w := 6) (n := 4) (fun s hs => by rw [List.mem_singleton.mp hs]; omega) (Nat.le_refl 4)
  exact ⟨rfl, fun s hs => by rw [List.mem_singleton.mp hs]; omega, by decide, by decide, by decide, by decide, by decide, fun r hr => (fps r hr).1, by rw [lps]; decide, fun i r e _ => (fps r (List.mem_of_getElem? e)).2, fun r hr => bt_le (by decide) (fps r hr).2, by decide, by decide, .inr (by decide), by decide +kernel⟩
theorem row9 {H : Hp} {t : Addr} (e : H t = some (.tup [.int 9])) : Row H (.ref t) [9] := ⟨t, rfl, .inl e, by decide⟩
section
variable {P : Program} {w : World} {CS CS0 CW CM CC : Addr} {K : PySem.W.Frag} {mg : Str → Option Value} {base : Heap} {T : List (Addr × Str)} {f c0 : Addr}
theorem ok_law69 {fd : FuncData} (F : FunC K "law" "law" sLaw f fd c0) (L0 : LE69 P w K mg base T CS CS0 CW CM CC) : Gd.FnOkG P w K mg base CX0 13 f fd ["_law_script"] (spLaw69 K T) := by
  have S := scLaw69
  obtain ⟨oc, od, kV, doc, pm, an, ct, osl, rfl, lk, hcd⟩ := F.ex
  have mr := L0.fr "range" (by decide)
  have mn := L0.fr "len" (by decide)
  have mt := L0.fr "tuple" (by decide)
  have ml := L0.fr "list" (by decide)
  have mso := L0.fr "sorted" (by decide)
  have mm := L0.fr "min" (by decide)
  obtain ⟨fbegun, fdbegun, Gbegun, kbegun, bbegun, gbegun⟩ := L0.begun
  obtain ⟨fshuf, fdshuf, Gshuf, kshuf, bshuf, gshuf⟩ := L0.shuf
  obtain ⟨ftake, fdtake, Gtake, ktake, btake, gtake⟩ := L0.take
  obtain ⟨fps, fdps, Gps, kps, bps, gps, kbps⟩ := L0.ps
  obtain ⟨flw, fdlw, Glw, klw, blw, glw⟩ := L0.lw
  obtain ⟨fub, fdub, Gub, kub, bub, gub, kbub⟩ := L0.ub
  obtain ⟨frf, fdrf, Grf, krf, brf, grf⟩ := L0.rf
  refine Gd.okG_of lk hcd S (fun vs H Q E h => ?_) fun A outer s H vs Q E hr hg h => ?_
  · obtain ⟨a, ns, rfl, _⟩ := h
    rfl
  · obtain ⟨a, ns, rfl, hS, hn, hT, q⟩ := h
    have hr1 := hr.mono (show 1 ≤ 12 by decide)
    have hr2 := hr.mono (show 2 ≤ 12 by decide)
    have hr3 := hr.mono (show 3 ≤ 12 by decide)
    have hr6 := hr.mono (show 6 ≤ 12 by decide)
    have hr7 := hr.mono (show 7 ≤ 12 by decide)
    suffices z : ∃ t, PSs (XL69 P w K mg base f c0 A outer s H E) (defBody sLaw) t ∧ t { nx := fun _ H' => Q .non H', rt := Q } (start NLa [.ref a]) H by
      obtain ⟨t, h1, h2⟩ := z
      exact ⟨t, h1.nox, h2⟩
    have t2 := la_s2 (f := f) (c0 := c0) (A := A) (outer := outer) (s0 := s) (H00 := H) (E00 := E) L0 hr hg
    have t1 := la_s1 (f := f) (c0 := c0) (A := A) (outer := outer) (s0 := s) (H00 := H) (E00 := E) L0 hr t2
    have t0 := la_t (f := f) (c0 := c0) (A := A) (outer := outer) (s0 := s) (H00 := H) (E00 := E) L0 hr t1
    refine ⟨_, (pss_cons (ps_set (i := 1) S.nd rfl (.inl rfl) (pe_call Gbegun hr1 (by rfl) gbegun kbegun bbegun .nil pass0 (pa_cons (pv 0) pa_nil)))
      (pss_cons (ps_for PassesOwn.never rfl (pi_range1 (by rfl) mr (pa_cons (pe_op op_add pe_int (pe_callB (call_min2 rfl) (by rfl) mm (by decide +kernel) (pa_cons (pe_callB call_len_seq (by rfl) mn PySem.boot_len (pa_cons (pv 0) pa_nil)) (pa_cons pe_int pa_nil)))) pa_nil)) (pg_name (i := 2) S.nd rfl (.inl rfl))
        t0)
      (pss_cons (ps_set (i := 3) S.nd rfl (.inl rfl) (pe_callTy (show CallR _ (.type "tuple") (rFrz K) from call_tuple_frz) (by rfl) mt (by decide +kernel) (pa_cons (pe_callB (show CallR _ (.builtin "sorted") (rSorted K) from cr_sorted) (by rfl) mso (by decide +kernel) (pa_cons (pe_slice (show L2.SlR _ (rSlL K) from sl_list) (pe_call Gshuf hr3 (by rfl) gshuf kshuf bshuf .nil pass0 (pa_cons (pv 1) (pa_cons (pe_listRg (by rfl) (by rfl) ml (prg_2 (by rfl) mr pe_int pe_int)) pa_nil))) po_none (po_some pe_int)) pa_nil)) pa_nil)))
      (pss_cons (ps_if (PW.pt (pw_or (pt_cmpR (show OpR _ (compareOp .NotEq) (rNeD K) from op_neD hr.units) (pe_call Gps hr6 (by rfl) gps kps bps .nil (passes_call L2.takes0 fun _ _ _ _ h => h) (pa_cons (pe_tup (pa_cons pe_int pa_nil)) (pa_cons pe_int (pa_cons pe_int pa_nil)))) (pe_call Glw hr2 (by rfl) glw klw blw .nil pass0 (pa_cons (pe_tup (pa_cons pe_int pa_nil)) (pa_cons pe_int (pa_cons pe_int pa_nil)))) (nomark _)) (pw_or1 (pt_cmpR op_notN (pe_call Gub hr7 (by rfl) gub kub bub .nil (passes_call L2.takes0 fun _ _ _ _ h => h) (pa_cons (pe_tup (pa_cons pe_int pa_nil)) (pa_cons pe_int (pa_cons (pe_call Glw hr2 (by rfl) glw klw blw .nil pass0 (pa_cons (pe_tup (pa_cons pe_int pa_nil)) (pa_cons pe_int (pa_cons pe_int pa_nil)))) (pa_cons pe_int pa_nil))))) pe_non (nomark _))))) (pss_one (ps_ret pe_bl)) pss_nil)
      (pss_cons (ps_if (pt_cmpR op_notN (pe_call Gub hr7 (by rfl) gub kub bub .nil (passes_call L2.takes0 fun _ _ _ _ h => h) (pa_cons (pv 3) (pa_cons pe_int (pa_cons (pe_call Glw hr2 (by rfl) glw klw blw .nil pass0 (pa_cons (pv 3) (pa_cons pe_int (pa_cons pe_int pa_nil)))) (pa_cons pe_int pa_nil))))) pe_non (nomark _)) (pss_one (ps_ret pe_bl)) pss_nil)
      (pss_cons (ps_if (pt_cmpR op_isN (pe_call Gub hr7 (by rfl) gub kub bub .nil (passes_call L2.takes0 fun _ _ _ _ h => h) (pa_cons (pv 3) (pa_cons pe_int (pa_cons (pe_call Glw hr2 (by rfl) glw klw blw .nil pass0 (pa_cons (pv 3) (pa_cons pe_int (pa_cons pe_int pa_nil)))) (pa_cons pe_int pa_nil))))) pe_non (nomark _)) (pss_one (ps_ret pe_bl)) pss_nil)
      (pss_one (ps_ret (pe_call Grf hr (by rfl) grf krf brf .nil pass0 (pa_cons (pv 1) pa_nil)))))))))), ?_⟩
    refine ⟨_, rfl, a, ns, rfl, hS, hn, fun d l c H1 s1 nd nl nc D => ?_⟩
    have hS1 := sql_same hS s1
    have small : (if (3 : Int) < ((ns.map V.int).length : Int) then (3 : Int) else ((ns.map V.int).length : Int)) ≤ 3 := by
      split <;> omega
    have pos : (0 : Int) ≤ (if (3 : Int) < ((ns.map V.int).length : Int) then (3 : Int) else ((ns.map V.int).length : Int)) := by
      split <;> omega
    refine ⟨_, rfl, a, _, rfl, .inl hS1, _, _, rfl, _, _, rfl, rfl, _, rfl, by omega, by omega, for_range (fun i σ H2 => LInv T d l c σ H2)
      ⟨_, _, _, _, _, _, _, _, _, _, _, _, _, _, _, rfl, D, hT.ext s1⟩ ?_ ?_⟩
    · rintro i σ H2 hi ⟨y0, y2, y3, y4, y5, y6, y7, y8, y9, y10, y11, y12, y13, y14, y15, rfl, z⟩
      exact ⟨d, l, c, ⟨_, _, _, _, _, _, _, _, _, _, _, _, _, _, _, rfl, z⟩, fun σ' H' z' => z'⟩
    · rintro σ H2 ⟨y0, y2, y3, y4, y5, y6, y7, y8, y9, y10, y11, y12, y13, y14, y15, rfl, D2, T2⟩
      have size1 : (1 : Nat) ≤ sizeLine := by rw [sizeLine_eq]; omega
      dsimp only [tSeq]
      dsimp only [tAsg]
      refine seats_te (σ := [y0, some (.ref d), y2, y3, y4, y5, y6, y7, y8, y9, y10, y11, y12, y13, y14, y15]) (Pj := fun j => j = 8) rfl D2 (fun H3 R D3 h => h 8 H3 (by omega) (by omega) rfl D3 .refl) fun sa ss H3 D3 B3 fr asc rg e8 n1 n8 => ?_
      have T3 := tabs_but T2 D2 B3
      have rg9 : ∀ s ∈ ([9] : List Int), 1 ≤ s ∧ s ≤ 9 := fun s hs => by rw [List.mem_singleton.mp hs]; omega
      -- the widest
      refine ⟨size1, fun t nt => .inr ⟨t, [9], 6, 4, rfl, row9 upd_same, rfl, rg9, by decide, by decide, by decide, by decide, by decide, by decide, fun pl xs0 H4 s4 npl epl rpl => ?_⟩⟩
      refine ⟨size1, fun t2 nt2 => ⟨t2, [9], 6, 4, rfl, row9 upd_same, rg9, by decide, by decide, by decide, fun l2 vs2 H5 s5 nl2 el2 rl2 => rows_ne (s5 _ _ (same_new nt2 _ _ epl)) ((rpl.same (same_new nt2)).same s5) el2 rl2 ⟨_, rfl, iteF ?_⟩⟩⟩
      have s35 := (((same_new nt (o := .tup [.int 9])).trans s4).trans (same_new nt2 (o := .tup [.int 9]))).trans s5
      refine ⟨size1, fun t3 nt3 => ⟨size1, fun t4 nt4 => ⟨t4, [9], 6, 4, rfl, row9 upd_same, rg9, by decide, by decide, by decide, fun l3 vs3 H6 s6 nl3 el3 rl3 => ?_⟩⟩⟩
      have s36 := ((s35.trans (same_new nt3 (o := .tup [.int 9]))).trans (same_new nt4 (o := .tup [.int 9]))).trans s6
      refine .inr ⟨t3, [9], l3, psF [9] 6 4, 6, 1, 10, 67, 6, rfl, row9 (s6 _ _ (same_new nt4 _ _ upd_same)), ⟨vs3, .inl el3, rl3⟩, ok9, fun _ H7 s7 => ⟨rfl, _, rfl, ?_⟩, fun c2 ns2 e2 => by rw [powers_bear ok9 (by decide) (Nat.le_refl 4)] at e2; cases e2⟩
      refine iteF ?_
      have s37 := s36.trans s7
      -- as many as checks
      have row : ∀ {H'}, Same H3 H' → Row H' (.ref sa) ss := fun s => ⟨sa, rfl, (fr_same fr s).rd, by omega⟩
      have gP : ∀ n, n ≤ 4 → SchG (ss.length * 1) (psF ss 1 n) := fun n hn => by
        obtain ⟨lps, fps⟩ := psF_facts (w := 1) (n := n) rg hn
        exact schG_all (fun r hr => (fps r hr).1) (by omega) fun r hr => (fps r hr).2
      have okP : ∀ n, n ≤ 4 → SchOk ss 1 4 (psF ss 1 n) 10 67 7 := fun n hn => schOk_of asc rg n1 n8 (by decide) (by decide) (by omega) (gP n hn) (by omega)
      refine ⟨_, rfl, _, rfl, sa, ss, 1, 4, rfl, row s37, rg, by decide, by decide, by omega, fun l4 vs4 H8 s8 nl4 el4 rl4 => ?_⟩
      refine .inr ⟨sa, ss, l4, psF ss 1 4, 1, 4, 10, 67, 7, rfl, row (s37.trans s8), ⟨vs4, .inl el4, rl4⟩, okP 4 (Nat.le_refl 4), fun _ H9 s9 => ⟨rfl, _, rfl, ?_⟩, fun c2 ns2 e2 => by rw [powers_bear (okP 4 (Nat.le_refl 4)) (Nat.le_refl 4) (Nat.le_refl 4)] at e2; cases e2⟩
      refine iteF ?_
      have s39 := (s37.trans s8).trans s9
      -- fewer
      have some3 := few_rows (okP 3 (by decide)) (by rw [(psF_facts (w := 1) (n := 3) rg (by decide)).1]; decide)
      refine ⟨_, rfl, _, rfl, sa, ss, 1, 3, rfl, row s39, rg, by decide, by decide, by omega, fun l5 vs5 HA sA nl5 el5 rl5 => ?_⟩
      refine .inr ⟨sa, ss, l5, psF ss 1 3, 1, 4, 10, 67, 7, rfl, row (s39.trans sA), ⟨vs5, .inl el5, rl5⟩, okP 3 (by decide), fun (e2 : ubF ss 1 4 (psF ss 1 3) = none) _ _ => absurd some3 (by rw [e2]; exact Bool.false_ne_true), fun c2 ns2 e2 t5 a5 b5 HB sB e5 e6 e7 => ⟨rfl, _, rfl, ?_⟩⟩
      refine iteF ?_
      have s3B := (s39.trans sA).trans sB
      exact ⟨_, rfl, d, l, c, rfl, D3.same s3B, T3.ext s3B, q⟩
end
end Kn
-- part GdE
set_option maxHeartbeats 4000000
/-! The end of a law whose defs make lambdas: the script and the empty tables of code objects are what is tracked. -/
namespace Gd
open PySem PySem.Spec PyProof.Rows L2 LamX
abbrev noTab : Obj := { cls := .none, data := .fields #[] }
/-- the script's list as it stands -/
def lstH (a : Addr) (vs : List Value) (ns : List Int) : Hp := fun b => if b = a then some (.frz { cls := .type "list", data := .seq vs.toArray } (.lst (ns.map V.int))) else none
/-- the same with the tables put in -/
def withT (cs : List (Addr × Addr)) (H : Hp) : Hp := fun b => if b ∈ cs.map (·.2) then some (.tbl #[]) else H b
section
variable {P : Program} {w : World} {K : PySem.W.Frag} {mg mb : Str → Option Value} {k : Nat} {fa a : Addr} {fd : FuncData} {x : Str} {sp : Sp} {s : Shared} {vs : List Value} {ns : List Int} {H : Hp} {cs : List (Addr × Addr)}
theorem from_heapT (kin : K.In s.heap) (gl : s.heap.Ns mainGlobals mg) (bl : s.heap.Ns builtinsNs mb) (bb : ∀ x : Str, x ≠ "__name__" → mb x = bootBuiltins x) (nl : s.heap.NoLimit) (ng : s.gens = #[])
    (bmn : ∃ (bm : Addr) (ob : Obj), mg "__builtins__" = some (.ref bm) ∧ bm ≠ builtinsNs ∧ s.heap.get? bm = some ob ∧ ob.cls = .type "module" ∧ ob.dict = some builtinsNs ∧ ob.data = .plain)
    (Cd : ∀ p ∈ cs, PySem.W.codeHdIn K p.1 p.2 = true) (Nt : ∀ p ∈ cs, s.heap.get? p.2 = some noTab) (Nk : ∀ p ∈ cs, K.lookup p.2 = none)
    (ho : s.heap.get? a = some { cls := .type "list", data := .seq vs.toArray }) (hr : Room k callerA)
    (F : ∀ base : Heap, K.In base → base.Ns mainGlobals mg → (∀ p ∈ cs, TabB base mg p.1 p.2) → FnOkG P w K mg base CX0 k fa fd [x] sp) (bind : ∀ (s : Shared) (u : Value), BindsTo s fd ⟨[u], []⟩ [(x, u)])
    (hO : Only H) (hok : HOk P w (withT cs H) s.heap) (hA : ∀ b, H b ≠ none → b = a) (hK : H a ≠ none → K.lookup a = none) (hs : sp [.ref a] (withT cs H) (fun v _ => v = .bl true) fun _ _ _ => False) :
    codeAny (model P w) callerA (.call (.ref fa) ⟨[.ref a], []⟩) (fun r s' => r = .ok (.ret (.bool true)) ∧ OldK s.heap s'.heap ∧ s'.os = s.os ∧ AllBare s'.gens) s := by
  have tabO : ∀ {b : Addr}, b ∈ cs.map (·.2) → s.heap.get? b = some noTab := fun {b} z => by
    obtain ⟨p, hp, e⟩ := List.mem_map.mp z
    subst e
    exact Nt p hp
  have inT : ∀ {b : Addr}, b ∈ cs.map (·.2) → withT cs H b = some (.tbl #[]) := fun z => if_pos z
  have offT : ∀ {b : Addr}, b ∉ cs.map (·.2) → withT cs H b = H b := fun z => if_neg z
  -- what is neither the script's list nor an empty table is seen
  have see : ∀ {b : Addr} {o : Obj}, s.heap.get? b = some o → (∀ (u : Array Value) (n : Nat), o.data ≠ .seq u n) → o.data ≠ .fields #[] → withT cs H b = none := fun {b o} z n1 n2 => by
    by_cases y : b ∈ cs.map (·.2)
    · rw [tabO y] at z
      cases z
      exact absurd rfl n2
    · rw [offT y]
      cases q : H b with
      | none => rfl
      | some u =>
        obtain rfl : b = a := hA b (by rw [q]; simp)
        rw [ho] at z
        cases z
        exact absurd rfl (n1 _ _)
  have dic : ∀ {b : Addr} {o : Obj} {es : Array DictEntry} {ep : Nat}, s.heap.get? b = some o → o.data = .dict es ep → withT cs H b = none := fun {b o es ep} z d =>
    see z (fun u n y => by rw [d] at y; cases y) fun y => by rw [d] at y; cases y
  have space : ∀ {b : Addr} {m : Str → Option Value}, s.heap.Ns b m → (hidT s.heap (withT cs H)).Ns b m := by
    rintro b m ⟨o, es, ep, z1, z2, r⟩
    exact ⟨o, es, ep, hidT_get z1 (dic z1 z2), z2, r⟩
  have kin2 : K.In (hidT s.heap (withT cs H)) := fun b o z => by
    refine hidT_get (kin b o z) ?_
    by_cases y : b ∈ cs.map (·.2)
    · obtain ⟨p, hp, e⟩ := List.mem_map.mp y
      subst e
      rw [Nk p hp] at z
      cases z
    · rw [offT y]
      cases q : H b with
      | none => rfl
      | some u =>
        obtain rfl : b = a := hA b (by rw [q]; simp)
        rw [hK (by rw [q]; simp)] at z
        cases z
  have notG : ∀ {b : Addr} {o : Obj}, s.heap.get? b = some o → (∀ (es : Array DictEntry) (ep : Nat), o.data ≠ .dict es ep) → mainGlobals ≠ b := fun {b o} z n y => by
    obtain ⟨og, es, ep, z1, z2, _⟩ := gl
    rw [y, z] at z1
    cases z1
    exact n _ _ z2
  have tabs : ∀ p ∈ cs, TabB (hidT s.heap (withT cs H)) mg p.1 p.2 := fun p hp => by
    have g2 : mainGlobals ≠ p.2 := notG (Nt p hp) fun es ep y => by cases y
    refine NdefX.tabB_of_K kin2 (Cd p hp) ?_ g2
    obtain ⟨bm, ob, m1, m2, m3, m4, m5, m6⟩ := bmn
    have g3 : mainGlobals ≠ bm := notG m3 fun es ep y => by rw [m6] at y; cases y
    refine ⟨bm, ob, m1, m2, fun y => g3 y.symm, fun y => ?_, hidT_get m3 (see m3 (fun u n y => by rw [m6] at y; cases y) fun y => by rw [m6] at y; cases y), m4, m5, m6⟩
    rw [y, Nt p hp] at m3
    cases m3
    cases m6
  have at_a : a ∉ cs.map (·.2) := fun z => by
    have y := tabO z
    rw [ho] at y
    have y2 := congrArg Obj.data (Option.some.inj y)
    cases y2
  obtain ⟨mc, n1, n2⟩ := nl
  have md : Mod K mg (hidT s.heap (withT cs H)) := ⟨kin2, space gl, ⟨mb, space bl, bb⟩, mc, space n1, n2⟩
  have e0 : Env0 P w K mg (hidT s.heap (withT cs H)) callerA [] s (withT cs H) :=
    ⟨rfl, md, fun _ _ z => of_hidT z, Nat.le_of_eq (hidT_size _ _), trivial, fun b z => absurd (show b ∈ ([] : List Addr) from z) (by simp), hok, .of_eq ng⟩
  refine codeAny_mono ((F _ kin2 (space gl) tabs).run callerA [] s _ ⟨[.ref a], []⟩ [.ref a] [.ref a] _ _ hr rfl e0 (bind s (.ref a)) (.cons rfl .nil) hs) fun r s' h => ?_
  cases r with
  | error _ => exact False.elim h
  | ok fl =>
    cases fl with
    | next => exact False.elim h
    | brk => exact False.elim h
    | cont => exact False.elim h
    | ret u =>
      obtain ⟨v, H', os, bare, un, hok', rv, q⟩ := h
      obtain rfl : v = .bl true := q
      obtain rfl : u = Value.bool true := rv
      have stay : ∀ b o, b ∉ cs.map (·.2) → s.heap.get? b = some o → s'.heap.get? b = some o := fun b o y z => by
        cases hb : withT cs H b with
        | none => exact un.keep b o z hb (fun y => absurd (show b ∈ ([] : List Addr) from y) (by simp)) (by simp)
        | some u =>
          rw [offT y] at hb
          rcases hO b with y2 | ⟨ob, xs, y2⟩
          · rw [hb] at y2
            cases y2
          · obtain ⟨e1, _⟩ := hok b _ ((offT y).trans y2)
            obtain ⟨e2, _⟩ := hok' b _ (un.frzs b ob _ ((offT y).trans y2))
            rw [z] at e1
            cases e1
            exact e2
      have more : ∀ b, b ∈ cs.map (·.2) → ∃ us : Array Value, s'.heap.get? b = some { cls := .none, data := .fields us } := fun b y => by
        obtain ⟨us, z⟩ := un.tbls b #[] (inT y)
        exact ⟨_, hok' b _ z⟩
      refine ⟨rfl, ⟨fun b o z => ?_, fun b o z => ?_⟩, os, bare⟩
      · by_cases y : b ∈ cs.map (·.2)
        · obtain ⟨us, z2⟩ := more b y
          obtain ⟨p, hp, e⟩ := List.mem_map.mp y
          subst e
          rw [Nt p hp] at z
          cases z
          refine .inr (.inl ⟨((PySem.W.codeHd_of_K kin (Cd p hp)).tab (Nt p hp)).isCodeTable, rfl, #[], us, rfl, ?_⟩)
          rw [Array.empty_append]
          exact z2
        · exact .inl (stay b o y z)
      · by_cases y : b ∈ cs.map (·.2)
        · obtain ⟨us, z2⟩ := more b y
          exact ⟨_, z2⟩
        · exact ⟨o, stay b o y z⟩
end
/-- the end of such a law, told over whatever part of the heap the head has looked at -/
theorem walkGET {l : PySem.W.OpenLaw} {n k : Nat} {q : Program} {loose : List Str} {XP : (Str → Option Value) → Heap → Prop} {YP : World → Heap → Prop} {d : DefRec} {x : Str}
    (hn : l.most = some n) (hn2 : n ≤ sizeLine) (hdf : d.params.defaults = []) (hr : Room k callerA)
    (F : ∀ (w : World) (mg : Str → Option Value) (fa : Addr) (h : Heap), YP w h → h.Ns mainGlobals mg → mg d.name = some (.ref fa) →
      ∃ (K : PySem.W.Frag) (fd : FuncData) (sp : Sp) (cs : List (Addr × Addr)), K.In h ∧ (∀ p ∈ cs, PySem.W.codeHdIn K p.1 p.2 = true) ∧ (∀ p ∈ cs, h.get? p.2 = some noTab) ∧ (∀ p ∈ cs, K.lookup p.2 = none) ∧
        (∀ (s : Shared) (u : Value), BindsTo s fd ⟨[u], []⟩ [(x, u)]) ∧
        (∀ (H : Hp) (a : Addr) (ns : List Int), ns.length ≤ n → (∀ p ∈ cs, H p.2 = some (.tbl #[])) → SqL K H a (ns.map V.int) → sp [.ref a] H (fun v _ => v = .bl true) fun _ _ _ => False) ∧
        ∀ base : Heap, K.In base → base.Ns mainGlobals mg → (∀ p ∈ cs, TabB base mg p.1 p.2) → FnOkG l.prog w K mg base CX0 k fa fd [x] sp) :
    PySem.W.WalkO q loose XP YP l.row.toRowW d [] (fun f vs => PySem.call f vs) := by
  refine Att.attach_call hn hdf fun w s₀ s mg mb fa o pm cd doc a vs ns G Y ho hd hcd hmg hobj hints hlen hg => ?_
  obtain ⟨K, fd, sp, cs, kin, Cd, Nt, Nk, bind, hsp, hF⟩ := F w mg fa _ Y G.T.g hmg
  have len : ns.length ≤ sizeLine := Nat.le_trans hlen hn2
  have rv := vals_ints hints
  have tH : ∀ (H : Hp), ∀ p ∈ cs, withT cs H p.2 = some (.tbl #[]) := fun H p hp => if_pos (List.mem_map_of_mem hp)
  have tO : ∀ {H : Hp} {b : Addr} {u : HO}, withT cs H b = some u → (u = .tbl #[] ∧ s.heap.get? b = some noTab) ∨ H b = some u := fun {H b u} y => by
    by_cases z : b ∈ cs.map (·.2)
    · have y2 : some (.tbl #[]) = some u := (if_pos z).symm.trans y
      obtain ⟨p, hp, e⟩ := List.mem_map.mp z
      subst e
      exact .inl ⟨(Option.some.inj y2).symm, Nt p hp⟩
    · exact .inr ((if_neg z).symm.trans y)
  have nT : a ∉ cs.map (·.2) := fun z => by
    obtain ⟨p, hp, e⟩ := List.mem_map.mp z
    have y := Nt p hp
    rw [e, hobj] at y
    have y2 := congrArg Obj.data (Option.some.inj y)
    cases y2
  cases hk : K.lookup a with
  | some oa =>
    have z := kin a oa hk
    rw [hobj] at z
    cases z
    have hS : SqL K (withT cs fun _ => none) a (ns.map V.int) := .inr ⟨_, vs.toArray, _, hk, rfl, rfl, rfl, by rw [List.size_toArray, hints.length]; exact len, by simpa using rv⟩
    exact from_heapT (H := fun _ => none) kin G.T.g G.T.b G.T.builtins G.T.nolimit hg G.T.bmain Cd Nt Nk hobj hr hF bind (fun _ => .inl rfl) (fun b u y => by
      rcases tO y with ⟨z1, z2⟩ | z1
      · subst z1
        exact z2
      · cases z1) (fun b y => absurd rfl y) (fun y => absurd rfl y) (hsp _ a ns hlen (tH _) hS)
  | none =>
    have at_a : lstH a vs ns a = some (.frz { cls := .type "list", data := .seq vs.toArray } (.lst (ns.map V.int))) := if_pos rfl
    have other : ∀ b, b ≠ a → lstH a vs ns b = none := fun b hb => if_neg hb
    have hO : Only (lstH a vs ns) := fun b => by
      by_cases hb : b = a
      · exact .inr ⟨_, _, if_pos hb⟩
      · exact .inl (if_neg hb)
    refine from_heapT (H := lstH a vs ns) kin G.T.g G.T.b G.T.builtins G.T.nolimit hg G.T.bmain Cd Nt Nk hobj hr hF bind hO (fun b u y => ?_) (fun b y => ?_) (fun _ => hk) (hsp _ a ns hlen (tH _) (.inl (.inr ⟨_, (if_neg nT).trans at_a⟩)))
    · rcases tO y with ⟨z1, z2⟩ | y
      · subst z1
        exact z2
      by_cases hb : b = a
      · subst hb
        rw [at_a] at y
        cases y
        exact ⟨hobj, by rw [List.length_map]; exact len, vs, _, rv, hobj⟩
      · rw [other b hb] at y
        cases y
    · by_cases hb : b = a
      · exact hb
      · exact absurd (other b hb) y
end Gd
-- part VHk1
set_option maxHeartbeats 4000000
/-! Out of the look at the heap: the defs, the errors, the table. -/
namespace Hk
open PySem PySem.Spec PyProof.Rows L2 NdefX Err Kn
theorem isi_of {K : PySem.W.Frag} {C : Addr} {l : List Value} (b : basB K C = true) (m : mroB K C (.ref C :: l ++ vTail) = true) (g : genB K = true) : Isi K C := by
  unfold basB at b
  unfold genB at g
  simp only [Bool.and_eq_true, decide_eq_true_eq] at b g
  obtain ⟨b1, b2, b3, b4, b5, b6, b7⟩ := b
  obtain ⟨g1, g2, g3, g4⟩ := g
  have hm : (PySem.W.clsIn K C).map (·.mro) = some (.ref C :: l ++ vTail) := of_decide_eq_true m
  obtain ⟨cd, hc, hmr⟩ := Option.map_eq_some_iff.mp hm
  have inM : ∀ v, v ∈ vTail → PySem.W.mroIn K C v = some true := fun v hv => by
    unfold PySem.W.mroIn
    rw [hc]
    show (if cd.mro.isEmpty = true then none else some (cd.mro.contains v)) = some true
    rw [hmr]
    have e : (Value.ref C :: l ++ vTail).contains v = true := by
      rw [List.contains_iff_mem]
      exact List.mem_append_right _ hv
    rw [e]
    rfl
  exact ⟨b3, He.eqO_ok b4, He.eqO_ok b5, inM _ (by unfold vTail; simp), He.eqO_ok b6, He.eqO_ok g1, g2, inM _ (by unfold vTail; simp), b7⟩
theorem kit_ref {K : PySem.W.Frag} {C D : Addr} {l : List Addr} (m : mroB K C ((l.map Value.ref) ++ vTail) = true) (hl : l.head? = some C) (b : basB K D = true) : PySem.W.kitOne K (.ref C) (.ref D) = some (decide (D ∈ l)) := by
  have hm : (PySem.W.clsIn K C).map (·.mro) = some ((l.map Value.ref) ++ vTail) := of_decide_eq_true m
  obtain ⟨cd, hc, hmr⟩ := Option.map_eq_some_iff.mp hm
  unfold basB at b
  simp only [Bool.and_eq_true, decide_eq_true_eq] at b
  obtain ⟨b1, b2, b3, _⟩ := b
  unfold PySem.W.kitOne
  by_cases h : C = D
  · subst h
    rw [if_pos (by simp)]
    have : C ∈ l := List.mem_of_mem_head? hl
    rw [decide_eq_true this]
  · rw [if_neg (by simp [h])]
    unfold PySem.W.kitCls
    show (if ((PySem.W.clsIn K D).isSome && PySem.W.typeIn K (.ref D) == some (.type "type")) = true then PySem.W.subIn K (.ref C) (.ref D) else none) = _
    rw [b1, if_pos (by rw [b3]; simp)]
    show PySem.W.mroIn K C (.ref D) = _
    unfold PySem.W.mroIn
    rw [hc]
    show (if cd.mro.isEmpty = true then none else some (cd.mro.contains (.ref D))) = _
    rw [hmr]
    have ne : ((l.map Value.ref) ++ vTail).isEmpty = false := by
      cases l with
      | nil => cases hl
      | cons _ _ => rfl
    rw [ne, if_neg Bool.false_ne_true]
    congr 1
    by_cases hd : D ∈ l
    · rw [decide_eq_true hd, List.contains_iff_mem]
      exact List.mem_append_left _ (List.mem_map_of_mem hd)
    · rw [decide_eq_false hd]
      refine Bool.eq_false_iff.mpr fun z => ?_
      rw [List.contains_iff_mem] at z
      rcases List.mem_append.mp z with z | z
      · obtain ⟨x, hx, e⟩ := List.mem_map.mp z
        cases e
        exact hd hx
      · unfold vTail at z
        simp at z
/-- a def by its address -/
theorem fq_of {K : PySem.W.Frag} {d : DQ} (e : fObs K (d.adr K) = d.val) (o : d.ok K = true) : ∃ fd, FunC K d.name d.qual d.st (d.adr K) fd (cdq K (d.adr K)) := by
  obtain ⟨o1, o⟩ := He.ba o
  obtain ⟨o2, o3⟩ := He.ba o
  have o4 : (match K.lookup (d.adr K) with
    | some ⟨_, _, .func fd, _⟩ => (match fd.code with
      | .ref _ => true
      | _ => false)
    | _ => false) = true := o3
  have o5 : PySem.W.codeIn K (.ref (match K.lookup (d.adr K) with
    | some ⟨_, _, .func fd, _⟩ => (match fd.code with
      | .ref c => c
      | _ => 0)
    | _ => 0)) d.qual = true := o1
  unfold fObs at e
  suffices z : ∀ c, c = cdq K (d.adr K) → ∃ fd, FunC K d.name d.qual d.st (d.adr K) fd c from z _ rfl
  intro c hc
  unfold cdq at hc
  cases q : K.lookup (d.adr K) with
  | none =>
    rw [q] at o4
    cases o4
  | some ob =>
    obtain ⟨oc, od, dt, osl⟩ := ob
    rw [q] at o4 o5 e hc
    cases dt with
    | func fd =>
      obtain ⟨n1, n2, n3, n4, n5, n6, n7, n8, n9, n10, n11, n12, n13, n14, n15⟩ := fd
      have e2 : (some (n1, n2, n3, n4, n5, n6, n7, n8, n15) : He.FnV) = d.val := e
      unfold DQ.val at e2
      simp only [Option.some.injEq, Prod.mk.injEq] at e2
      obtain ⟨h1, h2, h3, h4, h5, h6, h7, h8, h9⟩ := e2
      subst h1 h2 h3 h4 h5 h6 h7 h8 h9
      dsimp only at o4 o5 hc
      cases n13 with
      | ref cd =>
        obtain rfl : c = cd := hc
        exact ⟨_, ⟨_, _, _, _, _, _, _, _, rfl, q, o5⟩, o2⟩
      | _ => cases o4
    | _ => cases o4
section
variable {K : PySem.W.Frag} {h : Heap} {mg : Str → Option Value}
theorem parts (c : SaysK h K) : genB K = true ∧ (basB K (He.ga K bS) = true ∧ mroB K (He.ga K bS) ([.ref (He.ga K bS)] ++ vTail) = true) ∧ EN.all (errB K) = true ∧ apartB K = true ∧ tabK K = true ∧ impB K = true ∧ iD.ok K = true ∧ fa.all (fun f => f.ok K) = true ∧ MD.all (fun p => (He.Fa.glo p.1).ok K) = true ∧ fq.all (fun d => d.ok K) = true := by
  have c1 := c.ck
  unfold chk at c1
  obtain ⟨a1, c1⟩ := He.ba c1
  obtain ⟨a2, c1⟩ := He.ba c1
  obtain ⟨a3, c1⟩ := He.ba c1
  obtain ⟨a4, c1⟩ := He.ba c1
  obtain ⟨a5, c1⟩ := He.ba c1
  obtain ⟨a6, c1⟩ := He.ba c1
  obtain ⟨a7, c1⟩ := He.ba c1
  obtain ⟨a8, c1⟩ := He.ba c1
  obtain ⟨a9, a10⟩ := He.ba c1
  exact ⟨a1, He.ba a2, a3, a4, a5, a6, a7, a8, a9, a10⟩
theorem fq_at (c : SaysK h K) {d : DQ} (hd : d ∈ fq) : ∃ fd, FunC K d.name d.qual d.st (d.adr K) fd (cdq K (d.adr K)) :=
  fq_of (List.map_inj_left.mp c.fs d hd) (List.all_eq_true.mp (parts c).2.2.2.2.2.2.2.2.2 d hd)
theorem md_at (c : SaysK h K) (i : Nat) {x : Str} {n : Nat} (e : MD[i]? = some (x, n)) : ∃ fd, FunC K x x (Kn.topS n) (He.ga K x) fd (cdq K (He.ga K x)) :=
  fq_at c (d := mdD (x, n)) (List.mem_append_left _ (List.mem_map_of_mem (List.mem_of_getElem? e)))
theorem cd_at (c : SaysK h K) (i : Nat) {d : DQ} (e : CD[i]? = some d) : ∃ fd, FunC K d.name d.qual d.st (d.adr K) fd (cdq K (d.adr K)) :=
  fq_at c (List.mem_append_right _ (List.mem_of_getElem? e))
theorem in_at (c : SaysK h K) : ∃ fd, FunD K "__init__" "Span.__init__" (defArgs (inClass (tS 17) 0)) (defBody (inClass (tS 17) 0)) (defScope (inClass (tS 17) 0)) [.non] [] (He.fAd K (pC, some "__init__")) fd :=
  He.DefD.funD (d := iD) c.is (parts c).2.2.2.2.2.2.1
theorem gl_at (X : K.In h) (G : h.Ns mainGlobals mg) (c : SaysK h K) (i : Nat) {x : Str} {n : Nat} (e : MD[i]? = some (x, n)) : mg x = some (.ref (He.ga K x)) :=
  He.glo_ok X G (List.all_eq_true.mp (parts c).2.2.2.2.2.2.2.2.1 _ (List.mem_of_getElem? e))
theorem fact_at (c : SaysK h K) (i : Nat) {f : He.Fa} (e : fa[i]? = some f) : f.ok K = true :=
  List.all_eq_true.mp (parts c).2.2.2.2.2.2.2.1 _ (List.mem_of_getElem? e)
theorem fr_at (X : K.In h) (G : h.Ns mainGlobals mg) (c : SaysK h K) (i : Nat) {x : Str} (e : fa[i]? = some (.free x) := by rfl) : mg x = none := He.free_ok X G (fact_at c i e)
theorem tab_at (c : SaysK h K) {x : Str} (hx : x ∈ TN) : PySem.W.codeHdIn K (cdq K (He.ga K x)) (tbq K x) = true ∧ K.lookup (tbq K x) = none := by
  have z := List.all_eq_true.mp (parts c).2.2.2.2.1 x hx
  obtain ⟨z1, z2⟩ := He.ba z
  exact ⟨z1, Option.isNone_iff_eq_none.mp z2⟩
theorem err_at (X : K.In h) (G : h.Ns mainGlobals mg) (c : SaysK h K) {x : Str} (hx : x ∈ EN) : EC K mg (He.ga K bS) x (He.ga K x) ∧ basB K (He.ga K x) = true ∧ mroB K (He.ga K x) ([.ref (He.ga K x), .ref (He.ga K bS)] ++ vTail) = true := by
  have z := List.all_eq_true.mp (parts c).2.2.1 x hx
  unfold errB at z
  simp only [Bool.and_eq_true, decide_eq_true_eq] at z
  obtain ⟨z1, z2, z3, z4, z5, z6⟩ := z
  have b2 := z2
  unfold basB at b2
  simp only [Bool.and_eq_true, decide_eq_true_eq] at b2
  exact ⟨⟨He.glo_ok X G z1, b2.2.1, z4, z5, b2.1, isi_of (l := [.ref (He.ga K bS)]) z2 z3 (parts c).1, z6⟩, z2, z3⟩
theorem imp_at (c : SaysK h K) : He.eqO (PySem.W.nsIn K mainGlobals "gcd") (some (some (.builtin "math.gcd"))) = true ∧ He.eqO (PySem.W.nsIn K mainGlobals "lcm") (some (some (.builtin "math.lcm"))) = true ∧ He.eqO (PySem.W.nsIn K mainGlobals "combinations") (some (some (.type "itertools.combinations"))) = true := by
  have z := (parts c).2.2.2.2.2.1
  unfold impB at z
  obtain ⟨z1, z2⟩ := He.ba z
  obtain ⟨z2, z3⟩ := He.ba z2
  exact ⟨z1, z2, z3⟩
theorem gcd_at (X : K.In h) (G : h.Ns mainGlobals mg) (c : SaysK h K) : mg "gcd" = some (.builtin "math.gcd") := PySem.W.mg_of X G (He.eqO_ok (imp_at c).1)
theorem lcm_at (X : K.In h) (G : h.Ns mainGlobals mg) (c : SaysK h K) : mg "lcm" = some (.builtin "math.lcm") := PySem.W.mg_of X G (He.eqO_ok (imp_at c).2.1)
theorem comb_at (X : K.In h) (G : h.Ns mainGlobals mg) (c : SaysK h K) : mg "combinations" = some (.type "itertools.combinations") := PySem.W.mg_of X G (He.eqO_ok (imp_at c).2.2)
theorem kit_at (X : K.In h) (G : h.Ns mainGlobals mg) (c : SaysK h K) {x : Str} (hx : x ∈ EN) : PySem.W.kitOne K (.ref (He.ga K x)) (.ref (He.ga K x)) = some true := by
  obtain ⟨_, b, m⟩ := err_at X G c hx
  rw [kit_ref (l := [He.ga K x, He.ga K bS]) m rfl b]
  exact congrArg some (decide_eq_true (List.mem_cons_self ..))
theorem stxt_at (c : SaysK h K) : STxt K (He.ga K pC) :=
  ⟨He.cls_ok (fact_at c 24 (f := .cls pC) rfl), He.noat_ok (fact_at c 25 (f := .noat pC "width") rfl), He.noat_ok (fact_at c 26 (f := .noat pC "lines") rfl)⟩
theorem span_glo (X : K.In h) (G : h.Ns mainGlobals mg) (c : SaysK h K) : mg "Span" = some (.ref (He.ga K pC)) := He.glo_ok X G (fact_at c 23 (f := .glo pC) rfl)
theorem mk_at (c : SaysK h K) : Mk K (He.ga K pC) (He.ma K (He.ga K pC) "__init__") := He.mkr_ok (fact_at c 27 (f := .mkr pC) rfl)
theorem m_rest (c : SaysK h K) : Meth K (He.ga K pC) "rest" (He.ma K (He.ga K pC) "rest") := He.meth_ok (fact_at c 28 (f := .meth pC "rest") rfl)
theorem m_take (c : SaysK h K) : Meth K (He.ga K pC) "take" (He.ma K (He.ga K pC) "take") := He.meth_ok (fact_at c 29 (f := .meth pC "take") rfl)
end
end Hk
-- part VHk2
set_option maxHeartbeats 4000000
/-! Every def's promise, one out of the other. -/
namespace Kn
open PySem PySem.Spec PyProof.Rows L2
def spIsL : Sp := fun vs H Q _ => ∃ v w, vs = [v] ∧ Is H v w ∧ ∀ H', Same H H' → Q (.bl (isSeq w)) H'
def spFpT : Sp := fun vs H Q E => ∃ a r, vs = [.ref a] ∧ Row H (.ref a) r ∧ ∀ H', Same H H' → Q (placeV (La.firstNz r)) H'
theorem vals_app : ∀ {a b : List V} {c d : List Value}, Vals a c → Vals b d → Vals (a ++ b) (c ++ d)
  | _, _, _, _, .nil, h => h
  | _, _, _, _, .cons x t, h => .cons x (vals_app t h)
theorem vals_rev : ∀ {a : List V} {c : List Value}, Vals a c → Vals a.reverse c.reverse
  | _, _, .nil => .nil
  | _, _, .cons x t => by
    rw [List.reverse_cons, List.reverse_cons]
    exact vals_app (vals_rev t) (.cons x .nil)
end Kn
namespace Hk
open PySem PySem.Spec PyProof.Rows L2 NdefX Err Kn LamX
abbrev Df := @Kn.Dfx
section
variable {P : Program} {w : World} {K : PySem.W.Frag} {h : Heap} {mg : Str → Option Value} {base : Heap}
theorem df_of (X : K.In h) (G : h.Ns mainGlobals mg) (c : SaysK h K) {CX : CXT} {k : Nat} {ps : List Str} {sp : Sp} (i : Nat) (x : Str) (n : Nat) (e : MD[i]? = some (x, n))
    (B : ∀ (kV doc pm : Value) (an : Option Addr) (cdv ct : Value) (us : List Value), us.length = ps.length → bindArgs (PySem.W.fnOf x x (defArgs (Kn.topS n)) (defBody (Kn.topS n)) (defScope (Kn.topS n)) .none kV doc pm an cdv ct) ⟨us, []⟩ = pure (ps.zip us))
    (ok : ∀ (f : Addr) (fd : FuncData), L2.Fun K x x (Kn.topS n) f fd → FnOk P w K mg base CX k f fd ps sp) : Df P w K mg base CX k x ps sp := by
  obtain ⟨fd, F⟩ := md_at c i e
  exact ⟨_, fd, ok _ _ F.toFun, F.kp, F.toFun.binds B, gl_at X G c i e⟩
/-- the same, its keywords in the other order too -/
theorem dk_of (X : K.In h) (G : h.Ns mainGlobals mg) (c : SaysK h K) {CX : CXT} {k : Nat} {ps : List Str} {sp : Sp} (i : Nat) (x : Str) (n : Nat) (e : MD[i]? = some (x, n))
    (B : ∀ (kV doc pm : Value) (an : Option Addr) (cdv ct : Value) (us : List Value), us.length = ps.length → bindArgs (PySem.W.fnOf x x (defArgs (Kn.topS n)) (defBody (Kn.topS n)) (defScope (Kn.topS n)) .none kV doc pm an cdv ct) ⟨us, []⟩ = pure (ps.zip us))
    (BK : ∀ (s : Shared) (kV doc pm : Value) (an : Option Addr) (cdv ct : Value) (us ws : List Value), us.length = 0 → ws.length = ps.reverse.length → BindsTo s (PySem.W.fnOf x x (defArgs (Kn.topS n)) (defBody (Kn.topS n)) (defScope (Kn.topS n)) .none kV doc pm an cdv ct) ⟨us, ps.reverse.zip ws⟩ (ps.zip (us ++ ws.reverse)))
    (ok : ∀ (f : Addr) (fd : FuncData), L2.Fun K x x (Kn.topS n) f fd → FnOk P w K mg base CX k f fd ps sp) : DfK P w K mg base CX k x ps sp := by
  obtain ⟨fd, F⟩ := md_at c i e
  refine ⟨_, fd, ok _ _ F.toFun, F.kp, F.toFun.binds B, gl_at X G c i e, ⟨fun s us ws _ h1 h2 => ?_, fun r rz => vals_app r (vals_rev rz)⟩⟩
  obtain ⟨oc, od, kV, doc, pm, an, ct, osl, rfl, _, _⟩ := F.ex
  exact BK s _ _ _ _ _ _ us ws h1 h2
theorem DfK.df {CX : CXT} {k : Nat} {x : Str} {ps : List Str} {sp : Sp} (d : DfK P w K mg base CX k x ps sp) : Df P w K mg base CX k x ps sp := by
  obtain ⟨f, fd, a, b, c, e, _⟩ := d
  exact ⟨f, fd, a, b, c, e⟩
/-- what the head tells, in short -/
structure Hd (K : PySem.W.Frag) (h : Heap) (mg : Str → Option Value) : Prop where
  X : K.In h
  G : h.Ns mainGlobals mg
  c : SaysK h K
theorem Hd.fr (d : Hd K h mg) (i : Nat) {x : Str} (e : fa[i]? = some (.free x) := by rfl) : mg x = none := fr_at d.X d.G d.c i e
theorem Hd.isinst (d : Hd K h mg) : mg "isinstance" = none := d.fr 0
theorem Hd.int (d : Hd K h mg) : mg "int" = none := d.fr 1
theorem Hd.bool (d : Hd K h mg) : mg "bool" = none := d.fr 2
theorem Hd.list (d : Hd K h mg) : mg "list" = none := d.fr 3
theorem Hd.tuple (d : Hd K h mg) : mg "tuple" = none := d.fr 4
theorem Hd.len (d : Hd K h mg) : mg "len" = none := d.fr 5
theorem Hd.all (d : Hd K h mg) : mg "all" = none := d.fr 6
theorem Hd.min (d : Hd K h mg) : mg "min" = none := d.fr 7
theorem Hd.max (d : Hd K h mg) : mg "max" = none := d.fr 8
theorem Hd.sorted (d : Hd K h mg) : mg "sorted" = none := d.fr 9
theorem Hd.range (d : Hd K h mg) : mg "range" = none := d.fr 10
theorem Hd.enum (d : Hd K h mg) : mg "enumerate" = none := d.fr 11
theorem Hd.repr (d : Hd K h mg) : mg "repr" = none := d.fr 12
theorem Hd.abs (d : Hd K h mg) : mg "abs" = none := d.fr 13
theorem Hd.sum (d : Hd K h mg) : mg "sum" = none := d.fr 14
theorem Hd.zip (d : Hd K h mg) : mg "zip" = none := d.fr 15
theorem Hd.sett (d : Hd K h mg) : mg "set" = none := d.fr 16
theorem Hd.still (d : Hd K h mg) : mg "StillError" = some (.ref (He.ga K bS)) := He.glo_ok d.X d.G (fact_at d.c 17 (f := .glo bS) rfl)
theorem Hd.seats (d : Hd K h mg) : ∃ u, mg "MOST_SEATS" = some u ∧ RelV (.int 8) u := by
  obtain ⟨t, e⟩ := He.int_ok d.X d.G (fact_at d.c 18 (f := .int "MOST_SEATS" 8) rfl)
  exact ⟨_, e, t, rfl⟩
theorem Hd.high (d : Hd K h mg) : ∃ u, mg "HIGHEST_SEAT" = some u ∧ RelV (.int 9) u := by
  obtain ⟨t, e⟩ := He.int_ok d.X d.G (fact_at d.c 19 (f := .int "HIGHEST_SEAT" 9) rfl)
  exact ⟨_, e, t, rfl⟩
theorem Hd.checks (d : Hd K h mg) : ∃ u, mg "MOST_CHECKS" = some u ∧ RelV (.int 4) u := by
  obtain ⟨t, e⟩ := He.int_ok d.X d.G (fact_at d.c 20 (f := .int "MOST_CHECKS" 4) rfl)
  exact ⟨_, e, t, rfl⟩
theorem Hd.wide (d : Hd K h mg) : ∃ u, mg "WIDEST_WORKER" = some u ∧ RelV (.int 6) u := by
  obtain ⟨t, e⟩ := He.int_ok d.X d.G (fact_at d.c 21 (f := .int "WIDEST_WORKER" 6) rfl)
  exact ⟨_, e, t, rfl⟩
theorem Hd.long (d : Hd K h mg) : ∃ u, mg "LONGEST_SCHEME" = some u ∧ RelV (.int 24) u := by
  obtain ⟨t, e⟩ := He.int_ok d.X d.G (fact_at d.c 22 (f := .int "LONGEST_SCHEME" 24) rfl)
  exact ⟨_, e, t, rfl⟩
theorem Hd.gcd (d : Hd K h mg) : mg "gcd" = some (.builtin "math.gcd") := gcd_at d.X d.G d.c
theorem Hd.lcm (d : Hd K h mg) : mg "lcm" = some (.builtin "math.lcm") := lcm_at d.X d.G d.c
theorem Hd.comb (d : Hd K h mg) : mg "combinations" = some (.type "itertools.combinations") := comb_at d.X d.G d.c
theorem Hd.eC (d : Hd K h mg) : EC K mg (He.ga K bS) "BadCount" (He.ga K "BadCount") := (err_at d.X d.G d.c (x := "BadCount") (List.mem_of_getElem? (i := 0) rfl)).1
theorem Hd.kC (d : Hd K h mg) : PySem.W.kitOne K (.ref (He.ga K "BadCount")) (.ref (He.ga K "BadCount")) = some true := kit_at d.X d.G d.c (x := "BadCount") (List.mem_of_getElem? (i := 0) rfl)
theorem Hd.eS (d : Hd K h mg) : EC K mg (He.ga K bS) "BadSeats" (He.ga K "BadSeats") := (err_at d.X d.G d.c (x := "BadSeats") (List.mem_of_getElem? (i := 1) rfl)).1
theorem Hd.kS (d : Hd K h mg) : PySem.W.kitOne K (.ref (He.ga K "BadSeats")) (.ref (He.ga K "BadSeats")) = some true := kit_at d.X d.G d.c (x := "BadSeats") (List.mem_of_getElem? (i := 1) rfl)
theorem Hd.eW (d : Hd K h mg) : EC K mg (He.ga K bS) "BadWidth" (He.ga K "BadWidth") := (err_at d.X d.G d.c (x := "BadWidth") (List.mem_of_getElem? (i := 2) rfl)).1
theorem Hd.kW (d : Hd K h mg) : PySem.W.kitOne K (.ref (He.ga K "BadWidth")) (.ref (He.ga K "BadWidth")) = some true := kit_at d.X d.G d.c (x := "BadWidth") (List.mem_of_getElem? (i := 2) rfl)
theorem Hd.eM (d : Hd K h mg) : EC K mg (He.ga K bS) "BadScheme" (He.ga K "BadScheme") := (err_at d.X d.G d.c (x := "BadScheme") (List.mem_of_getElem? (i := 3) rfl)).1
theorem Hd.kM (d : Hd K h mg) : PySem.W.kitOne K (.ref (He.ga K "BadScheme")) (.ref (He.ga K "BadScheme")) = some true := kit_at d.X d.G d.c (x := "BadScheme") (List.mem_of_getElem? (i := 3) rfl)
variable (d : Hd K h mg)
include d
theorem df_number : Df P w K mg base CX0 1 "is_number" ["value"] (spJ isNum) := by
  exact df_of d.X d.G d.c 0 "is_number" 9 rfl (fun _ _ _ _ _ _ us hl => match us, hl with | [_], _ => rfl) fun _ _ F => ok_number F d.isinst d.int d.bool
theorem df_within : Df P w K mg base CX0 2 "is_within" ["value", "least", "greatest"] spWithin := by
  obtain ⟨f1, fd1, G1, k1, b1, g1⟩ := df_number (P := P) (w := w) (base := base) d
  exact df_of d.X d.G d.c 1 "is_within" 10 rfl (fun _ _ _ _ _ _ us hl => match us, hl with | [_, _, _], _ => rfl) fun _ _ F => ok_within F G1 k1 b1 g1
theorem df_isList : Df P w K mg base CX0 1 "is_list" ["value"] Kn.spIsL := by
  exact df_of d.X d.G d.c 2 "is_list" 11 rfl (fun _ _ _ _ _ _ us hl => match us, hl with | [_], _ => rfl) fun _ _ F => ok_isList F d.isinst d.list d.tuple
theorem df_tupOf : Df P w K mg base CX0 1 "is_tuple_of" ["value", "many"] spTupOf := by
  exact df_of d.X d.G d.c 3 "is_tuple_of" 12 rfl (fun _ _ _ _ _ _ us hl => match us, hl with | [_, _], _ => rfl) fun _ _ F => ok_tupOf F d.isinst d.tuple d.len
theorem df_dot : Df P w K mg base CX0 1 "dot" ["row", "column"] spDo := by
  exact df_of d.X d.G d.c 4 "dot" 14 rfl (fun _ _ _ _ _ _ us hl => match us, hl with | [_, _], _ => rfl) fun _ _ F => ok_dot F d.sum d.zip
theorem df_first : Df P w K mg base CX0 1 "first_place" ["row"] spFp := by
  exact df_of d.X d.G d.c 5 "first_place" 15 rfl (fun _ _ _ _ _ _ us hl => match us, hl with | [_], _ => rfl) fun _ _ F => ok_first F d.enum
theorem df_firstT : Df P w K mg base CX0 1 "first_place" ["row"] Kn.spFpT := by
  exact df_of d.X d.G d.c 5 "first_place" 15 rfl (fun _ _ _ _ _ _ us hl => match us, hl with | [_], _ => rfl) fun _ _ F => ok_firstT F d.enum
theorem df_made : Df P w K mg base CX0 1 "made_small" ["row"] spMade := by
  exact df_of d.X d.G d.c 6 "made_small" 16 rfl (fun _ _ _ _ _ _ us hl => match us, hl with | [_], _ => rfl) fun _ _ F => ok_made F d.gcd
theorem df_nums : Df P w K mg base CX0 2 "are_numbers" ["value", "many"] spNums := by
  obtain ⟨f1, fd1, G1, k1, b1, g1⟩ := df_tupOf (P := P) (w := w) (base := base) d
  obtain ⟨f2, fd2, G2, k2, b2, g2⟩ := df_number (P := P) (w := w) (base := base) d
  exact df_of d.X d.G d.c 7 "are_numbers" 19 rfl (fun _ _ _ _ _ _ us hl => match us, hl with | [_, _], _ => rfl) fun _ _ F => ok_nums F G1 k1 b1 g1 G2 k2 b2 g2 d.all
theorem df_seat : Df P w K mg base CX0 3 "is_seat" ["value"] spSeat := by
  obtain ⟨f1, fd1, G1, k1, b1, g1⟩ := df_within (P := P) (w := w) (base := base) d
  exact df_of d.X d.G d.c 8 "is_seat" 24 rfl (fun _ _ _ _ _ _ us hl => match us, hl with | [_], _ => rfl) fun _ _ F => ok_seat F G1 k1 b1 g1 d.high
theorem df_raised : Df P w K mg base CX0 1 "raised" ["number", "power"] spRaised := by
  exact df_of d.X d.G d.c 9 "raised" 25 rfl (fun _ _ _ _ _ _ us hl => match us, hl with | [_, _], _ => rfl) fun _ _ F => ok_raised F d.range
theorem df_cc : Df P w K mg base (L2.CX P w) 3 "check_count" ["count", "most"] (spCheckC (He.ga K "BadCount")) := by
  obtain ⟨f1, fd1, G1, k1, b1, g1⟩ := df_within (P := P) (w := w) (base := base) d
  exact df_of d.X d.G d.c 10 "check_count" 29 rfl (fun _ _ _ _ _ _ us hl => match us, hl with | [_, _], _ => rfl) fun _ _ F => ok_cc F G1 k1 b1 g1 d.eC
theorem df_asc : Df P w K mg base CX0 4 "is_ascending" ["seats"] spAsc := by
  obtain ⟨f1, fd1, G1, k1, b1, g1⟩ := df_seat (P := P) (w := w) (base := base) d
  exact df_of d.X d.G d.c 12 "is_ascending" 31 rfl (fun _ _ _ _ _ _ us hl => match us, hl with | [_], _ => rfl) fun _ _ F => ok_asc F G1 k1 b1 g1 d.all d.zip
theorem df_csw : Df P w K mg base (L2.CX P w) 5 "check_seats_and_width" ["seats", "width"] (spCsw (He.ga K "BadSeats") (He.ga K "BadWidth")) := by
  obtain ⟨f1, fd1, G1, k1, b1, g1⟩ := df_asc (P := P) (w := w) (base := base) d
  obtain ⟨f2, fd2, G2, k2, b2, g2⟩ := df_within (P := P) (w := w) (base := base) d
  exact df_of d.X d.G d.c 11 "check_seats_and_width" 30 rfl (fun _ _ _ _ _ _ us hl => match us, hl with | [_, _], _ => rfl) fun _ _ F => ok_csw F G1 k1 b1 g1 G2 k2 b2 g2 d.eS d.eW d.seats d.wide d.isinst d.tuple d.len
theorem df_cs : Df P w K mg base (L2.CX P w) 6 "check_scheme" ["seats", "width", "scheme", "silent"] (spCs (He.ga K "BadSeats") (He.ga K "BadWidth") (He.ga K "BadScheme") (He.ga K "BadCount")) := by
  obtain ⟨f1, fd1, G1, k1, b1, g1⟩ := df_csw (P := P) (w := w) (base := base) d
  obtain ⟨f2, fd2, G2, k2, b2, g2⟩ := df_isList (P := P) (w := w) (base := base) d
  obtain ⟨f3, fd3, G3, k3, b3, g3⟩ := df_nums (P := P) (w := w) (base := base) d
  obtain ⟨f4, fd4, G4, k4, b4, g4⟩ := df_cc (P := P) (w := w) (base := base) d
  exact df_of d.X d.G d.c 13 "check_scheme" 32 rfl (fun _ _ _ _ _ _ us hl => match us, hl with | [_, _, _, _], _ => rfl) fun _ _ F => ok_cs F G1 k1 b1 g1 G2 k2 b2 g2 G3 k3 b3 g3 G4 k4 b4 g4 d.eM d.long d.len d.all
theorem df_shares : Df P w K mg base CX0 1 "shares_of" ["seats", "width", "scheme", "lost"] spSh := by
  exact df_of d.X d.G d.c 14 "shares_of" 33 rfl (fun _ _ _ _ _ _ us hl => match us, hl with | [_, _, _, _], _ => rfl) fun _ _ F => ok_shares F d.enum d.range
theorem sp_rest : ∃ fd, FnOk P w K mg base CX0 2 (He.ma K (He.ga K pC) "rest") fd ["self", "row"] (spRest (He.ga K pC)) ∧ Binds K fd ["self", "row"] [] := by
  obtain ⟨f1, fd1, G1, k1, b1, g1⟩ := df_made (P := P) (w := w) (base := base) d
  obtain ⟨fd, F⟩ := cd_at d.c 0 (d := meD "rest" "Span.rest" 1) rfl
  exact ⟨fd, ok_rest F.toFun (stxt_at d.c) G1 k1 b1 g1 d.gcd d.lcm d.zip, F.toFun.binds fun _ _ _ _ _ _ us hl => match us, hl with | [_, _], _ => rfl⟩
theorem sp_take : ∃ fd, FnOk P w K mg base CX0 3 (He.ma K (He.ga K pC) "take") fd ["self", "row"] (spSTake (He.ga K pC)) ∧ Binds K fd ["self", "row"] [] := by
  obtain ⟨fdR, GR, bR⟩ := sp_rest (P := P) (w := w) (base := base) d
  obtain ⟨f1, fd1, G1, k1, b1, g1⟩ := df_made (P := P) (w := w) (base := base) d
  obtain ⟨f2, fd2, G2, k2, b2, g2⟩ := df_first (P := P) (w := w) (base := base) d
  obtain ⟨fd, F⟩ := cd_at d.c 1 (d := meD "take" "Span.take" 2) rfl
  exact ⟨fd, ok_stake F.toFun (stxt_at d.c) (m_rest d.c) GR bR G1 k1 b1 g1 G2 k2 b2 g2 d.gcd d.zip d.list, F.toFun.binds fun _ _ _ _ _ _ us hl => match us, hl with | [_, _], _ => rfl⟩
theorem sp_init : ∃ fd dI, FnOk P w K mg base CX0 1 (He.ma K (He.ga K pC) "__init__") fd ["self", "width"] (spSInit (He.ga K pC)) ∧ Binds K fd ["self", "width"] dI ∧ Vals [.non] dI := by
  obtain ⟨fd, F⟩ := in_at d.c
  obtain ⟨ds, vd, bd⟩ := F.binds1 (ps := ["self", "width"]) 1 0 (List.cons_ne_nil _ _) rfl fun T kV doc pm an cdv ct us its h1 h2 => match us, its, h1, h2 with
    | [_], [_], _, _ => ⟨_, rfl, rfl⟩
  exact ⟨fd, ds, ok_sinit F (stxt_at d.c), bd, vd⟩
theorem df_un : Df P w K mg base CX0 4 "unseen_numbers" ["lines", "many"] spUn := by
  obtain ⟨fdI, dI, GI, bI, vI0⟩ := sp_init (P := P) (w := w) (base := base) d
  obtain ⟨fdT, GT, bT⟩ := sp_take (P := P) (w := w) (base := base) d
  exact df_of d.X d.G d.c 15 "unseen_numbers" 34 rfl (fun _ _ _ _ _ _ us hl => match us, hl with | [_, _], _ => rfl) fun _ _ F =>
    ok_un F (stxt_at d.c) (mk_at d.c) GI bI vI0 (span_glo d.X d.G d.c) (m_take d.c) GT bT d.lcm d.range d.len
theorem df_ub_k : DfK P w K mg base (L2.CX P w) 7 "unborne" ["seats", "width", "scheme", "silent"] (spOr (spUbE (He.ga K "BadSeats") (He.ga K "BadWidth") (He.ga K "BadScheme") (He.ga K "BadCount")) spUbG) := by
  obtain ⟨f1, fd1, G1, k1, b1, g1⟩ := df_cs (P := P) (w := w) (base := base) d
  obtain ⟨f2, fd2, G2, k2, b2, g2⟩ := df_shares (P := P) (w := w) (base := base) d
  obtain ⟨f3, fd3, G3, k3, b3, g3⟩ := df_un (P := P) (w := w) (base := base) d
  exact dk_of d.X d.G d.c 16 "unborne" 35 rfl (fun _ _ _ _ _ _ us hl => match us, hl with | [_, _, _, _], _ => rfl) (fun s _ _ _ _ _ _ us ws h1 h2 => match us, ws, h1, h2 with | [], [a0, a1, a2, a3], _, _ => .of_eq rfl) fun _ _ F => ok_ub F G1 k1 b1 g1 G2 k2 b2 g2 G3 k3 b3 g3 d.comb d.int d.len d.tuple
theorem df_iu_k : DfK P w K mg base (L2.CX P w) 7 "is_unborne" ["seats", "width", "scheme", "silent", "thing"] (spOr (spIuE (He.ga K "BadSeats") (He.ga K "BadWidth") (He.ga K "BadScheme") (He.ga K "BadCount")) spIuG) := by
  obtain ⟨f1, fd1, G1, k1, b1, g1⟩ := df_cs (P := P) (w := w) (base := base) d
  obtain ⟨f2, fd2, G2, k2, b2, g2⟩ := df_shares (P := P) (w := w) (base := base) d
  obtain ⟨f3, fd3, G3, k3, b3, g3⟩ := df_tupOf (P := P) (w := w) (base := base) d
  obtain ⟨f4, fd4, G4, k4, b4, g4⟩ := df_asc (P := P) (w := w) (base := base) d
  obtain ⟨f5, fd5, G5, k5, b5, g5⟩ := df_nums (P := P) (w := w) (base := base) d
  obtain ⟨f6, fd6, G6, k6, b6, g6⟩ := df_firstT (P := P) (w := w) (base := base) d
  obtain ⟨f7, fd7, G7, k7, b7, g7⟩ := df_dot (P := P) (w := w) (base := base) d
  exact dk_of d.X d.G d.c 17 "is_unborne" 36 rfl (fun _ _ _ _ _ _ us hl => match us, hl with | [_, _, _, _, _], _ => rfl) (fun s _ _ _ _ _ _ us ws h1 h2 => match us, ws, h1, h2 with | [], [a0, a1, a2, a3, a4], _, _ => .of_eq rfl) fun _ _ F => ok_iu F G1 k1 b1 g1 G2 k2 b2 g2 G3 k3 b3 g3 G4 k4 b4 g4 G5 k5 b5 g5 G6 k6 b6 g6 G7 k7 b7 g7 d.all
theorem df_ps_k : DfK P w K mg base (L2.CX P w) 6 "power_scheme" ["seats", "width", "count"] (spOr (spPsE (He.ga K "BadSeats") (He.ga K "BadWidth") (He.ga K "BadCount")) spPsG) := by
  obtain ⟨f1, fd1, G1, k1, b1, g1⟩ := df_csw (P := P) (w := w) (base := base) d
  obtain ⟨f2, fd2, G2, k2, b2, g2⟩ := df_cc (P := P) (w := w) (base := base) d
  obtain ⟨f3, fd3, G3, k3, b3, g3⟩ := df_raised (P := P) (w := w) (base := base) d
  exact dk_of d.X d.G d.c 18 "power_scheme" 37 rfl (fun _ _ _ _ _ _ us hl => match us, hl with | [_, _, _], _ => rfl) (fun s _ _ _ _ _ _ us ws h1 h2 => match us, ws, h1, h2 with | [], [a0, a1, a2], _, _ => .of_eq rfl) fun _ _ F => ok_ps F G1 k1 b1 g1 G2 k2 b2 g2 G3 k3 b3 g3 d.checks d.range d.tuple
/-! ### the law's own -/
theorem df_begun : Df P w K mg base CX0 1 "_law_begun" ["_law_script"] (spBegun K) := by
  exact df_of d.X d.G d.c 19 "_law_begun" 39 rfl (fun _ _ _ _ _ _ us hl => match us, hl with | [_], _ => rfl) fun _ _ F => ok_begun F d.abs
theorem df_take : Df P w K mg base CX0 2 "_law_take" ["_law_draw", "_law_amount"] spTake := by
  obtain ⟨fdM, M⟩ := md_at d.c 20 (x := "_law_mixed") (n := 40) rfl
  exact df_of d.X d.G d.c 21 "_law_take" 41 rfl (fun _ _ _ _ _ _ us hl => match us, hl with | [_, _], _ => rfl) fun _ _ F =>
    ok_take F M.toFun (M.toFun.binds (ps := ["_law_draw"]) fun _ _ _ _ _ _ us hl => match us, hl with | [_], _ => rfl) (gl_at d.X d.G d.c 20 (x := "_law_mixed") (n := 40) rfl) d.int
theorem df_pick : Df P w K mg base CX0 3 "_law_pick" ["_law_draw", "_law_some"] spPick := by
  obtain ⟨fdM, M⟩ := md_at d.c 20 (x := "_law_mixed") (n := 40) rfl
  obtain ⟨fdT, T⟩ := md_at d.c 21 (x := "_law_take") (n := 41) rfl
  exact df_of d.X d.G d.c 22 "_law_pick" 42 rfl (fun _ _ _ _ _ _ us hl => match us, hl with | [_, _], _ => rfl) fun _ _ F =>
    ok_pick F T.toFun M.toFun (T.toFun.binds (ps := ["_law_draw", "_law_amount"]) fun _ _ _ _ _ _ us hl => match us, hl with | [_, _], _ => rfl) (M.toFun.binds (ps := ["_law_draw"]) fun _ _ _ _ _ _ us hl => match us, hl with | [_], _ => rfl)
      (gl_at d.X d.G d.c 21 (x := "_law_take") (n := 41) rfl) (gl_at d.X d.G d.c 20 (x := "_law_mixed") (n := 40) rfl) d.int d.len
theorem df_shuf : Df P w K mg base CX0 3 "_law_shuffled" ["_law_draw", "_law_some"] spShuf := by
  obtain ⟨f1, fd1, G1, k1, b1, g1⟩ := df_take (P := P) (w := w) (base := base) d
  exact df_of d.X d.G d.c 23 "_law_shuffled" 43 rfl (fun _ _ _ _ _ _ us hl => match us, hl with | [_, _], _ => rfl) fun _ _ F => ok_shuf F G1 k1 b1 g1 d.len d.list
theorem df_lgcd : Df P w K mg base CX0 1 "_law_gcd" ["_law_one", "_law_other"] spGc := by
  exact df_of d.X d.G d.c 25 "_law_gcd" 45 rfl (fun _ _ _ _ _ _ us hl => match us, hl with | [_, _], _ => rfl) fun _ _ F => ok_gcd F d.abs
theorem df_lless : Df P w K mg base CX0 2 "_law_less" ["_law_vector", "_law_base"] spLs := by
  obtain ⟨f1, fd1, G1, k1, b1, g1⟩ := df_lgcd (P := P) (w := w) (base := base) d
  exact df_of d.X d.G d.c 26 "_law_less" 46 rfl (fun _ _ _ _ _ _ us hl => match us, hl with | [_, _], _ => rfl) fun _ _ F => ok_less F G1 k1 b1 g1 d.list d.range d.len
theorem df_added : Df P w K mg base CX0 3 "_law_added" ["_law_base", "_law_vector"] spAd := by
  obtain ⟨f1, fd1, G1, k1, b1, g1⟩ := df_lless (P := P) (w := w) (base := base) d
  exact df_of d.X d.G d.c 27 "_law_added" 47 rfl (fun _ _ _ _ _ _ us hl => match us, hl with | [_, _], _ => rfl) fun _ _ F => ok_ad F G1 k1 b1 g1 d.range d.len
theorem df_rank : Df P w K mg base CX0 4 "_law_rank" ["_law_rows_here"] spRk := by
  obtain ⟨f1, fd1, G1, k1, b1, g1⟩ := df_added (P := P) (w := w) (base := base) d
  exact df_of d.X d.G d.c 28 "_law_rank" 48 rfl (fun _ _ _ _ _ _ us hl => match us, hl with | [_], _ => rfl) fun _ _ F => ok_rk F G1 k1 b1 g1 d.len
theorem df_lpow : Df P w K mg base CX0 1 "_law_power" ["_law_seat", "_law_index"] spRaised := by
  exact df_of d.X d.G d.c 29 "_law_power" 49 rfl (fun _ _ _ _ _ _ us hl => match us, hl with | [_, _], _ => rfl) fun _ _ F => ok_lpow F d.range
theorem df_odd : Df P w K mg base CX0 1 "_law_odd" ["_law_seats", "_law_trial"] spOd := by
  exact df_of d.X d.G d.c 30 "_law_odd" 50 rfl (fun _ _ _ _ _ _ us hl => match us, hl with | [_, _], _ => rfl) fun _ _ F => ok_od F d.tuple d.list d.len d.range
theorem df_lw : Df P w K mg base CX0 2 "_law_powers" ["_law_seats", "_law_width", "_law_count"] spLw := by
  obtain ⟨f1, fd1, G1, k1, b1, g1⟩ := df_lpow (P := P) (w := w) (base := base) d
  exact df_of d.X d.G d.c 31 "_law_powers" 51 rfl (fun _ _ _ _ _ _ us hl => match us, hl with | [_, _, _], _ => rfl) fun _ _ F => ok_lw F G1 k1 b1 g1 d.range d.int d.tuple
theorem df_sc : Df P w K mg base CX0 4 "_law_scheme" ["_law_draw", "_law_seats", "_law_width", "_law_powers_here"] spSc := by
  obtain ⟨f1, fd1, G1, k1, b1, g1⟩ := df_take (P := P) (w := w) (base := base) d
  obtain ⟨f2, fd2, G2, k2, b2, g2⟩ := df_pick (P := P) (w := w) (base := base) d
  exact df_of d.X d.G d.c 32 "_law_scheme" 52 rfl (fun _ _ _ _ _ _ us hl => match us, hl with | [_, _, _, _], _ => rfl) fun _ _ F => ok_sc F G1 k1 b1 g1 G2 k2 b2 g2 d.len d.range d.tuple
theorem df_lc : Df P w K mg base CX0 1 "_law_columns" ["_law_seats", "_law_width", "_law_scheme_here", "_law_lost"] spLc := by
  exact df_of d.X d.G d.c 33 "_law_columns" 53 rfl (fun _ _ _ _ _ _ us hl => match us, hl with | [_, _, _, _], _ => rfl) fun _ _ F => ok_lc F d.range
theorem df_lb : Df P w K mg base CX0 5 "_law_bears" ["_law_seats", "_law_width", "_law_scheme_here", "_law_silent"] spLb := by
  obtain ⟨f1, fd1, G1, k1, b1, g1⟩ := df_lc (P := P) (w := w) (base := base) d
  obtain ⟨f2, fd2, G2, k2, b2, g2⟩ := df_rank (P := P) (w := w) (base := base) d
  exact df_of d.X d.G d.c 34 "_law_bears" 54 rfl (fun _ _ _ _ _ _ us hl => match us, hl with | [_, _, _, _], _ => rfl) fun _ _ F => ok_lb F G1 k1 b1 g1 G2 k2 b2 g2 d.len
theorem df_ip : Df P w K mg base CX0 2 "_law_is_pair" ["_law_seats", "_law_width", "_law_scheme_here", "_law_silent", "_law_pair"] spIP := by
  obtain ⟨f1, fd1, G1, k1, b1, g1⟩ := df_lc (P := P) (w := w) (base := base) d
  exact df_of d.X d.G d.c 35 "_law_is_pair" 55 rfl (fun _ _ _ _ _ _ us hl => match us, hl with | [_, _, _, _, _], _ => rfl) fun _ _ F => ok_ip F G1 k1 b1 g1 d.isinst d.tuple d.list d.sorted d.sett d.len d.range d.sum d.zip
theorem df_sp : Df P w K mg base CX0 4 "_law_spoilt" ["_law_draw", "_law_seats", "_law_trial"] spSp := by
  obtain ⟨f1, fd1, G1, k1, b1, g1⟩ := df_take (P := P) (w := w) (base := base) d
  obtain ⟨f2, fd2, G2, k2, b2, g2⟩ := df_pick (P := P) (w := w) (base := base) d
  exact df_of d.X d.G d.c 36 "_law_spoilt" 56 rfl (fun _ _ _ _ _ _ us hl => match us, hl with | [_, _, _], _ => rfl) fun _ _ F => ok_sp F G1 k1 b1 g1 G2 k2 b2 g2 d.len d.max d.tuple d.list
omit d
theorem caught_at (d : Hd K h mg) : ∃ (f : Addr) (fd : FuncData), L2.Fun K "_law_caught" "_law_caught" sCaught f fd ∧ Binds K fd ["_law_work"] [] ∧ mg "_law_caught" = some (.ref f) := by
  obtain ⟨fd, F⟩ := md_at d.c 24 (x := "_law_caught") (n := 44) rfl
  exact ⟨_, fd, F.toFun, F.toFun.binds fun _ _ _ _ _ _ us hl => match us, hl with | [_], _ => rfl, gl_at d.X d.G d.c 24 (x := "_law_caught") (n := 44) rfl⟩
end
end Hk
-- part VHk3
set_option maxHeartbeats 4000000
/-! What is refused, the law. -/
namespace Hk
open PySem PySem.Spec PyProof.Rows L2 NdefX Err Kn LamX
section
variable {P : Program} {w : World} {K : PySem.W.Frag} {h : Heap} {mg : Str → Option Value} {base : Heap}
variable (d : Hd K h mg)
include d
theorem df_rf {T : List (Addr × Str)} {Pt : Addr} (TB : TabB base mg (cdq K (He.ga K "_law_refused_right")) Pt) (h1 : (Pt, ("_law_refused_right.<locals>." : Str) ++ "<lambda>") ∈ T) (h2 : ∀ p ∈ T, p.1 = Pt → p.2 = ("_law_refused_right.<locals>." : Str) ++ "<lambda>") :
    Dfx P w K mg base CX0 12 "_law_refused_right" ["_law_draw"] (spRf T) := by
  obtain ⟨fP, fdP, GP, kP, bP, gP⟩ := df_pick (P := P) (w := w) (base := base) d
  obtain ⟨fU, fdU, GU, kU, bU, gU, _⟩ := df_ub_k (P := P) (w := w) (base := base) d
  obtain ⟨fI, fdI, GI, kI, bI, gI, _⟩ := df_iu_k (P := P) (w := w) (base := base) d
  obtain ⟨fS, fdS, GS, kS, bS_, gS, _⟩ := df_ps_k (P := P) (w := w) (base := base) d
  obtain ⟨fC, fdC, FC, bC, gC⟩ := caught_at d
  obtain ⟨fd, F⟩ := md_at d.c 37 (x := "_law_refused_right") (n := 57) rfl
  exact ⟨_, fd, ok_rf F TB h1 h2 d.eS d.eW d.eM d.eC d.kS d.kW d.kM d.kC d.still GP kP bP gP GU kU bU gU GI kI bI gI GS kS bS_ gS FC bC gC d.isinst,
    F.kp, F.toFun.binds fun _ _ _ _ _ _ us hl => match us, hl with | [_], _ => rfl, gl_at d.X d.G d.c 37 (x := "_law_refused_right") (n := 57) rfl⟩
theorem env_at {T : List (Addr × Str)} {Pt : Addr} (TB : TabB base mg (cdq K (He.ga K "_law_refused_right")) Pt) (h1 : (Pt, ("_law_refused_right.<locals>." : Str) ++ "<lambda>") ∈ T) (h2 : ∀ p ∈ T, p.1 = Pt → p.2 = ("_law_refused_right.<locals>." : Str) ++ "<lambda>") :
    LE69 P w K mg base T (He.ga K bS) (He.ga K "BadSeats") (He.ga K "BadWidth") (He.ga K "BadScheme") (He.ga K "BadCount") where
  begun := df_begun d
  take := df_take d
  shuf := df_shuf d
  ps := df_ps_k d
  ub := df_ub_k d
  iu := df_iu_k d
  lw := df_lw d
  sc := df_sc d
  lb := df_lb d
  ip := df_ip d
  sp := df_sp d
  od := df_odd d
  rf := df_rf d TB h1 h2
  fr := fun x hx => by
    simp only [List.mem_cons, List.not_mem_nil, or_false] at hx
    rcases hx with rfl | rfl | rfl | rfl | rfl | rfl | rfl
    · exact d.range
    · exact d.min
    · exact d.len
    · exact d.list
    · exact d.tuple
    · exact d.repr
    · exact d.sorted
end
/-- the tables of the defs that make lambdas -/
def csK (K : PySem.W.Frag) : List (Addr × Addr) := TN.map fun x => (cdq K (He.ga K x), tbq K x)
def ttK (K : PySem.W.Frag) : List (Addr × Str) := TN.map fun x => (tbq K x, x ++ (".<locals>." : Str) ++ "<lambda>")
theorem cs_all {K : PySem.W.Frag} {φ : Addr × Addr → Prop} (f : ∀ x ∈ TN, φ (cdq K (He.ga K x), tbq K x)) : ∀ p ∈ csK K, φ p := fun p hp => by
  obtain ⟨x, hx, rfl⟩ := List.mem_map.mp hp
  exact f x hx
theorem tt_has {K : PySem.W.Frag} {x : Str} (hx : x ∈ TN) : (tbq K x, x ++ (".<locals>." : Str) ++ "<lambda>") ∈ ttK K := List.mem_map_of_mem hx
theorem tt_only {K : PySem.W.Frag} {x : Str} (hx : x ∈ TN) : ∀ p ∈ ttK K, p.1 = tbq K x → p.2 = x ++ (".<locals>." : Str) ++ "<lambda>" := fun p hp e => by
  obtain ⟨y, hy, rfl⟩ := List.mem_map.mp hp
  unfold TN at hx hy
  rw [List.mem_singleton.mp hx, List.mem_singleton.mp hy]
theorem facts {P : Program} {w : World} {K : PySem.W.Frag} {h : Heap} {mg : Str → Option Value} {f : Addr} (d : Hd K h mg) (hfa : mg ("law" : Str) = some (.ref f)) :
    ∃ fd : FuncData, (∀ (s : Shared) (v : Value), BindsTo s fd ⟨[v], []⟩ [("_law_script", v)]) ∧ ∀ base : Heap, K.In base → base.Ns mainGlobals mg → (∀ p ∈ csK K, TabB base mg p.1 p.2) → Gd.FnOkG P w K mg base CX0 13 f fd ["_law_script"] (spLaw69 K (ttK K)) := by
  obtain ⟨fd, F⟩ := md_at d.c 38 (x := "law") (n := 58) rfl
  have e := hfa.symm.trans (gl_at d.X d.G d.c 38 (x := "law") (n := 58) rfl)
  cases e
  refine ⟨fd, fun s v => ?_, fun base _ _ TB => ?_⟩
  · obtain ⟨oc, od, kV, doc, pm, an, ct, osl, rfl, _, _⟩ := F.ex
    exact .of_eq rfl
  · have tb : ∀ x ∈ TN, TabB base mg (cdq K (He.ga K x)) (tbq K x) := fun x hx => TB _ (List.mem_map_of_mem (f := fun x => (cdq K (He.ga K x), tbq K x)) hx)
    have i1 : ("_law_refused_right" : Str) ∈ TN := by unfold TN; exact List.mem_cons_self ..
    exact ok_law69 F (env_at (w := w) d (T := ttK K) (tb _ i1) (tt_has i1) (tt_only i1))
end Hk
-- part VHk4
set_option maxHeartbeats 0
open PySem PySem.W PySem.Calls PyProof.Rows
theorem PySem.Challenge.cw_stillknown_k69_schemes_that_bear_holds : PySem.Challenge.rw_stillknown_k69_schemes_that_bear.Holds := by
  w_on; o_law
  refine HandSHeadRun.head_imp (r := OpenLaw.row PySem.Challenge.rw_stillknown_k69_schemes_that_bear) (q := view (OpenLaw.row PySem.Challenge.rw_stillknown_k69_schemes_that_bear).prog [0, 1, 58]) (H := Hk.hk) (ob := Hk.ob) (M := 6000) (loose := Hk.loose) (d := HandSHeadRun.topDef (OpenLaw.row PySem.Challenge.rw_stillknown_k69_schemes_that_bear).prog 58) (kwd := []) Hk.ob_eq
    Hk.run (by kernel_rfl) (by kernel_rfl) (by kernel_rfl) (by rfl) (by first | assumption | decide +kernel) (by decide +kernel) ⟨rfl, rfl, rfl, rfl, rfl, by decide +kernel⟩ ?hw ?hc
  case hw => w_witness2
  case hc =>
    refine Gd.walkGET (l := PySem.Challenge.rw_stillknown_k69_schemes_that_bear) (n := 63) (k := 13) (x := "_law_script") rfl (by decide) (by kernel_rfl) ⟨rfl, by decide, by decide⟩ ?F
    intro w mg fa h Y G hmg0
    obtain ⟨K, KX, c⟩ := Y
    have hmg : mg ("law" : PySem.Str) = some (.ref fa) := by
      have e : (HandSHeadRun.topDef (OpenLaw.row PySem.Challenge.rw_stillknown_k69_schemes_that_bear).prog 58).name = ("law" : PySem.Str) := by kernel_rfl
      rw [← e]
      exact hmg0
    obtain ⟨fd, hb, hF⟩ := Hk.facts (P := (OpenLaw.row PySem.Challenge.rw_stillknown_k69_schemes_that_bear).prog) (w := w) ⟨KX, G, c⟩ hmg
    refine ⟨K, fd, Kn.spLaw69 K (Hk.ttK K), Hk.csK K, KX, Hk.cs_all fun x hx => (Hk.tab_at c hx).1, Hk.cs_all fun x hx => c.tb x hx, Hk.cs_all fun x hx => (Hk.tab_at c hx).2, hb, fun H a ns hl hT hS => ⟨a, ns, rfl, hS, hl, fun p hp => ?_, fun _ => rfl⟩, hF⟩
    have z : p.1 ∈ (Hk.csK K).map (·.2) := by
      obtain ⟨x, hx, rfl⟩ := List.mem_map.mp hp
      exact List.mem_map.mpr ⟨_, List.mem_map_of_mem hx, rfl⟩
    obtain ⟨r, hr, e⟩ := List.mem_map.mp z
    exact LamX.TabS.nil (e ▸ hT r hr)
