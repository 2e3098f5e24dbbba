import PyProof.Rows.All
import HandS.Words
import HandS.Defaults
import HandS.Head0
import HandS.Head1
import HandS.Head2
import HandS.HeadEnd
import HandS.HeadHook1
import HandS.HeadHook2
import Wide.All
import OpenK.AllK
import Wide.FinOn
import HandS.ForMost
import HandS.Wide
import HandS.IsInst
import HandS.Gcd
import HandS.NoneIn
import HandS.ForExc
import HandS.ExcIs
import HandS.Star
import HandS.Walk
import HandS.Zip
import HandS.TupAny
import HandS.Strs
import HandS.TupMul
import HandS.ClsMeth
import HandS.DictComp
import HandS.MakeKw
import HandS.Property
import KE.KSuper
import KE.GoesMore
import HandS.Conv
import HandS.Rev
import HandS.RevTup
import HandS.Deep
import HandS.CallSlots
import HandS.EndBits
import HandS.Flow
import HandS.SetFor
import HandS.SortInts
import HandS.Style
import HandS.SortKw
import KE.DatumOrd
import KE.KMathGC
import HandS.Iter
import PyProof.Rows.SetFrom
import HandS.ListItems
import HandS.MapObj
import KE.KDictZip
import KE.GoesEnumKw
import PyProof.ListNew
import PyProof.TupleOfGen
import PySem.Challenge.RW_hushpapers_k73_sources_and_settings
set_option Elab.async false
set_option linter.all false
set_option maxRecDepth 100000
set_option maxHeartbeats 4000000
namespace Toy
open PySem L2
def top (i : Nat) : Stmt := PySem.Challenge.pw_hushpapers_k73_sources_and_settings.main.body.getD i (.Pass ⟨0, 0, 0, 0⟩)
abbrev s_Lpool : Stmt := top 20
abbrev s_Lmixed : Stmt := top 19
abbrev s_Ltake : Stmt := top 21
abbrev s_Lwrong_settings : Stmt := top 27
abbrev s_Lsame : Stmt := top 22
abbrev s_switch_places : Stmt := top 11
abbrev s__exchanged : Stmt := top 15
abbrev s_settings_for : Stmt := top 17
abbrev s_Lwrong_orders : Stmt := top 28
abbrev s_is_tuple_of : Stmt := top 6
abbrev s_is_residue : Stmt := top 5
abbrev s_is_residue_row : Stmt := top 7
abbrev s__count_switches : Stmt := top 12
abbrev s__check_settings : Stmt := top 13
abbrev s__by_layer : Stmt := top 14
abbrev s_source_places : Stmt := top 16
abbrev s_Lswitches : Stmt := top 23
abbrev s_Lsources : Stmt := top 24
abbrev s_Lrefused : Stmt := top 26
abbrev s_Lgoals : Stmt := top 25
abbrev s_law : Stmt := top 29
end Toy
set_option maxHeartbeats 0
set_option maxRecDepth 100000
namespace Hk
open PySem PySem.Spec PyProof.Rows L2
abbrev FG : Type := PySem.W.Frag
abbrev PA : Type := Str × Option Str
def tokOf (K : FG) (x : Str) : Tok := match PySem.W.nsIn K mainGlobals x with
  | some (some (Value.int _ t)) => t
  | _ => 0
def fob (K : FG) (a : Addr) : Obj := match K.lookup a with
  | some o => o
  | none => default
def fdo (K : FG) (a : Addr) : FuncData := match (fob K a).data with
  | .func fd => fd
  | _ => default
def isFd (K : FG) (a : Addr) : Bool := match K.lookup a with
  | some ⟨_, _, .func _, _⟩ => true
  | _ => false
def ccOf (K : FG) (p : PA) : Addr := match (fdo K (He.fAd K p)).closure with
  | (_, a) :: _ => a
  | _ => 0
def cdOf (K : FG) (p : PA) : Addr := match (fdo K (He.fAd K p)).code with
  | .ref a => a
  | _ => 0
def fvOf (K : FG) (p : PA) : Array Value := match (fob K (cdOf K p)).data with
  | .fields vs => vs
  | _ => #[]
def stOf (K : FG) (p : PA) : Tok := match (fvOf K p)[2]? with
  | some (Value.str _ t) => t
  | _ => 0
inductive Fb where
  | glo (x : Str)
  | free (x : Str)
  | int (x : Str) (i : Int)
  | keep (p : PA)
  | fnd (C x : Str) (p : PA)
  | nof (C x : Str)
  | isf (p : PA)
  | isc (x : Str)
  | hd (x : Str)
  | pg (x : Str)
  | po (x : Str)
  | sa (x : Str)
  | mk (x : Str)
  | sub (x : Str)
  | typ (p : PA) (n : String)
  | exc (x : Str)
  | mro (x : Str)
  | sup (C : Str) (p : PA)
  | stat (x : Str)
  | fin (p : PA)
  | cell (p : PA) (C : Str)
  | flds (p : PA)
  | file (p : PA) (z : Str)
  | subr (C D : Str) (b : Bool)
  | subt (C : Str) (n : String) (b : Bool)
  | fbi (C x : Str) (n : String)
  | spec (n : String) (x : Str) (m : String)
  | taks (n : String)
  | ine (C D : Str)
  | mrt (x : Str) (n : String)
def Fb.prop (K : FG) : Fb → Prop
  | .glo x => PySem.W.nsIn K mainGlobals x = some (some (.ref (He.fAd K (x, none))))
  | .free x => PySem.W.nsIn K mainGlobals x = some none
  | .int x i => PySem.W.nsIn K mainGlobals x = some (some (.int i (tokOf K x)))
  | .keep p => PySem.W.keepIn K (.ref (He.fAd K p)) = true
  | .fnd C x p => PySem.W.findIn K (.ref (He.fAd K (C, none))) x = some (some (.ref (He.fAd K p)))
  | .nof C x => PySem.W.findIn K (.ref (He.fAd K (C, none))) x = some none
  | .isf p => PySem.W.isFn K (.ref (He.fAd K p)) = true
  | .isc x => PySem.W.isClsIn K (He.fAd K (x, none)) = true
  | .hd x => PySem.W.hasDictIn K (He.fAd K (x, none)) = true
  | .pg x => PySem.W.plainGet K (He.fAd K (x, none)) Str.empty = true
  | .po x => PySem.W.plainOver K (He.fAd K (x, none)) = true
  | .sa x => PySem.W.findIn K (.ref (He.fAd K (x, none))) "__setattr__" = some (some (.builtin "object.__setattr__"))
  | .mk x => PySem.W.makesIn K (He.fAd K (x, none)) = true
  | .sub x => PySem.W.subIn K (.ref (He.fAd K (x, none))) (.type "BaseException") = some true
  | .typ p n => PySem.W.typeIn K (.ref (He.fAd K p)) = some (.type n)
  | .exc x => PySem.W.excIn K (He.fAd K (x, none)) [.type "ValueError", .type "Exception", .type "BaseException", .type "object"] "ValueError.__new__" = true
  | .mro x => PySem.W.mroIn K (He.fAd K (x, none)) (.ref (He.fAd K (x, none))) = some true
  | .sup C p => PySem.W.ks_superIn K (He.fAd K (C, none)) (He.fAd K (C, none)) "__init__" = some (some (.ref (He.fAd K p)))
  | .stat x => PySem.W.nsIn K cStatics x = some none
  | .fin p => PySem.W.fnIn K (He.fAd K p) = true
  | .cell p C => K.lookup (ccOf K p) = some ⟨(fob K (ccOf K p)).cls, (fob K (ccOf K p)).dict, .cell (some (.ref (He.fAd K (C, none)))), (fob K (ccOf K p)).slots⟩
  | .flds p => K.lookup (cdOf K p) = some ⟨(fob K (cdOf K p)).cls, (fob K (cdOf K p)).dict, .fields (fvOf K p), (fob K (cdOf K p)).slots⟩
  | .file p z => (fvOf K p)[2]? = some (.str z (stOf K p))
  | .subr C D b => PySem.W.subIn K (.ref (He.fAd K (C, none))) (.ref (He.fAd K (D, none))) = some b
  | .subt C n b => PySem.W.subIn K (.ref (He.fAd K (C, none))) (.type n) = some b
  | .fbi C x n => PySem.W.findIn K (.ref (He.fAd K (C, none))) x = some (some (.builtin n))
  | .spec n x m => PySem.W.specialIn K (.builtin n) x = some (some (.builtin m))
  | .taks n => PySem.W.takesIn K (.builtin n) = some true
  | .ine C D => (Value.ref (He.fAd K (C, none)) == Value.ref (He.fAd K (D, none))) = false
  | .mrt x n => PySem.W.mroIn K (He.fAd K (x, none)) (.type n) = some true
def Fb.ok (K : FG) : Fb → Bool
  | .glo x => He.eqO (PySem.W.nsIn K mainGlobals x) (some (some (.ref (He.fAd K (x, none)))))
  | .free x => He.eqO (PySem.W.nsIn K mainGlobals x) (some none)
  | .int x i => He.eqO (PySem.W.nsIn K mainGlobals x) (some (some (.int i (tokOf K x))))
  | .keep p => PySem.W.keepIn K (.ref (He.fAd K p))
  | .fnd C x p => He.eqO (PySem.W.findIn K (.ref (He.fAd K (C, none))) x) (some (some (.ref (He.fAd K p))))
  | .nof C x => He.eqO (PySem.W.findIn K (.ref (He.fAd K (C, none))) x) (some none)
  | .isf p => PySem.W.isFn K (.ref (He.fAd K p))
  | .isc x => PySem.W.isClsIn K (He.fAd K (x, none))
  | .hd x => PySem.W.hasDictIn K (He.fAd K (x, none))
  | .pg x => PySem.W.plainGet K (He.fAd K (x, none)) Str.empty
  | .po x => PySem.W.plainOver K (He.fAd K (x, none))
  | .sa x => He.eqO (PySem.W.findIn K (.ref (He.fAd K (x, none))) "__setattr__") (some (some (.builtin "object.__setattr__")))
  | .mk x => PySem.W.makesIn K (He.fAd K (x, none))
  | .sub x => decide (PySem.W.subIn K (.ref (He.fAd K (x, none))) (.type "BaseException") = some true)
  | .typ p n => decide (PySem.W.typeIn K (.ref (He.fAd K p)) = some (.type n))
  | .exc x => PySem.W.excIn K (He.fAd K (x, none)) [.type "ValueError", .type "Exception", .type "BaseException", .type "object"] "ValueError.__new__"
  | .mro x => decide (PySem.W.mroIn K (He.fAd K (x, none)) (.ref (He.fAd K (x, none))) = some true)
  | .sup C p => He.eqO (PySem.W.ks_superIn K (He.fAd K (C, none)) (He.fAd K (C, none)) "__init__") (some (some (.ref (He.fAd K p))))
  | .stat x => He.eqO (PySem.W.nsIn K cStatics x) (some none)
  | .fin p => PySem.W.fnIn K (He.fAd K p)
  | .cell p C => (match K.lookup (ccOf K p) with
    | some ⟨_, _, .cell (some (.ref a)), _⟩ => decide (a = He.fAd K (C, none))
    | _ => false)
  | .flds p => (match K.lookup (cdOf K p) with
    | some ⟨_, _, .fields _, _⟩ => true
    | _ => false)
  | .file p z => decide ((fvOf K p)[2]? = some (.str z (stOf K p)))
  | .subr C D b => decide (PySem.W.subIn K (.ref (He.fAd K (C, none))) (.ref (He.fAd K (D, none))) = some b)
  | .subt C n b => decide (PySem.W.subIn K (.ref (He.fAd K (C, none))) (.type n) = some b)
  | .fbi C x n => He.eqO (PySem.W.findIn K (.ref (He.fAd K (C, none))) x) (some (some (.builtin n)))
  | .spec n x m => He.eqO (PySem.W.specialIn K (.builtin n) x) (some (some (.builtin m)))
  | .taks n => decide (PySem.W.takesIn K (.builtin n) = some true)
  | .ine C D => !(Value.ref (He.fAd K (C, none)) == Value.ref (He.fAd K (D, none)))
  | .mrt x n => decide (PySem.W.mroIn K (He.fAd K (x, none)) (.type n) = some true)
theorem cell_ok {K : FG} {b c : Addr} (h : (match K.lookup b with
    | some ⟨_, _, .cell (some (.ref a)), _⟩ => decide (a = c)
    | _ => false) = true) : K.lookup b = some ⟨(fob K b).cls, (fob K b).dict, .cell (some (.ref c)), (fob K b).slots⟩ := by
  unfold fob
  cases e : K.lookup b with
  | none => rw [e] at h; cases h
  | some o =>
    rw [e] at h
    obtain ⟨oc, od, dt, sl⟩ := o
    cases dt with
    | cell v =>
      cases v with
      | none => cases h
      | some v =>
        cases v with
        | ref a => rw [of_decide_eq_true h]
        | _ => cases h
    | _ => cases h
theorem flds_ok {K : FG} {b : Addr} (h : (match K.lookup b with
    | some ⟨_, _, .fields _, _⟩ => true
    | _ => false) = true) : K.lookup b = some ⟨(fob K b).cls, (fob K b).dict, .fields (match (fob K b).data with
      | .fields vs => vs
      | _ => #[]), (fob K b).slots⟩ := by
  unfold fob
  cases e : K.lookup b with
  | none => rw [e] at h; cases h
  | some o =>
    rw [e] at h
    obtain ⟨oc, od, dt, sl⟩ := o
    cases dt with
    | fields v => rfl
    | _ => cases h
theorem Fb.sound {K : FG} {f : Fb} (h : f.ok K = true) : f.prop K := by
  cases f with
  | glo x => exact He.eqO_ok h
  | free x => exact He.eqO_ok h
  | int x i => exact He.eqO_ok h
  | fnd C x p => exact He.eqO_ok h
  | nof C x => exact He.eqO_ok h
  | sa x => exact He.eqO_ok h
  | sup C p => exact He.eqO_ok h
  | stat x => exact He.eqO_ok h
  | sub x => exact of_decide_eq_true (p := _ = _) h
  | typ p n => exact of_decide_eq_true (p := _ = _) h
  | mro x => exact of_decide_eq_true (p := _ = _) h
  | file p z => exact of_decide_eq_true (p := _ = _) h
  | cell p C => exact cell_ok h
  | flds p => exact flds_ok h
  | subr C D b => exact of_decide_eq_true (p := _ = _) h
  | subt C n b => exact of_decide_eq_true (p := _ = _) h
  | fbi C x n => exact He.eqO_ok h
  | spec n x m => exact He.eqO_ok h
  | taks n => exact of_decide_eq_true (p := _ = _) h
  | ine C D => exact (Bool.not_eq_true' _).mp h
  | mrt x n => exact of_decide_eq_true (p := _ = _) h
  | _ => exact h
abbrev FnV : Type := Str × Str × Arguments × FuncBody × Scope × Addr × List Str × Value × Addr
def fnv (fd : FuncData) : FnV := (fd.name, fd.qualname, fd.params, fd.body, fd.scope, fd.globals, fd.closure.map (·.1), fd.defaults, fd.builtins)
structure Dn where
  at_ : PA
  name : Str
  qual : Str
  st : Stmt
  cl : List Str
def Dn.val (d : Dn) : FnV := (d.name, d.qual, defArgs d.st, .stmts (defBody d.st), defScope d.st, mainGlobals, d.cl, .none, builtinsNs)
def isRef : Value → Bool
  | .ref _ => true
  | _ => false
def Dn.ok (K : FG) (d : Dn) : Bool := isFd K (He.fAd K d.at_) && (PySem.W.codeIn K (fdo K (He.fAd K d.at_)).code d.qual && (d.cl.isEmpty || isRef (fdo K (He.fAd K d.at_)).code))
theorem look {K : FG} {a : Addr} (h : isFd K a = true) : K.lookup a = some ⟨(fob K a).cls, (fob K a).dict, .func (fdo K a), (fob K a).slots⟩ := by
  unfold fdo fob
  unfold isFd at h
  cases e : K.lookup a with
  | none => rw [e] at h; cases h
  | some o =>
    rw [e] at h
    obtain ⟨oc, od, dt, sl⟩ := o
    cases dt with
    | func fd => rfl
    | _ => cases h
theorem fd_of {fd : FuncData} {d : Dn} (e : fnv fd = d.val) (c : d.cl = []) : fd = PySem.W.fnOf d.name d.qual (defArgs d.st) (defBody d.st) (defScope d.st) .none fd.kwdefaults fd.doc fd.pyModule fd.annotations fd.code fd.closureTuple := by
  obtain ⟨n1, n2, n3, n4, n5, n6, n7, n8, n9, n10, n11, n12, n13, n14, n15⟩ := fd
  have e2 : ((n1, n2, n3, n4, n5, n6, n7.map (·.1), n8, n15) : FnV) = (d.name, d.qual, defArgs d.st, .stmts (defBody d.st), defScope d.st, mainGlobals, d.cl, .none, builtinsNs) := e
  simp only [Prod.mk.injEq] at e2
  obtain ⟨h1, h2, h3, h4, h5, h6, h7, h8, h9⟩ := e2
  rw [c] at h7
  have h7b : n7 = [] := List.map_eq_nil_iff.mp h7
  subst h1 h2 h3 h4 h5 h6 h7b h8 h9
  rfl
theorem fd_ofX {fd : FuncData} {d : Dn} {x : Str} (e : fnv fd = d.val) (c : d.cl = [x]) (r : isRef fd.code = true) : fd = PySem.W.fnX d.name d.qual (defArgs d.st) (defBody d.st) (defScope d.st) [(x, match fd.closure with
  | (_, a) :: _ => a
  | _ => 0)] .none fd.kwdefaults fd.doc fd.pyModule fd.annotations (.ref (match fd.code with
  | .ref a => a
  | _ => 0)) fd.closureTuple := by
  obtain ⟨n1, n2, n3, n4, n5, n6, n7, n8, n9, n10, n11, n12, n13, n14, n15⟩ := fd
  have e2 : ((n1, n2, n3, n4, n5, n6, n7.map (·.1), n8, n15) : FnV) = (d.name, d.qual, defArgs d.st, .stmts (defBody d.st), defScope d.st, mainGlobals, d.cl, .none, builtinsNs) := e
  simp only [Prod.mk.injEq] at e2
  obtain ⟨h1, h2, h3, h4, h5, h6, h7, h8, h9⟩ := e2
  rw [c] at h7
  match n7, h7 with
  | [(y, b)], h7 =>
    have hy : y = x := (List.cons.inj h7).1
    cases n13 with
    | ref a =>
      subst h1 h2 h3 h4 h5 h6 hy h8 h9
      rfl
    | _ => cases r
abbrev Al : Type := Bool × List FnV
def obs (fa : List Fb) (dn : List Dn) (K : FG) : Al := (fa.all (fun f => f.ok K) && dn.all (fun d => d.ok K), dn.map fun d => fnv (fdo K (He.fAd K d.at_)))
def val (dn : List Dn) : Al := (true, dn.map Dn.val)
def Says (fa : List Fb) (dn : List Dn) (K : FG) : Prop := obs fa dn K = val dn
theorem obs_app {fa fb : List Fb} {dn dm : List Dn} {K : FG} (h1 : obs fa dn K = val dn) (h2 : obs fb dm K = val dm) : obs (fa ++ fb) (dn ++ dm) K = val (dn ++ dm) := by
  have a1 : (fa.all (fun f => f.ok K) && dn.all (fun d => d.ok K)) = true := congrArg Prod.fst h1
  have a2 : (fb.all (fun f => f.ok K) && dm.all (fun d => d.ok K)) = true := congrArg Prod.fst h2
  have b1 : (dn.map fun d => fnv (fdo K (He.fAd K d.at_))) = dn.map Dn.val := congrArg Prod.snd h1
  have b2 : (dm.map fun d => fnv (fdo K (He.fAd K d.at_))) = dm.map Dn.val := congrArg Prod.snd h2
  rw [Bool.and_eq_true] at a1 a2
  refine Prod.ext ?_ ?_
  · show ((fa ++ fb).all (fun f => f.ok K) && (dn ++ dm).all (fun d => d.ok K)) = true
    rw [List.all_append, List.all_append, a1.1, a1.2, a2.1, a2.2]
    rfl
  · show ((dn ++ dm).map fun d => fnv (fdo K (He.fAd K d.at_))) = (dn ++ dm).map Dn.val
    rw [List.map_append, List.map_append, b1, b2]
def obsG (n : List Addr) (fa : List Fb) (dn : List Dn) (g : Addr → Option Obj) : Al := obs fa dn (He.frG g n)
def hook (n : List Addr) (fa : List Fb) (dn : List Dn) : PySem.W.Hook where
  α := Al
  obs := fun s => obsG n fa dn s.heap.get?
  val := fun _ => val dn
  says := fun _ h => ∃ K : PySem.W.Frag, K.In h ∧ Says fa dn K
  of := fun _ _ e => ⟨_, He.frG_in, e⟩
  keeps := fun _ _ _ ⟨K, hK, c⟩ k => ⟨K, PySem.W.Frag.In.keeps hK k, c⟩
theorem obsG_eq {n : List Addr} {fa : List Fb} {dn : List Dn} {g : Addr → Option Obj} {s : Shared} (h : ∀ a, g a = s.heap.get? a) : obsG n fa dn g = (hook n fa dn).obs s := by
  have e : g = s.heap.get? := funext h
  rw [e] <;> rfl
section
variable {fa : List Fb} {dn : List Dn} {K : PySem.W.Frag}
theorem Says.both (c : Says fa dn K) : fa.all (fun f => f.ok K) = true ∧ dn.all (fun d => d.ok K) = true := He.ba (congrArg (fun z : Al => z.1) c)
theorem Says.f (c : Says fa dn K) (f : Fb) (i : Nat) (h : fa[i]? = some f) : f.prop K := Fb.sound (List.all_eq_true.mp c.both.1 f (List.mem_of_getElem? h))
theorem Says.d (c : Says fa dn K) {d : Dn} {i : Nat} (h : dn[i]? = some d) : d.ok K = true ∧ fnv (fdo K (He.fAd K d.at_)) = d.val := by
  have e2 : (dn.map fun d => fnv (fdo K (He.fAd K d.at_)))[i]? = (dn.map Dn.val)[i]? := by rw [show (dn.map fun d => fnv (fdo K (He.fAd K d.at_))) = dn.map Dn.val from congrArg (fun z : Al => z.2) c]
  rw [List.getElem?_map, List.getElem?_map, h] at e2
  exact ⟨List.all_eq_true.mp c.both.2 d (List.mem_of_getElem? h), Option.some.inj e2⟩
theorem Says.l (c : Says fa dn K) (p : PA) (n q : Str) (s : Stmt) (i : Nat) (h : dn[i]? = some ⟨p, n, q, s, []⟩) :
    K.lookup (He.fAd K p) = some ⟨(fob K (He.fAd K p)).cls, (fob K (He.fAd K p)).dict, .func (PySem.W.fnOf n q (defArgs s) (defBody s) (defScope s) .none (fdo K (He.fAd K p)).kwdefaults (fdo K (He.fAd K p)).doc (fdo K (He.fAd K p)).pyModule (fdo K (He.fAd K p)).annotations (fdo K (He.fAd K p)).code (fdo K (He.fAd K p)).closureTuple), (fob K (He.fAd K p)).slots⟩ := by
  obtain ⟨h1, h2⟩ := c.d h
  have z := look (He.ba h1).1
  exact z.trans (congrArg (fun fd => some (⟨(fob K (He.fAd K p)).cls, (fob K (He.fAd K p)).dict, .func fd, (fob K (He.fAd K p)).slots⟩ : Obj)) (fd_of h2 rfl))
theorem Says.c (c : Says fa dn K) (p : PA) (n q : Str) (s : Stmt) (i : Nat) (h : dn[i]? = some ⟨p, n, q, s, []⟩) : PySem.W.codeIn K (fdo K (He.fAd K p)).code q = true := (He.ba (He.ba (c.d h).1).2).1
theorem Says.lx (c : Says fa dn K) (p : PA) (n q : Str) (s : Stmt) (x : Str) (i : Nat) (h : dn[i]? = some ⟨p, n, q, s, [x]⟩) :
    K.lookup (He.fAd K p) = some ⟨(fob K (He.fAd K p)).cls, (fob K (He.fAd K p)).dict, .func (PySem.W.fnX n q (defArgs s) (defBody s) (defScope s) [(x, ccOf K p)] .none (fdo K (He.fAd K p)).kwdefaults (fdo K (He.fAd K p)).doc (fdo K (He.fAd K p)).pyModule (fdo K (He.fAd K p)).annotations (.ref (cdOf K p)) (fdo K (He.fAd K p)).closureTuple), (fob K (He.fAd K p)).slots⟩ := by
  obtain ⟨h1, h2⟩ := c.d h
  have z := look (He.ba h1).1
  have r : isRef (fdo K (He.fAd K p)).code = true := (He.ba (He.ba h1).2).2
  exact z.trans (congrArg (fun fd => some (⟨(fob K (He.fAd K p)).cls, (fob K (He.fAd K p)).dict, .func fd, (fob K (He.fAd K p)).slots⟩ : Obj)) (fd_ofX h2 rfl r))
theorem Says.cx (c : Says fa dn K) (p : PA) (n q : Str) (s : Stmt) (x : Str) (i : Nat) (h : dn[i]? = some ⟨p, n, q, s, [x]⟩) : PySem.W.codeIn K (.ref (cdOf K p)) q = true := by
  obtain ⟨h1, _⟩ := c.d h
  have z := (He.ba (He.ba h1).2).1
  have r : isRef (fdo K (He.fAd K p)).code = true := (He.ba (He.ba h1).2).2
  have e : (fdo K (He.fAd K p)).code = .ref (cdOf K p) := by
    unfold cdOf
    cases q : (fdo K (He.fAd K p)).code with
    | ref a => rfl
    | _ => rw [q] at r; cases r
  rw [e] at z
  exact z
end
end Hk
namespace Hk
open PySem PySem.Spec PyProof.Rows L2
abbrev gl (x : Str) : PA := (x, none)
abbrev me (C x : Str) : PA := (C, some x)
def fa0 : List Fb := [.glo "_law_pool", .keep (gl "_law_pool"), .glo "_law_mixed", .keep (gl "_law_mixed"), .glo "_law_take", .keep (gl "_law_take"), .glo "_law_wrong_settings", .keep (gl "_law_wrong_settings"), .glo "_law_same", .keep (gl "_law_same"), .glo "switch_places", .keep (gl "switch_places"), .glo "_exchanged", .keep (gl "_exchanged"), .glo "settings_for", .keep (gl "settings_for"), .glo "_law_wrong_orders", .keep (gl "_law_wrong_orders"), .glo "is_tuple_of", .keep (gl "is_tuple_of"), .glo "is_residue", .keep (gl "is_residue"), .glo "is_residue_row", .keep (gl "is_residue_row"), .glo "_count_switches", .keep (gl "_count_switches"), .glo "_check_settings", .keep (gl "_check_settings"), .glo "_by_layer", .keep (gl "_by_layer"), .glo "source_places", .keep (gl "source_places"), .glo "_law_switches", .keep (gl "_law_switches"), .glo "_law_sources", .keep (gl "_law_sources"), .glo "_law_refused", .keep (gl "_law_refused"), .glo "_law_goals", .keep (gl "_law_goals"), .glo "law", .keep (gl "law"), .free "all", .free "bool", .free "int", .free "isinstance", .free "len", .free "list", .free "range", .free "sorted", .free "str"]
def fa1 : List Fb := [.free "tuple", .free "zip", .glo "BadStatement", .keep (gl "BadStatement"), .sub "BadStatement", .typ (gl "BadStatement") "type", .isc "BadStatement", .hd "BadStatement", .exc "BadStatement", .glo "BadTape", .keep (gl "BadTape"), .sub "BadTape", .typ (gl "BadTape") "type", .isc "BadTape", .hd "BadTape", .exc "BadTape", .glo "HushError", .keep (gl "HushError"), .sub "HushError", .typ (gl "HushError") "type", .isc "HushError", .hd "HushError", .exc "HushError", .subr "BadStatement" "HushError" true, .subr "BadTape" "HushError" true, .subr "HushError" "HushError" true, .spec "object.__class__" "__get__" "getset_descriptor.__get__", .taks "object.__class__", .fbi "BadStatement" "__getattribute__" "BaseException.__getattribute__", .nof "BadStatement" "__getattr__", .fbi "BadStatement" "__class__" "object.__class__", .mrt "BadStatement" "object", .subr "BadStatement" "BadStatement" true, .subr "BadStatement" "BadTape" false, .ine "BadStatement" "BadTape", .fbi "BadTape" "__getattribute__" "BaseException.__getattribute__", .nof "BadTape" "__getattr__", .fbi "BadTape" "__class__" "object.__class__", .mrt "BadTape" "object", .subr "BadTape" "BadStatement" false, .ine "BadTape" "BadStatement", .subr "BadTape" "BadTape" true, .fbi "HushError" "__getattribute__" "BaseException.__getattribute__", .nof "HushError" "__getattr__", .fbi "HushError" "__class__" "object.__class__", .mrt "HushError" "object", .subr "HushError" "BadStatement" false, .ine "HushError" "BadStatement", .subr "HushError" "BadTape" false, .ine "HushError" "BadTape", .int "CROSSED" 1, .int "STRAIGHT" 0]
def dn0 : List Dn := [⟨gl "_law_pool", "_law_pool", "_law_pool", Toy.s_Lpool, []⟩, ⟨gl "_law_mixed", "_law_mixed", "_law_mixed", Toy.s_Lmixed, []⟩, ⟨gl "_law_take", "_law_take", "_law_take", Toy.s_Ltake, []⟩, ⟨gl "_law_wrong_settings", "_law_wrong_settings", "_law_wrong_settings", Toy.s_Lwrong_settings, []⟩, ⟨gl "_law_same", "_law_same", "_law_same", Toy.s_Lsame, []⟩, ⟨gl "switch_places", "switch_places", "switch_places", Toy.s_switch_places, []⟩, ⟨gl "_exchanged", "_exchanged", "_exchanged", Toy.s__exchanged, []⟩, ⟨gl "settings_for", "settings_for", "settings_for", Toy.s_settings_for, []⟩, ⟨gl "_law_wrong_orders", "_law_wrong_orders", "_law_wrong_orders", Toy.s_Lwrong_orders, []⟩, ⟨gl "is_tuple_of", "is_tuple_of", "is_tuple_of", Toy.s_is_tuple_of, []⟩]
def dn1 : List Dn := [⟨gl "is_residue", "is_residue", "is_residue", Toy.s_is_residue, []⟩, ⟨gl "is_residue_row", "is_residue_row", "is_residue_row", Toy.s_is_residue_row, []⟩, ⟨gl "_count_switches", "_count_switches", "_count_switches", Toy.s__count_switches, []⟩, ⟨gl "_check_settings", "_check_settings", "_check_settings", Toy.s__check_settings, []⟩, ⟨gl "_by_layer", "_by_layer", "_by_layer", Toy.s__by_layer, []⟩, ⟨gl "source_places", "source_places", "source_places", Toy.s_source_places, []⟩, ⟨gl "_law_switches", "_law_switches", "_law_switches", Toy.s_Lswitches, []⟩, ⟨gl "_law_sources", "_law_sources", "_law_sources", Toy.s_Lsources, []⟩, ⟨gl "_law_refused", "_law_refused", "_law_refused", Toy.s_Lrefused, []⟩, ⟨gl "_law_goals", "_law_goals", "_law_goals", Toy.s_Lgoals, []⟩, ⟨gl "law", "law", "law", Toy.s_law, []⟩]
def nm0 : List Str := [("_wall" : PySem.Str), ("__name__" : PySem.Str), ("HushError" : PySem.Str), ("BadStatement" : PySem.Str), ("BadTape" : PySem.Str), ("is_residue" : PySem.Str), ("is_tuple_of" : PySem.Str), ("is_residue_row" : PySem.Str), ("STRAIGHT" : PySem.Str), ("CROSSED" : PySem.Str), ("switch_places" : PySem.Str), ("_count_switches" : PySem.Str), ("_check_settings" : PySem.Str), ("_by_layer" : PySem.Str), ("_exchanged" : PySem.Str), ("source_places" : PySem.Str), ("settings_for" : PySem.Str), ("_law_mixed" : PySem.Str), ("_law_pool" : PySem.Str), ("_law_take" : PySem.Str), ("_law_same" : PySem.Str), ("_law_switches" : PySem.Str), ("_law_sources" : PySem.Str), ("_law_goals" : PySem.Str), ("_law_refused" : PySem.Str), ("_law_wrong_settings" : PySem.Str), ("_law_wrong_orders" : PySem.Str)]
def fa : List Fb := fa0 ++ fa1
def dn : List Dn := dn0 ++ dn1
def nm : List Str := nm0
abbrev R : PySem.W.OpenRow := PySem.W.OpenLaw.row PySem.Challenge.rw_hushpapers_k73_sources_and_settings
def adL : List Addr := [0, 2, 3, 4, 6, 22, 23, 24, 25, 35, 36, 37, 47, 48, 49, 52, 53, 54, 55, 56, 57, 58, 59, 60, 61, 62, 63, 64, 65, 66, 67, 68, 69, 70, 71, 72, 73, 74, 75, 76, 77, 78, 79, 80, 81, 82, 83, 84, 85, 86, 87, 88, 89, 90, 91, 92, 93, 94, 95, 96, 97, 98, 99, 100, 101, 102, 103, 104, 105, 106, 107, 108, 109, 110, 111, 112, 113, 114, 115, 116, 117, 118, 119, 120, 121, 122, 123, 124, 125, 126, 127, 128, 129, 130, 131, 132, 133, 134, 135, 136, 137, 138, 139, 140, 141, 142, 143, 144, 145, 146, 147, 148, 149, 150, 151, 152, 153, 154, 155, 156, 157, 158, 159, 160, 161, 162, 163, 164, 165, 166, 167, 168, 169, 170, 171, 172, 173, 174, 175, 176, 177, 178, 179, 180, 181, 182, 183, 184, 185, 186]
abbrev hkk : PySem.W.Hook := hook adL fa dn
def ob (s : PySem.W.SharedT) : Al := obsG adL fa dn (HandSHeadRun.getT s)
theorem ob_eq (s : PySem.W.SharedT) : ob s = hkk.obs s.abs := obsG_eq (HandSHeadRun.getT_eq s)
def Kof (s : PySem.W.SharedT) : FG := He.frG (HandSHeadRun.getT s) adL
set_option maxRecDepth 100000 in
set_option maxHeartbeats 0 in
theorem runT (w : World) (os : OsState) : (HandSHeadRun.endF (HandSHeadRun.stepQ (HandSHeadRun.denQ HandSHeadRun.tabQ) R.prog w) 8000 R.prog w os).map (fun s => (HandSHeadRun.looksF R.prog (PySem.W.boot_heap w.params) s.abs, HandSHeadRun.seenQ (PySem.W.view R.prog [29]) nm (PySem.importedModules R.prog.main.body) (fun s => PySem.W.xlAt (PySem.W.view R.prog [29]) [] s && PySem.W.recOk R.toRowW.records s) s.abs)) = some (true, PySem.W.openGood (PySem.W.view R.prog [29]) nm) := by
  kernel_rfl
set_option maxRecDepth 100000 in
set_option maxHeartbeats 0 in
theorem run0 (w : World) (os : OsState) : (HandSHeadRun.endF (HandSHeadRun.stepQ (HandSHeadRun.denQ HandSHeadRun.tabQ) R.prog w) 8000 R.prog w os).map (fun s => obs fa0 dn0 (Kof s)) = some (val dn0) := by
  kernel_rfl
set_option maxRecDepth 100000 in
set_option maxHeartbeats 0 in
theorem run1 (w : World) (os : OsState) : (HandSHeadRun.endF (HandSHeadRun.stepQ (HandSHeadRun.denQ HandSHeadRun.tabQ) R.prog w) 8000 R.prog w os).map (fun s => obs fa1 dn1 (Kof s)) = some (val dn1) := by
  kernel_rfl
theorem run (w : World) : HandSHeadRun.RunEq R (PySem.W.view R.prog [29]) hkk ob 8000 nm w := by
  intro os
  obtain ⟨s, hs, ht⟩ := Option.map_eq_some_iff.mp (runT w os)
  have h0 : obs fa0 dn0 (Kof s) = val dn0 := Option.some.inj ((congrArg (Option.map fun s => obs fa0 dn0 (Kof s)) hs).symm.trans (run0 w os))
  have h1 : obs fa1 dn1 (Kof s) = val dn1 := Option.some.inj ((congrArg (Option.map fun s => obs fa1 dn1 (Kof s)) hs).symm.trans (run1 w os))
  have hc : ob s = hkk.val w := (obs_app h0 h1)
  have h1 := congrArg Prod.fst ht
  have h2 := congrArg Prod.snd ht
  rw [hs]
  exact congrArg some (Prod.ext h1 (Prod.ext h2 hc))
end Hk
namespace Toy
open PySem L2
inductive PV where
  | non | bl (b : Bool) | int (i : Int) | str (x : Str)
  | tup (xs : List PV) | lst (xs : List PV) | fls (xs : List PV)
  | ins (C : Str) (fs : List (Str × PV)) | dct (kvs : List (Key × PV))
  | ty (n : String)
  | er (a : Addr)
  | ktp (xs : List PV)
mutual
inductive Is (K : PySem.W.Frag) (cl : Str → Option Addr) (F : Hp) : V → PV → Prop
  | non : Is K cl F .non .non
  | bl (b : Bool) : Is K cl F (.bl b) (.bl b)
  | int (i : Int) : Is K cl F (.int i) (.int i)
  | str (x : Str) : Is K cl F (.str x) (.str x)
  | ty (n : String) : Is K cl F (.ty n) (.ty n)
  | er (a : Addr) : Is K cl F (.ref a) (.er a)
  | ktp {a : Addr} {ob : Obj} {vs : List V} {ps : List PV} : F a = some (.frz ob (.tup vs)) → ob.cls = .type "tuple" → ob.dict = none → IsL K cl F vs ps → Is K cl F (.ref a) (.ktp ps)
  | tup {a : Addr} {vs : List V} {ps : List PV} : SqT K F a vs → IsL K cl F vs ps → Is K cl F (.ref a) (.tup ps)
  | lst {a : Addr} {vs : List V} {ps : List PV} : F a = some (.lst vs) → IsL K cl F vs ps → Is K cl F (.ref a) (.lst ps)
  | fls {a : Addr} {vs : List V} {ps : List PV} : SqL K F a vs → IsL K cl F vs ps → Is K cl F (.ref a) (.fls ps)
  | ins {a c dx : Addr} {C : Str} {vs : List (Str × V)} {fs : List (Str × PV)} : cl C = some c → F a = some (.ins c dx vs) → IsF K cl F vs fs → Is K cl F (.ref a) (.ins C fs)
  | dct {a : Addr} {vs : List (Key × V)} {ps : List (Key × PV)} : F a = some (.dK vs) → IsK K cl F vs ps → Is K cl F (.ref a) (.dct ps)
inductive IsL (K : PySem.W.Frag) (cl : Str → Option Addr) (F : Hp) : List V → List PV → Prop
  | nil : IsL K cl F [] []
  | cons {v : V} {p : PV} {vs : List V} {ps : List PV} : Is K cl F v p → IsL K cl F vs ps → IsL K cl F (v :: vs) (p :: ps)
inductive IsF (K : PySem.W.Frag) (cl : Str → Option Addr) (F : Hp) : List (Str × V) → List (Str × PV) → Prop
  | nil : IsF K cl F [] []
  | cons {f : Str} {v : V} {p : PV} {vs : List (Str × V)} {ps : List (Str × PV)} : Is K cl F v p → IsF K cl F vs ps → IsF K cl F ((f, v) :: vs) ((f, p) :: ps)
inductive IsK (K : PySem.W.Frag) (cl : Str → Option Addr) (F : Hp) : List (Key × V) → List (Key × PV) → Prop
  | nil : IsK K cl F [] []
  | cons {f : Key} {v : V} {p : PV} {vs : List (Key × V)} {ps : List (Key × PV)} : Is K cl F v p → IsK K cl F vs ps → IsK K cl F ((f, v) :: vs) ((f, p) :: ps)
end
section
variable {K : PySem.W.Frag} {cl : Str → Option Addr} {F F' : Hp}
def Sub (F F' : Hp) : Prop := ∀ a o, F a = some o → F' a = some o
theorem Sub.refl {F : Hp} : Sub F F := fun _ _ h => h
theorem Sub.trans {F F' F2 : Hp} (a : Sub F F') (b : Sub F' F2) : Sub F F2 := fun x o h => b x o (a x o h)
theorem Sub.rd {a : Addr} {u : HO} (s : Sub F F') (h : Rd F a u) : Rd F' a u := by
  rcases h with h | ⟨o, h⟩
  · exact .inl (s _ _ h)
  · exact .inr ⟨o, s _ _ h⟩
theorem Sub.sqT {a : Addr} {vs : List V} (s : Sub F F') (h : SqT K F a vs) : SqT K F' a vs := h.imp (fun h => s.rd h) id
theorem Sub.sqL {a : Addr} {vs : List V} (s : Sub F F') (h : SqL K F a vs) : SqL K F' a vs := h.imp (fun h => s.rd h) id
mutual
theorem Is.mono (s : Sub F F') : ∀ {v : V} {p : PV}, Is K cl F v p → Is K cl F' v p
  | _, _, .non => .non
  | _, _, .bl b => .bl b
  | _, _, .int i => .int i
  | _, _, .str x => .str x
  | _, _, .ty n => .ty n
  | _, _, .er a => .er a
  | _, _, .ktp h c d r => .ktp (s _ _ h) c d (IsL.mono s r)
  | _, _, .tup h r => .tup (s.sqT h) (IsL.mono s r)
  | _, _, .lst h r => .lst (s _ _ h) (IsL.mono s r)
  | _, _, .fls h r => .fls (s.sqL h) (IsL.mono s r)
  | _, _, .ins c h r => .ins c (s _ _ h) (IsF.mono s r)
  | _, _, .dct h r => .dct (s _ _ h) (IsK.mono s r)
theorem IsL.mono (s : Sub F F') : ∀ {vs : List V} {ps : List PV}, IsL K cl F vs ps → IsL K cl F' vs ps
  | _, _, .nil => .nil
  | _, _, .cons a r => .cons (Is.mono s a) (IsL.mono s r)
theorem IsF.mono (s : Sub F F') : ∀ {vs : List (Str × V)} {ps : List (Str × PV)}, IsF K cl F vs ps → IsF K cl F' vs ps
  | _, _, .nil => .nil
  | _, _, .cons a r => .cons (Is.mono s a) (IsF.mono s r)
theorem IsK.mono (s : Sub F F') : ∀ {vs : List (Key × V)} {ps : List (Key × PV)}, IsK K cl F vs ps → IsK K cl F' vs ps
  | _, _, .nil => .nil
  | _, _, .cons a r => .cons (Is.mono s a) (IsK.mono s r)
end
theorem IsL.len : ∀ {vs : List V} {ps : List PV}, IsL K cl F vs ps → vs.length = ps.length
  | _, _, .nil => rfl
  | _, _, .cons _ r => congrArg (· + 1) r.len
theorem IsL.get : ∀ {vs : List V} {ps : List PV} {i : Nat} {p : PV}, IsL K cl F vs ps → ps[i]? = some p → ∃ v, vs[i]? = some v ∧ Is K cl F v p
  | _, _, _, _, .nil, e => by simp at e
  | _, _, 0, _, .cons a _, e => by simp at e; subst e; exact ⟨_, rfl, a⟩
  | _, _, i + 1, _, .cons _ r, e => by
    obtain ⟨v, h, q⟩ := r.get (i := i) (by simpa using e)
    exact ⟨v, by simpa using h, q⟩
theorem IsL.get' : ∀ {vs : List V} {ps : List PV} {i : Nat} {v : V}, IsL K cl F vs ps → vs[i]? = some v → ∃ p, ps[i]? = some p ∧ Is K cl F v p
  | _, _, _, _, .nil, e => by simp at e
  | _, _, 0, _, .cons a _, e => by simp at e; subst e; exact ⟨_, rfl, a⟩
  | _, _, i + 1, _, .cons _ r, e => by
    obtain ⟨v, h, q⟩ := r.get' (i := i) (by simpa using e)
    exact ⟨v, by simpa using h, q⟩
theorem IsL.append : ∀ {vs ws : List V} {ps qs : List PV}, IsL K cl F vs ps → IsL K cl F ws qs → IsL K cl F (vs ++ ws) (ps ++ qs)
  | _, _, _, _, .nil, s => s
  | _, _, _, _, .cons a r, s => .cons a (r.append s)
theorem IsL.one {v : V} {p : PV} (h : Is K cl F v p) : IsL K cl F [v] [p] := .cons h .nil
theorem IsL.take : ∀ {vs : List V} {ps : List PV} (n : Nat), IsL K cl F vs ps → IsL K cl F (vs.take n) (ps.take n)
  | _, _, 0, _ => .nil
  | _, _, _ + 1, .nil => .nil
  | _, _, n + 1, .cons a r => .cons a (r.take n)
theorem IsL.drop : ∀ {vs : List V} {ps : List PV} (n : Nat), IsL K cl F vs ps → IsL K cl F (vs.drop n) (ps.drop n)
  | _, _, 0, r => r
  | _, _, _ + 1, .nil => .nil
  | _, _, n + 1, .cons _ r => r.drop n
theorem IsL.set {v : V} {p : PV} (h : Is K cl F v p) : ∀ {vs : List V} {ps : List PV} (n : Nat), IsL K cl F vs ps → IsL K cl F (vs.set n v) (ps.set n p)
  | _, _, _, .nil => .nil
  | _, _, 0, .cons _ r => .cons h r
  | _, _, n + 1, .cons a r => .cons a (IsL.set h n r)
theorem IsL.erase : ∀ {vs : List V} {ps : List PV} (n : Nat), IsL K cl F vs ps → IsL K cl F (vs.eraseIdx n) (ps.eraseIdx n)
  | _, _, _, .nil => .nil
  | _, _, 0, .cons _ r => r
  | _, _, n + 1, .cons a r => .cons a (IsL.erase n r)
theorem IsL.ints {vs : List V} : ∀ {ns : List Int}, IsL K cl F vs (ns.map PV.int) → vs = ns.map V.int := by
  intro ns
  induction ns generalizing vs with
  | nil => intro h; cases h; rfl
  | cons n ns ih =>
    intro h
    cases h with
    | cons a r =>
      cases a
      rw [ih r]
      rfl
theorem IsL.of_ints : ∀ ns : List Int, IsL K cl F (ns.map V.int) (ns.map PV.int)
  | [] => .nil
  | n :: ns => .cons (.int n) (IsL.of_ints ns)
theorem IsL.bls {vs : List V} : ∀ {ns : List Bool}, IsL K cl F vs (ns.map PV.bl) → vs = ns.map V.bl := by
  intro ns
  induction ns generalizing vs with
  | nil => intro h; cases h; rfl
  | cons n ns ih =>
    intro h
    cases h with
    | cons a r =>
      cases a
      rw [ih r]
      rfl
def valP (kvs : List (Key × PV)) (k : Key) : Option PV := (kvs.find? fun kv => decide (kv.1 = k)).map (·.2)
theorem IsK.val {k : Key} {p : PV} : ∀ {vs : List (Key × V)} {ps : List (Key × PV)}, IsK K cl F vs ps → valP ps k = some p → ∃ v, valV vs k = some v ∧ Is K cl F v p
  | _, _, .nil, e => by cases e
  | _, _, .cons (f := g) a r, e => by
    unfold valP at e
    unfold valV
    rw [List.find?_cons] at e ⊢
    by_cases h : g = k
    · rw [decide_eq_true h] at e ⊢
      cases e
      exact ⟨_, rfl, a⟩
    · rw [decide_eq_false h] at e ⊢
      exact r.val e
theorem IsK.noval {k : Key} : ∀ {vs : List (Key × V)} {ps : List (Key × PV)}, IsK K cl F vs ps → valP ps k = none → valV vs k = none
  | _, _, .nil, _ => rfl
  | _, _, .cons (f := g) a r, e => by
    unfold valP at e
    unfold valV
    rw [List.find?_cons] at e ⊢
    by_cases h : g = k
    · rw [decide_eq_true h] at e
      cases e
    · rw [decide_eq_false h] at e ⊢
      exact r.noval e
theorem IsK.len : ∀ {vs : List (Key × V)} {ps : List (Key × PV)}, IsK K cl F vs ps → vs.length = ps.length
  | _, _, .nil => rfl
  | _, _, .cons _ r => congrArg (· + 1) r.len
def putP (kvs : List (Key × PV)) (k : Key) (v : PV) : List (Key × PV) :=
  if (kvs.any fun kv => decide (kv.1 = k)) = true then kvs.map (fun kv => if kv.1 = k then (kv.1, v) else kv) else kvs ++ [(k, v)]
theorem IsK.any {k : Key} : ∀ {vs : List (Key × V)} {ps : List (Key × PV)}, IsK K cl F vs ps → (vs.any fun kv => decide (kv.1 = k)) = ps.any fun kv => decide (kv.1 = k)
  | _, _, .nil => rfl
  | _, _, .cons _ r => by rw [List.any_cons, List.any_cons, r.any]
theorem IsK.over {k : Key} {v : V} {p : PV} (h : Is K cl F v p) : ∀ {vs : List (Key × V)} {ps : List (Key × PV)}, IsK K cl F vs ps → IsK K cl F (vs.map fun kv => if kv.1 = k then (kv.1, v) else kv) (ps.map fun kv => if kv.1 = k then (kv.1, p) else kv)
  | _, _, .nil => .nil
  | _, _, .cons (f := g) a r => by
    rw [List.map_cons, List.map_cons]
    by_cases e : g = k
    · rw [if_pos e, if_pos e]
      exact .cons h (r.over h)
    · rw [if_neg e, if_neg e]
      exact .cons a (r.over h)
theorem IsK.append : ∀ {vs ws : List (Key × V)} {ps qs : List (Key × PV)}, IsK K cl F vs ps → IsK K cl F ws qs → IsK K cl F (vs ++ ws) (ps ++ qs)
  | _, _, _, _, .nil, s => s
  | _, _, _, _, .cons a r, s => .cons a (r.append s)
theorem IsK.put {k : Key} {v : V} {p : PV} (h : Is K cl F v p) {vs : List (Key × V)} {ps : List (Key × PV)} (r : IsK K cl F vs ps) : IsK K cl F (putK vs k v) (putP ps k p) := by
  unfold putK putP
  rw [r.any]
  split
  · exact r.over h
  · exact r.append (.cons h .nil)
end
inductive Res (α : Type) where
  | val (a : α) | exc (c : Str) | stuck
def Res.bind {α β : Type} : Res α → (α → Res β) → Res β
  | .val a, f => f a
  | .exc c, _ => .exc c
  | .stuck, _ => .stuck
instance : Monad Res where
  pure := .val
  bind := Res.bind
def wp {α : Type} (m : Res α) (Q : α → Prop) (E : Str → Prop) : Prop := match m with
  | .val a => Q a
  | .exc c => E c
  | .stuck => False
section
variable {α β : Type} {Q : α → Prop} {E : Str → Prop} {R : β → Prop}
theorem wp_val {a : α} : wp (.val a) Q E ↔ Q a := Iff.rfl
theorem wp_bind {m : Res β} {f : β → Res α} : wp (m >>= f) Q E ↔ wp m (fun b => wp (f b) Q E) E := by cases m <;> rfl
theorem wp_mono {m : Res α} {Q' : α → Prop} {E' : Str → Prop} (h : wp m Q E) (q : ∀ a, Q a → Q' a) (e : ∀ c, E c → E' c) : wp m Q' E' := by
  cases m with
  | val a => exact q a h
  | exc c => exact e c h
  | stuck => exact h
@[simp] theorem bind_val {a : β} {f : β → Res α} : (Res.val a >>= f) = f a := rfl
@[simp] theorem bind_exc {c : Str} {f : β → Res α} : (Res.exc c >>= f) = .exc c := rfl
@[simp] theorem bind_stuck {f : β → Res α} : ((Res.stuck : Res β) >>= f) = .stuck := rfl
@[simp] theorem pure_val {a : α} : (pure a : Res α) = .val a := rfl
end
inductive MO where
  | lst (xs : List PV) | dct (kvs : List (Key × PV)) | ob (C : Str) (fs : List (Str × PV))
inductive Slot where
  | un | fz (p : PV) | ow (m : MO) | rf (k : Nat) (m : MO)
abbrev Ro := List Slot
def frz (H : Hp) (A : List Addr) : Hp := fun a => if a ∈ A then none else H a
theorem frz_some {H : Hp} {A : List Addr} {a : Addr} {o : HO} : frz H A a = some o ↔ a ∉ A ∧ H a = some o := by
  unfold frz
  by_cases h : a ∈ A
  · rw [if_pos h]
    exact ⟨(fun z => nomatch z), fun z => absurd h z.1⟩
  · rw [if_neg h]
    exact ⟨fun z => ⟨h, z⟩, fun z => z.2⟩
theorem frz_sub {H : Hp} {A : List Addr} : Sub (frz H A) H := fun _ _ h => (frz_some.mp h).2
def Gr (A : List Addr) (H : Hp) (A' : List Addr) (H' : Hp) : Prop := (∀ x o, x ∉ A → H x = some o → H' x = some o) ∧ ∀ x, x ∈ A' → x ∈ A ∨ H x = none
theorem Gr.refl {A : List Addr} {H : Hp} : Gr A H A H := ⟨fun _ _ _ h => h, fun _ h => .inl h⟩
theorem Gr.trans {A B C : List Addr} {H H1 H2 : Hp} (a : Gr A H B H1) (b : Gr B H1 C H2) : Gr A H C H2 := by
  refine ⟨fun x o n h => ?_, fun x hx => ?_⟩
  · have h1 := a.1 x o n h
    refine b.1 x o (fun z => ?_) h1
    rcases a.2 x z with c | c
    · exact n c
    · rw [c] at h; cases h
  · rcases b.2 x hx with c | c
    · exact a.2 x c
    · cases e : H x with
      | none => exact .inr rfl
      | some o =>
        by_cases m : x ∈ A
        · exact .inl m
        · rw [a.1 x o m e] at c; cases c
theorem Gr.of {A : List Addr} {H H1 : Hp} (s : Sub H H1) : Gr A H A H1 := ⟨fun x o _ h => s x o h, fun _ h => .inl h⟩
theorem Gr.sub {O A A' : List Addr} {H H' : Hp} (g : Gr A H A' H') (hO : ∀ a, a ∈ O → ∃ o, H a = some o) : Sub (frz H (O ++ A)) (frz H' (O ++ A')) := fun x o h => by
  obtain ⟨n, h⟩ := frz_some.mp h
  rw [List.mem_append] at n
  refine frz_some.mpr ⟨fun z => ?_, g.1 x o (fun z => n (.inr z)) h⟩
  rcases List.mem_append.mp z with z | z
  · exact n (.inl z)
  · rcases g.2 x z with c | c
    · exact n (.inr c)
    · rw [c] at h; cases h
def adr : Ro → St → List Addr
  | .ow _ :: ρ, some (.ref a) :: σ => a :: adr ρ σ
  | .rf _ _ :: ρ, some (.ref a) :: σ => a :: adr ρ σ
  | _ :: ρ, _ :: σ => adr ρ σ
  | _, _ => []
def owa : Ro → St → List Addr
  | .ow _ :: ρ, some (.ref a) :: σ => a :: owa ρ σ
  | _ :: ρ, _ :: σ => owa ρ σ
  | _, _ => []
section
variable (K : PySem.W.Frag) (cl : Str → Option Addr)
def MoIs (F H : Hp) (a : Addr) : MO → Prop
  | .lst ps => ∃ vs, H a = some (.lst vs) ∧ IsL K cl F vs ps
  | .dct ps => ∃ vs, H a = some (.dK vs) ∧ IsK K cl F vs ps
  | .ob C fs => ∃ c dx vs, cl C = some c ∧ H a = some (.ins c dx vs) ∧ IsF K cl F vs fs
def SlotIs (bs : List Addr) (F H : Hp) : Slot → Option V → Prop
  | .un, _ => True
  | .fz p, x => ∃ v, x = some v ∧ Is K cl F v p
  | .ow m, x => ∃ a, x = some (.ref a) ∧ MoIs K cl F H a m
  | .rf k m, x => ∃ a, x = some (.ref a) ∧ bs[k]? = some a ∧ MoIs K cl F H a m
inductive RelS (bs : List Addr) (F H : Hp) : Ro → St → Prop
  | nil : RelS bs F H [] []
  | cons {s : Slot} {x : Option V} {ρ : Ro} {σ : St} : SlotIs K cl bs F H s x → RelS bs F H ρ σ → RelS bs F H (s :: ρ) (x :: σ)
structure Rel (O bs : List Addr) (ρ : Ro) (σ : St) (H : Hp) : Prop where
  sl : RelS K cl bs (frz H (O ++ adr ρ σ)) H ρ σ
  nd : (adr ρ σ).Nodup
  al : ∀ a, a ∈ O → ∃ o, H a = some o
  ow : ∀ a, a ∈ owa ρ σ → a ∉ O
end
section
variable {K : PySem.W.Frag} {cl : Str → Option Addr} {F F' H H' : Hp} {O bs : List Addr} {ρ : Ro} {σ : St}
theorem MoIs.mono {a : Addr} {m : MO} (h : MoIs K cl F H a m) (s : Sub F F') (e : ∀ o, H a = some o → H' a = some o) : MoIs K cl F' H' a m := by
  cases m with
  | lst ps => obtain ⟨vs, h, r⟩ := h; exact ⟨vs, e _ h, r.mono s⟩
  | dct ps => obtain ⟨vs, h, r⟩ := h; exact ⟨vs, e _ h, r.mono s⟩
  | ob C fs => obtain ⟨c, dx, vs, h0, h, r⟩ := h; exact ⟨c, dx, vs, h0, e _ h, r.mono s⟩
theorem MoIs.got {a : Addr} {m : MO} (h : MoIs K cl F H a m) : ∃ o, H a = some o := by
  cases m with
  | lst ps => obtain ⟨vs, h, r⟩ := h; exact ⟨_, h⟩
  | dct ps => obtain ⟨vs, h, r⟩ := h; exact ⟨_, h⟩
  | ob C fs => obtain ⟨c, dx, vs, h0, h, r⟩ := h; exact ⟨_, h⟩
theorem SlotIs.mono {s : Slot} {x : Option V} (h : SlotIs K cl bs F H s x) (q : Sub F F') (e : ∀ a o, (x = some (.ref a) ∧ s ≠ .un ∧ (∀ p, s ≠ .fz p)) → H a = some o → H' a = some o) : SlotIs K cl bs F' H' s x := by
  cases s with
  | un => trivial
  | fz p => obtain ⟨v, rfl, h⟩ := h; exact ⟨v, rfl, h.mono q⟩
  | ow m => obtain ⟨a, rfl, h⟩ := h; exact ⟨a, rfl, h.mono q fun o => e a o ⟨rfl, (fun z => nomatch z), fun _ z => nomatch z⟩⟩
  | rf k m => obtain ⟨a, rfl, b, h⟩ := h; exact ⟨a, rfl, b, h.mono q fun o => e a o ⟨rfl, (fun z => nomatch z), fun _ z => nomatch z⟩⟩
theorem RelS.mono (h : RelS K cl bs F H ρ σ) (q : Sub F F') (e : ∀ a o, a ∈ adr ρ σ → H a = some o → H' a = some o) : RelS K cl bs F' H' ρ σ := by
  induction h with
  | nil => exact .nil
  | @cons s x ρ σ a r ih =>
    refine .cons (a.mono q fun b o z h => e b o ?_ h) (ih fun b o z h => e b o ?_ h)
    · obtain ⟨rfl, n1, n2⟩ := z
      cases s with
      | un => exact absurd rfl n1
      | fz p => exact absurd rfl (n2 p)
      | ow m => exact List.mem_cons_self
      | rf k m => exact List.mem_cons_self
    · cases s with
      | un => exact z
      | fz p => exact z
      | ow m => obtain ⟨c, rfl, _⟩ := a; exact List.mem_cons_of_mem _ z
      | rf k m => obtain ⟨c, rfl, _⟩ := a; exact List.mem_cons_of_mem _ z
theorem RelS.len (h : RelS K cl bs F H ρ σ) : ρ.length = σ.length := by
  induction h with
  | nil => rfl
  | cons _ _ ih => exact congrArg (· + 1) ih
theorem RelS.get {i : Nat} {s : Slot} (h : RelS K cl bs F H ρ σ) (e : ρ[i]? = some s) : ∃ x, σ[i]? = some x ∧ SlotIs K cl bs F H s x := by
  induction h generalizing i with
  | nil => simp at e
  | cons a r ih =>
    cases i with
    | zero => simp at e; subst e; exact ⟨_, rfl, a⟩
    | succ i =>
      obtain ⟨x, h1, h2⟩ := ih (i := i) (by simpa using e)
      exact ⟨x, by simpa using h1, h2⟩
theorem RelS.adr_got (h : RelS K cl bs F H ρ σ) {a : Addr} (ha : a ∈ adr ρ σ) : ∃ o, H a = some o := by
  induction h with
  | nil => cases ha
  | @cons s x ρ σ a r ih =>
    cases s with
    | un => exact ih ha
    | fz p => exact ih ha
    | ow m =>
      obtain ⟨c, rfl, q⟩ := a
      rcases List.mem_cons.mp ha with e | e
      · rw [e]; exact q.got
      · exact ih e
    | rf k m =>
      obtain ⟨c, rfl, _, q⟩ := a
      rcases List.mem_cons.mp ha with e | e
      · rw [e]; exact q.got
      · exact ih e
theorem Rel.same (h : Rel K cl O bs ρ σ H) (s : Sub H H') : Rel K cl O bs ρ σ H' :=
  ⟨h.sl.mono ((Gr.of s).sub h.al) fun _ _ _ e => s _ _ e, h.nd, fun a ha => let ⟨o, e⟩ := h.al a ha; ⟨o, s _ _ e⟩, h.ow⟩
theorem Rel.sub (h : Rel K cl O bs ρ σ H) (s : Sub H H') : Sub (frz H (O ++ adr ρ σ)) (frz H' (O ++ adr ρ σ)) := (Gr.of s).sub h.al
theorem Rel.got (h : Rel K cl O bs ρ σ H) {a : Addr} (ha : a ∈ O ++ adr ρ σ) : ∃ o, H a = some o := by
  rcases List.mem_append.mp ha with c | c
  · exact h.al a c
  · exact h.sl.adr_got c
theorem sub_new {H : Hp} {p : Addr} (h : H p = none) (o : HO) : Sub H (upd H p o) := fun b u q => by rw [upd_ne (ne_of_none q h)]; exact q
end
def IsV (K : PySem.W.Frag) (cl : Str → Option Addr) (F H : Hp) (v : V) : PV → Prop
  | .lst ps => ∃ a vs, v = .ref a ∧ H a = some (.lst vs) ∧ IsL K cl F vs ps
  | .dct ps => ∃ a vs, v = .ref a ∧ H a = some (.dK vs) ∧ IsK K cl F vs ps
  | p => Is K cl F v p
section
variable (K : PySem.W.Frag) (cl : Str → Option Addr) (W : WX)
def XW (σ : St) (H : Hp) (c : Str) : Prop := ∀ C H', cl c = some C → Sub H H' → W (.ref C) none σ H'
def Pur (t : TE) (ρ : Ro) (m : Res PV) : Prop := ∀ (O bs : List Addr) (σ : St) (H : Hp) (Q : VK), Rel K cl O bs ρ σ H →
  wp m (fun r => ∀ v H', Sub H H' → Is K cl (frz H' (O ++ adr ρ σ)) v r → Q v H') (XW cl W σ H) → t σ H Q
def Vw (t : TE) (ρ : Ro) (m : Res PV) : Prop := ∀ (O bs : List Addr) (σ : St) (H : Hp) (Q : VK), Rel K cl O bs ρ σ H →
  wp m (fun r => ∀ v H', Sub H H' → IsV K cl (frz H' (O ++ adr ρ σ)) H' v r → Q v H') (XW cl W σ H) → t σ H Q
def PurL (t : TA) (ρ : Ro) (m : Res (List PV)) : Prop := ∀ (O bs : List Addr) (σ : St) (H : Hp) (Q : List V → Hp → Prop), Rel K cl O bs ρ σ H →
  wp m (fun r => ∀ vs H', Sub H H' → IsL K cl (frz H' (O ++ adr ρ σ)) vs r → Q vs H') (XW cl W σ H) → t σ H Q
def Tst (t : TT) (ρ : Ro) (m : Res Bool) : Prop := ∀ (O bs : List Addr) (σ : St) (H : Hp) (Q : Bool → Hp → Prop), Rel K cl O bs ρ σ H →
  wp m (fun r => ∀ H', Sub H H' → Q r H') (XW cl W σ H) → t σ H Q
def Op2 (r : R2) (f : PV → PV → Res PV) : Prop := ∀ (A : List Addr) (H : Hp) (x y : V) (p q : PV) (Q : VK) (E : Str → Prop), (∀ a, a ∈ A → ∃ o, H a = some o) → IsV K cl (frz H A) H x p → IsV K cl (frz H A) H y q →
  wp (f p q) (fun z => ∀ v H', Sub H H' → Is K cl (frz H' A) v z → Q v H') E → r x y H Q
def Op1 (r : V → Hp → VK → Prop) (f : PV → Res PV) : Prop := ∀ (A : List Addr) (H : Hp) (x : V) (p : PV) (Q : VK) (E : Str → Prop), (∀ a, a ∈ A → ∃ o, H a = some o) → IsV K cl (frz H A) H x p →
  wp (f p) (fun z => ∀ v H', Sub H H' → Is K cl (frz H' A) v z → Q v H') E → r x H Q
def Bi1 (r : List V → Hp → VK → Prop) (f : PV → Res PV) : Prop := Op1 K cl (fun x H Q => r [x] H Q) f
def Bi2 (r : List V → Hp → VK → Prop) (f : PV → PV → Res PV) : Prop := Op2 K cl (fun x y H Q => r [x, y] H Q) f
end
section
variable {K : PySem.W.Frag} {cl : Str → Option Addr} {W : WX} {ρ : Ro} {σ : St} {H H' F : Hp} {A : List Addr} {t ta tb tc : TE} {m ma mb : Res PV} {f : PV → PV → Res PV} {r : R2}
theorem Is.view {v : V} {p : PV} (h : Is K cl F v p) (s : Sub F H) : IsV K cl F H v p := by
  cases h with
  | tup h r => exact .tup h r
  | lst h r => exact ⟨_, _, rfl, s _ _ h, r⟩
  | fls h r => exact .fls h r
  | dct h r => exact ⟨_, _, rfl, s _ _ h, r⟩
  | non => exact .non
  | bl b => exact .bl b
  | int i => exact .int i
  | str x => exact .str x
  | ty n => exact .ty n
  | er a => exact .er a
  | ktp h c d r => exact .ktp h c d r
  | ins c h r => exact .ins c h r
theorem IsV.mono {F' : Hp} {v : V} {p : PV} (h : IsV K cl F H v p) (s : Sub F F') (s2 : Sub H H') : IsV K cl F' H' v p := by
  cases p with
  | tup ps => exact Is.mono s h
  | lst ps => obtain ⟨a, vs, e, h, r⟩ := h; exact ⟨a, vs, e, s2 _ _ h, r.mono s⟩
  | fls ps => exact Is.mono s h
  | dct ps => obtain ⟨a, vs, e, h, r⟩ := h; exact ⟨a, vs, e, s2 _ _ h, r.mono s⟩
  | non => exact Is.mono s h
  | bl b => exact Is.mono s h
  | int i => exact Is.mono s h
  | str x => exact Is.mono s h
  | ty n => exact Is.mono s h
  | er a => exact Is.mono s h
  | ktp ps => exact Is.mono s h
  | ins C fs => exact Is.mono s h
theorem new_frz (hA : ∀ a, a ∈ A → ∃ o, H a = some o) {p : Addr} (hp : H p = none) (o : HO) : frz (upd H p o) A p = some o := by
  refine frz_some.mpr ⟨fun z => ?_, upd_same⟩
  obtain ⟨u, e⟩ := hA _ z
  rw [hp] at e
  cases e
theorem frz_same (s : Sub H H') : Sub (frz H A) (frz H' A) := fun x o h => by
  obtain ⟨n, h⟩ := frz_some.mp h
  exact frz_some.mpr ⟨n, s _ _ h⟩
theorem new_lst (hA : ∀ a, a ∈ A → ∃ o, H a = some o) {p : Addr} (hp : H p = none) {vs : List V} {ps : List PV} (h : IsL K cl (frz H A) vs ps) : Is K cl (frz (upd H p (.lst vs)) A) (.ref p) (.lst ps) :=
  .lst (new_frz hA hp _) (h.mono (frz_same (sub_new hp _)))
theorem new_tup (hA : ∀ a, a ∈ A → ∃ o, H a = some o) {p : Addr} (hp : H p = none) {vs : List V} {ps : List PV} (h : IsL K cl (frz H A) vs ps) : Is K cl (frz (upd H p (.tup vs)) A) (.ref p) (.tup ps) :=
  .tup (.inl (.inl (new_frz hA hp _))) (h.mono (frz_same (sub_new hp _)))
theorem Pur.vw (h : Pur K cl W t ρ m) : Vw K cl W t ρ m := fun O bs σ H Q R q => h O bs σ H Q R (wp_mono q (fun r k v H' s i => k v H' s (i.view frz_sub)) fun _ z => z)
theorem XW.mono {c : Str} (h : XW cl W σ H c) (s : Sub H H') : XW cl W σ H' c := fun C H2 e s2 => h C H2 e (s.trans s2)
theorem pu_var {i : Nat} {p : PV} (h : ρ[i]? = some (.fz p)) : Pur K cl W (tVar i) ρ (.val p) := fun O bs σ H Q R q => by
  obtain ⟨x, e, v, rfl, hv⟩ := R.sl.get h
  exact ⟨v, e, q v H .refl hv⟩
theorem vw_own {i : Nat} {ps : List PV} (h : ρ[i]? = some (.ow (.lst ps))) : Vw K cl W (tVar i) ρ (.val (.lst ps)) := fun O bs σ H Q R q => by
  obtain ⟨x, e, a, rfl, vs, ha, hv⟩ := R.sl.get h
  exact ⟨_, e, q _ H .refl ⟨a, vs, rfl, ha, hv⟩⟩
theorem vw_rfd {i k : Nat} {ps : List (Key × PV)} (h : ρ[i]? = some (.rf k (.dct ps))) : Vw K cl W (tVar i) ρ (.val (.dct ps)) := fun O bs σ H Q R q => by
  obtain ⟨x, e, a, rfl, _, vs, ha, hv⟩ := R.sl.get h
  exact ⟨_, e, q _ H .refl ⟨a, vs, rfl, ha, hv⟩⟩
theorem pu_c {v : V} {p : PV} (h : ∀ F, Is K cl F v p) : Pur K cl W (tC v) ρ (.val p) := fun O bs σ H Q R q => q v H .refl (h _)
theorem pu_int {i : Int} : Pur K cl W (tC (.int i)) ρ (.val (.int i)) := pu_c fun _ => .int i
theorem pu_bl {i : Bool} : Pur K cl W (tC (.bl i)) ρ (.val (.bl i)) := pu_c fun _ => .bl i
theorem pu_str {i : Str} : Pur K cl W (tC (.str i)) ρ (.val (.str i)) := pu_c fun _ => .str i
theorem pu_non : Pur K cl W (tC .non) ρ (.val .non) := pu_c fun _ => .non
theorem pu_ty {n : String} : Pur K cl W (tC (.ty n)) ρ (.val (.ty n)) := pu_c fun _ => .ty n
theorem pu_op (ho : Op2 K cl r f) (ha : Vw K cl W ta ρ ma) (hb : Vw K cl W tb ρ mb) : Pur K cl W (tOp r ta tb) ρ (ma >>= fun x => mb >>= fun y => f x y) := fun O bs σ H Q R q => by
  refine ha O bs σ H _ R (wp_mono (wp_bind.mp q) (fun x qx v1 H1 s1 i1 => ?_) fun _ z => z)
  have R1 := R.same s1
  refine hb O bs σ H1 _ R1 (wp_mono (wp_bind.mp qx) (fun y qy v2 H2 s2 i2 => ?_) fun _ z => z.mono s1)
  have R2 := R1.same s2
  refine ho _ H2 v1 v2 x y _ _ (fun a h => R2.got h) (i1.mono (frz_same s2) s2) i2 (wp_mono qy (fun z qz v H' s iz => qz v H' ((s1.trans s2).trans s) iz) fun _ z => z)
theorem pu_un {r : V → Hp → VK → Prop} {f : PV → Res PV} (ho : Op1 K cl r f) (ha : Vw K cl W ta ρ ma) : Pur K cl W (tUn r ta) ρ (ma >>= f) := fun O bs σ H Q R q => by
  refine ha O bs σ H _ R (wp_mono (wp_bind.mp q) (fun x qx v1 H1 s1 i1 => ?_) fun _ z => z)
  exact ho _ H1 v1 x _ _ (fun a h => (R.same s1).got h) i1 (wp_mono qx (fun z qz v H' s iz => qz v H' (s1.trans s) iz) fun _ z => z)
def asB : PV → Res Bool
  | .bl b => .val b
  | _ => .stuck
theorem isV_bl {v : V} {b : Bool} (h : IsV K cl F H v (.bl b)) : v = .bl b := by cases h; rfl
theorem isV_int {v : V} {b : Int} (h : IsV K cl F H v (.int b)) : v = .int b := by cases h; rfl
theorem wp_asB {p : PV} {Q : Bool → Prop} {E : Str → Prop} (h : wp (asB p) Q E) : ∃ b, p = .bl b ∧ Q b := by
  cases p with
  | bl b => exact ⟨b, rfl, h⟩
  | _ => exact h.elim
theorem ts_val (ha : Vw K cl W ta ρ ma) : Tst K cl W (tB ta) ρ (ma >>= asB) := fun O bs σ H Q R q => by
  refine ha O bs σ H _ R (wp_mono (wp_bind.mp q) (fun x qx v1 H1 s1 i1 => ?_) fun _ z => z)
  obtain ⟨b, rfl, qb⟩ := wp_asB qx
  exact ⟨b, isV_bl i1, qb H1 s1⟩
theorem ts_cmp (ha : Vw K cl W t ρ ma) : Tst K cl W (tTest t) ρ (ma >>= asB) := fun O bs σ H Q R q => by
  refine ha O bs σ H _ R (wp_mono (wp_bind.mp q) (fun x qx v1 H1 s1 i1 => ?_) fun _ z => z)
  obtain ⟨b, rfl, qb⟩ := wp_asB qx
  exact ⟨b, isV_bl i1, qb H1 s1⟩
variable {u w : TT} {mu mw : Res Bool}
theorem ts_and (hu : Tst K cl W u ρ mu) (hw : Tst K cl W w ρ mw) : Tst K cl W (tAnd u w) ρ (mu >>= fun b => if b = true then mw else .val false) := fun O bs σ H Q R q => by
  refine hu O bs σ H _ R (wp_mono (wp_bind.mp q) (fun b qb H1 s1 => ?_) fun _ z => z)
  cases b with
  | true => exact hw O bs σ H1 _ (R.same s1) (wp_mono qb (fun c qc H2 s2 => qc H2 (s1.trans s2)) fun _ z => z.mono s1)
  | false => exact qb H1 s1
theorem ts_or (hu : Tst K cl W u ρ mu) (hw : Tst K cl W w ρ mw) : Tst K cl W (tOr u w) ρ (mu >>= fun b => if b = true then .val true else mw) := fun O bs σ H Q R q => by
  refine hu O bs σ H _ R (wp_mono (wp_bind.mp q) (fun b qb H1 s1 => ?_) fun _ z => z)
  cases b with
  | false => exact hw O bs σ H1 _ (R.same s1) (wp_mono qb (fun c qc H2 s2 => qc H2 (s1.trans s2)) fun _ z => z.mono s1)
  | true => exact qb H1 s1
theorem ts_not (hu : Tst K cl W u ρ mu) : Tst K cl W (tNot u) ρ (mu >>= fun b => .val (!b)) := fun O bs σ H Q R q => by
  refine hu O bs σ H _ R (wp_mono (wp_bind.mp q) (fun b qb H1 s1 => qb H1 s1) fun _ z => z)
theorem pu_andV (ha : Vw K cl W ta ρ ma) (hb : Pur K cl W tb ρ mb) : Pur K cl W (tAndV ta tb) ρ (ma >>= asB >>= fun b => if b = true then mb else .val (.bl false)) := fun O bs σ H Q R q => by
  rw [wp_bind, wp_bind] at q
  refine ha O bs σ H _ R (wp_mono q (fun x qx v1 H1 s1 i1 => ?_) fun _ z => z)
  obtain ⟨b, rfl, qb⟩ := wp_asB qx
  refine ⟨b, isV_bl i1, ?_⟩
  cases b with
  | true => exact hb O bs σ H1 _ (R.same s1) (wp_mono qb (fun c qc v H2 s2 i => qc v H2 (s1.trans s2) i) fun _ z => z.mono s1)
  | false => exact qb _ H1 s1 (.bl false)
theorem pu_notV (ha : Vw K cl W ta ρ ma) : Pur K cl W (tNotV ta) ρ (ma >>= asB >>= fun b => .val (.bl (!b))) := fun O bs σ H Q R q => by
  rw [wp_bind, wp_bind] at q
  refine ha O bs σ H _ R (wp_mono q (fun x qx v1 H1 s1 i1 => ?_) fun _ z => z)
  obtain ⟨b, rfl, qb⟩ := wp_asB qx
  exact ⟨b, isV_bl i1, qb _ H1 s1 (.bl _)⟩
theorem pu_if (hu : Tst K cl W u ρ mu) (ha : Pur K cl W ta ρ ma) (hb : Pur K cl W tb ρ mb) : Pur K cl W (tIf u ta tb) ρ (mu >>= fun b => if b = true then ma else mb) := fun O bs σ H Q R q => by
  refine hu O bs σ H _ R (wp_mono (wp_bind.mp q) (fun b qb H1 s1 => ?_) fun _ z => z)
  cases b with
  | true => exact ha O bs σ H1 _ (R.same s1) (wp_mono qb (fun c qc v H2 s2 i => qc v H2 (s1.trans s2) i) fun _ z => z.mono s1)
  | false => exact hb O bs σ H1 _ (R.same s1) (wp_mono qb (fun c qc v H2 s2 i => qc v H2 (s1.trans s2) i) fun _ z => z.mono s1)
theorem pu_chain {r' : R2} {f' : PV → PV → Res PV} {mc : Res PV} (ho : Op2 K cl r f) (ho' : Op2 K cl r' f') (ha : Vw K cl W ta ρ ma) (hb : Vw K cl W tb ρ mb) (hc : Vw K cl W tc ρ mc) :
    Pur K cl W (tChain r r' ta tb tc) ρ (ma >>= fun x => mb >>= fun y => f x y >>= asB >>= fun b => if b = true then mc >>= fun z => f' y z else .val (.bl false)) := fun O bs σ H Q R q => by
  refine ha O bs σ H _ R (wp_mono (wp_bind.mp q) (fun x qx v1 H1 s1 i1 => ?_) fun _ z => z)
  have R1 := R.same s1
  refine hb O bs σ H1 _ R1 (wp_mono (wp_bind.mp qx) (fun y qy v2 H2 s2 i2 => ?_) fun _ z => z.mono s1)
  have R2 := R1.same s2
  rw [wp_bind, wp_bind] at qy
  refine ho _ H2 v1 v2 x y _ _ (fun a h => R2.got h) (i1.mono (frz_same s2) s2) i2 (wp_mono qy (fun z qz v3 H3 s3 i3 => ?_) fun _ z => z)
  obtain ⟨b, rfl, qb⟩ := wp_asB qz
  refine ⟨b, by cases i3; rfl, ?_⟩
  have s13 := (s1.trans s2).trans s3
  cases b with
  | false => exact qb _ H3 s13 (.bl false)
  | true =>
    have R3 := R2.same s3
    refine hc O bs σ H3 _ R3 (wp_mono (wp_bind.mp qb) (fun z qz v4 H4 s4 i4 => ?_) fun _ z => z.mono s13)
    exact ho' _ H4 v2 v4 y z _ _ (fun a h => (R3.same s4).got h) (i2.mono (frz_same (s3.trans s4)) (s3.trans s4)) i4 (wp_mono qz (fun z qz v H' s iz => qz v H' ((s13.trans s4).trans s) iz) fun _ z => z)
variable {tr : TA} {ml : Res (List PV)}
theorem pl_nil : PurL K cl W tNil ρ (.val []) := fun O bs σ H Q R q => q [] H .refl .nil
theorem pl_cons (ha : Pur K cl W ta ρ ma) (hl : PurL K cl W tr ρ ml) : PurL K cl W (tCons ta tr) ρ (ma >>= fun x => ml >>= fun xs => .val (x :: xs)) := fun O bs σ H Q R q => by
  refine ha O bs σ H _ R (wp_mono (wp_bind.mp q) (fun x qx v1 H1 s1 i1 => ?_) fun _ z => z)
  refine hl O bs σ H1 _ (R.same s1) (wp_mono (wp_bind.mp qx) (fun xs qs vs H2 s2 i2 => ?_) fun _ z => z.mono s1)
  exact qs _ H2 (s1.trans s2) (.cons (i1.mono (frz_same s2)) i2)
def asSq : PV → Res (List PV)
  | .tup ps => .val ps
  | .lst ps => .val ps
  | .fls ps => .val ps
  | _ => .stuck
theorem wp_asSq {p : PV} {v : V} {Q : List PV → Prop} {E : Str → Prop} (h : wp (asSq p) Q E) (i : IsV K cl F H v p) (s : Sub F H := by exact frz_sub) : ∃ a vs ps, v = .ref a ∧ (SqT K H a vs ∨ SqL K H a vs) ∧ IsL K cl F vs ps ∧ Q ps := by
  cases p with
  | tup ps => cases i with | tup h1 r => exact ⟨_, _, ps, rfl, .inl (s.sqT h1), r, h⟩
  | lst ps => obtain ⟨a, vs, e, h1, r⟩ := i; exact ⟨a, vs, ps, e, .inr (.inl (.inl h1)), r, h⟩
  | fls ps => cases i with | fls h1 r => exact ⟨_, _, ps, rfl, .inr (s.sqL h1), r, h⟩
  | _ => exact h.elim
def sized (n : Nat) : Res Unit := if n ≤ sizeLine then .val () else .stuck
theorem wp_sized {n : Nat} {Q : Unit → Prop} {E : Str → Prop} (h : wp (sized n) Q E) : n ≤ sizeLine ∧ Q () := by
  unfold sized at h
  by_cases c : n ≤ sizeLine
  · rw [if_pos c] at h; exact ⟨c, h⟩
  · rw [if_neg c] at h; exact h.elim
def mkT (ps : List PV) : Res PV := sized ps.length >>= fun _ => .val (.tup ps)
def mkL (ps : List PV) : Res PV := sized ps.length >>= fun _ => .val (.lst ps)
theorem pu_tup (hl : PurL K cl W tr ρ ml) : Pur K cl W (tTup tr) ρ (ml >>= mkT) := fun O bs σ H Q R q => by
  refine hl O bs σ H _ R (wp_mono (wp_bind.mp q) (fun ps qs vs H1 s1 i1 => ?_) fun _ z => z)
  obtain ⟨z, qs⟩ := wp_sized (wp_bind.mp qs)
  refine ⟨by rw [i1.len]; exact z, fun p hp => qs _ _ (s1.trans (sub_new hp _)) (new_tup (fun a h => (R.same s1).got h) hp i1)⟩
theorem pu_lst (hl : PurL K cl W tr ρ ml) : Pur K cl W (tLst tr) ρ (ml >>= mkL) := fun O bs σ H Q R q => by
  refine hl O bs σ H _ R (wp_mono (wp_bind.mp q) (fun ps qs vs H1 s1 i1 => ?_) fun _ z => z)
  obtain ⟨z, qs⟩ := wp_sized (wp_bind.mp qs)
  refine ⟨by rw [i1.len]; exact z, fun p hp => qs _ _ (s1.trans (sub_new hp _)) (new_lst (fun a h => (R.same s1).got h) hp i1)⟩
theorem pu_cb1 {r : List V → Hp → VK → Prop} {f : PV → Res PV} (ho : Bi1 K cl r f) (ha : Vw K cl W ta ρ ma) : Pur K cl W (tCB r (tCons ta tNil)) ρ (ma >>= f) := fun O bs σ H Q R q => by
  refine ha O bs σ H _ R (wp_mono (wp_bind.mp q) (fun x qx v1 H1 s1 i1 => ?_) fun _ z => z)
  exact ho _ H1 v1 x _ _ (fun a h => (R.same s1).got h) i1 (wp_mono qx (fun z qz v H' s iz => qz v H' (s1.trans s) iz) fun _ z => z)
theorem pu_cb2 {r : List V → Hp → VK → Prop} (ho : Bi2 K cl r f) (ha : Vw K cl W ta ρ ma) (hb : Vw K cl W tb ρ mb) : Pur K cl W (tCB r (tCons ta (tCons tb tNil))) ρ (ma >>= fun x => mb >>= fun y => f x y) :=
  pu_op (r := fun x y H Q => r [x, y] H Q) ho ha hb
end
section
variable {X : Cx} {f : Value → Value → Sem Value} {r1 r2 : R2}
def rOr (r1 r2 : R2) : R2 := fun x y H Q => r1 x y H Q ∨ r2 x y H Q
theorem OpR.or (h1 : OpR X f r1) (h2 : OpR X f r2) : OpR X f (rOr r1 r2) := fun pins s σ H x y v u Q I rx ry h => h.elim (h1 pins s σ H x y v u Q I rx ry) (h2 pins s σ H x y v u Q I rx ry)
theorem IxR.or (h1 : IxR X r1) (h2 : IxR X r2) : IxR X (rOr r1 r2) := fun va sl pins s σ H x y v u Q I rx ry h hs => h.elim (fun h => h1 va sl pins s σ H x y v u Q I rx ry h hs) (fun h => h2 va sl pins s σ H x y v u Q I rx ry h hs)
def cOr (r1 r2 : List V → Hp → VK → Prop) : List V → Hp → VK → Prop := fun xs H Q => r1 xs H Q ∨ r2 xs H Q
theorem CallR.or {f : Value} {r1 r2 : List V → Hp → VK → Prop} (h1 : CallR X f r1) (h2 : CallR X f r2) : CallR X f (cOr r1 r2) := fun pins s σ H xs us Q I r h => h.elim (h1 pins s σ H xs us Q I r) (h2 pins s σ H xs us Q I r)
def sOr (r1 r2 : V → Option Int → Option Int → Hp → VK → Prop) : V → Option Int → Option Int → Hp → VK → Prop := fun x l h H Q => r1 x l h H Q ∨ r2 x l h H Q
theorem SlR.or {r1 r2 : V → Option Int → Option Int → Hp → VK → Prop} (h1 : SlR X r1) (h2 : SlR X r2) : SlR X (sOr r1 r2) := fun pins s σ H x v vl vu lo hi sl Q I rx hs pl pu h => h.elim (h1 pins s σ H x v vl vu lo hi sl Q I rx hs pl pu) (h2 pins s σ H x v vl vu lo hi sl Q I rx hs pl pu)
end
section
variable {K : PySem.W.Frag} {cl : Str → Option Addr} {F H : Hp} {r r1 r2 : R2} {f g : PV → PV → Res PV}
def ints2 (g : Int → Int → Res PV) : PV → PV → Res PV
  | .int i, .int j => g i j
  | _, _ => .stuck
theorem o2_ints {g : Int → Int → Res PV} {r : R2} (h : ∀ (A : List Addr) (H : Hp) (i j : Int) (Q : VK) (E : Str → Prop), wp (g i j) (fun z => ∀ v H', Sub H H' → Is K cl (frz H' A) v z → Q v H') E → r (.int i) (.int j) H Q) : Op2 K cl r (ints2 g) := fun A H x y p q Q E hA ix iy w => by
  unfold ints2 at w
  split at w
  · cases isV_int ix
    cases isV_int iy
    exact h A H _ _ Q E w
  · exact w.elim
theorem o2_i0 {g : Int → Int → V} {k : Int → Int → PV} (h : ∀ i j F, Is K cl F (g i j) (k i j)) : Op2 K cl (rI0 g) (ints2 fun i j => .val (k i j)) := o2_ints fun A H i j Q E w => ⟨i, j, rfl, rfl, w _ H .refl (h i j _)⟩
theorem o2_i {C : Int → Int → Prop} [∀ i j, Decidable (C i j)] {g : Int → Int → V} {k : Int → Int → PV} (h : ∀ i j F, Is K cl F (g i j) (k i j)) : Op2 K cl (rI C g) (ints2 fun i j => if C i j then .val (k i j) else .stuck) := o2_ints fun A H i j Q E w => by
  by_cases c : C i j
  · rw [if_pos c] at w
    exact ⟨i, j, rfl, rfl, c, w _ H .refl (h i j _)⟩
  · rw [if_neg c] at w
    exact w.elim
def orS (f g : PV → PV → Res PV) : PV → PV → Res PV := fun x y => match f x y with
  | .stuck => g x y
  | z => z
theorem o2_or (h1 : Op2 K cl r1 f) (h2 : Op2 K cl r2 g) : Op2 K cl (rOr r1 r2) (orS f g) := fun A H x y p q Q E hA ix iy w => by
  unfold orS at w
  split at w
  · exact .inr (h2 A H x y p q Q E hA ix iy w)
  · exact .inl (h1 A H x y p q Q E hA ix iy w)
instance (i j : Int) : Decidable (CMul i j) := by unfold CMul; infer_instance
instance (i j : Int) : Decidable (CMulW i j) := by unfold CMulW; infer_instance
instance (i j : Int) : Decidable (CDivN i j) := by unfold CDivN; infer_instance
instance (i j : Int) : Decidable (CDivW i j) := by unfold CDivW; infer_instance
instance (i j : Int) : Decidable (CPow i j) := by unfold CPow; infer_instance
def catS : PV → PV → Res PV
  | .str i, .str j => if i.length + j.length ≤ sizeLine then .val (.str (i ++ j)) else .stuck
  | _, _ => .stuck
def catL : PV → PV → Res PV
  | .lst i, .lst j => if i.length + j.length ≤ sizeLine then .val (.lst (i ++ j)) else .stuck
  | _, _ => .stuck
def catT : PV → PV → Res PV
  | .tup i, .tup j => if i.length + j.length ≤ sizeLine then .val (.tup (i ++ j)) else .stuck
  | _, _ => .stuck
theorem isV_str {v : V} {b : Str} (h : IsV K cl F H v (.str b)) : v = .str b := by cases h; rfl
theorem o2_catS : Op2 K cl (fun x y H Q => ∃ i j, x = .str i ∧ y = .str j ∧ i.length + j.length ≤ sizeLine ∧ Q (.str (i ++ j)) H) catS := fun A H x y p q Q E hA ix iy w => by
  unfold catS at w
  split at w
  · cases isV_str ix
    cases isV_str iy
    split at w
    · next c => exact ⟨_, _, rfl, rfl, c, w _ H .refl (.str _)⟩
    · exact w.elim
  · exact w.elim
theorem o2_catL : Op2 K cl rCat catL := fun A H x y p q Q E hA ix iy w => by
  unfold catL at w
  split at w
  · obtain ⟨a, vs, rfl, ha, la⟩ := ix
    obtain ⟨b, ws, rfl, hb, lb⟩ := iy
    split at w
    · next c =>
      rw [← la.len, ← lb.len] at c
      exact ⟨a, b, vs, ws, rfl, rfl, ha, hb, c, fun p hp => w _ _ (sub_new hp _) (new_lst hA hp (la.append lb))⟩
    · exact w.elim
  · exact w.elim
theorem o2_catT : Op2 K cl (rCatA K) catT := fun A H x y p q Q E hA ix iy w => by
  unfold catT at w
  split at w
  · cases ix with
    | tup h1 l1 =>
    cases iy with
    | tup h2 l2 =>
    split at w
    · next c =>
      rw [← l1.len, ← l2.len] at c
      refine ⟨_, _, _, _, rfl, rfl, frz_sub.sqT h1, frz_sub.sqT h2, c, fun e => ?_, fun _ e => ?_, fun _ _ p hp => w _ _ (sub_new hp _) (new_tup hA hp (l1.append l2))⟩
      · refine w _ H .refl (.tup h2 ?_)
        subst e
        cases l1
        exact l2
      · refine w _ H .refl (.tup h1 ?_)
        subst e
        cases l2
        rw [List.append_nil]
        exact l1
    · exact w.elim
  · exact w.elim
def addP : PV → PV → Res PV := orS (ints2 fun i j => .val (.int (i + j))) (orS catS (orS catL catT))
def rAddV (K : PySem.W.Frag) : R2 := rOr (rI0 fun i j => .int (i + j)) (rOr (fun x y H Q => ∃ i j, x = .str i ∧ y = .str j ∧ i.length + j.length ≤ sizeLine ∧ Q (.str (i ++ j)) H) (rOr rCat (rCatA K)))
theorem o2_add : Op2 K cl (rAddV K) addP := o2_or (o2_i0 fun _ _ _ => .int _) (o2_or o2_catS (o2_or o2_catL o2_catT))
theorem op_addV (K : PySem.W.Frag) {X : Cx} (e : X.K = K) : OpR X (binaryOp .Add) (rAddV K) := by
  subst e
  exact op_add.or (op_add_str.or (op_cat.or op_catA))
def subP : PV → PV → Res PV := ints2 fun i j => .val (.int (i - j))
theorem o2_sub : Op2 K cl (rI0 fun i j => .int (i - j)) subP := o2_i0 fun _ _ _ => .int _
def repL : PV → PV → Res PV
  | .lst xs, .int k => if -(2 ^ 63) ≤ k ∧ k < 2 ^ 63 ∧ xs.length * k.toNat ≤ sizeLine then .val (.lst (List.replicate k.toNat xs).flatten) else .stuck
  | _, _ => .stuck
theorem IsL.reps {vs : List V} {ps : List PV} (h : IsL K cl F vs ps) : ∀ n : Nat, IsL K cl F (List.replicate n vs).flatten (List.replicate n ps).flatten
  | 0 => .nil
  | n + 1 => by
    rw [List.replicate_succ, List.replicate_succ, List.flatten_cons, List.flatten_cons]
    exact h.append (h.reps n)
theorem o2_repL : Op2 K cl rRep repL := fun A H x y p q Q E hA ix iy w => by
  unfold repL at w
  split at w
  · obtain ⟨a, vs, rfl, ha, la⟩ := ix
    cases isV_int iy
    split at w
    · next c =>
      rw [← la.len] at c
      exact ⟨a, _, vs, rfl, rfl, ha, c.1, c.2.1, c.2.2, fun p hp => w _ _ (sub_new hp _) (new_lst hA hp (la.reps _))⟩
    · exact w.elim
  · exact w.elim
def mulI : PV → PV → Res PV := orS (ints2 fun i j => if CMul i j then .val (.int (i * j)) else .stuck) (ints2 fun i j => if CMulW i j then .val (.int (i * j)) else .stuck)
def mulP : PV → PV → Res PV := orS mulI repL
def rMulV : R2 := rOr (rOr (rI CMul fun i j => .int (i * j)) (rI CMulW fun i j => .int (i * j))) rRep
theorem o2_mul : Op2 K cl rMulV mulP := o2_or (o2_or (o2_i fun _ _ _ => .int _) (o2_i fun _ _ _ => .int _)) o2_repL
theorem op_mulV {X : Cx} : OpR X (binaryOp .Mult) rMulV := (op_mul.or op_mulW).or op_rep
def fdivP : PV → PV → Res PV := orS (ints2 fun i j => if CDivN i j then .val (.int (i.fdiv j)) else .stuck) (ints2 fun i j => if CDivW i j then .val (.int (i / j)) else .stuck)
def rFdivV : R2 := rOr (rI CDivN fun i j => .int (i.fdiv j)) (rI CDivW fun i j => .int (i / j))
theorem o2_fdiv : Op2 K cl rFdivV fdivP := o2_or (o2_i fun _ _ _ => .int _) (o2_i fun _ _ _ => .int _)
theorem op_fdivV {X : Cx} : OpR X (binaryOp .FloorDiv) rFdivV := op_fdivN.or op_fdivW
def modP : PV → PV → Res PV := ints2 fun i j => if j ≠ 0 then .val (.int (i.fmod j)) else .stuck
theorem o2_mod : Op2 K cl (rI (fun _ j => j ≠ 0) fun i j => .int (i.fmod j)) modP := o2_i (C := fun _ j => j ≠ 0) fun _ _ _ => .int _
def powP : PV → PV → Res PV := ints2 fun i j => if CPow i j then .val (.int (i ^ j.toNat)) else .stuck
theorem o2_pow : Op2 K cl (rI CPow fun i j => .int (i ^ j.toNat)) powP := o2_i fun _ _ _ => .int _
def negP : PV → Res PV
  | .int i => .val (.int (-i))
  | _ => .stuck
theorem o1_neg : Op1 K cl (rU fun i => .int (-i)) negP := fun A H x p Q E hA ix w => by
  unfold negP at w
  split at w
  · cases isV_int ix
    exact ⟨_, rfl, w _ H .refl (.int _)⟩
  · exact w.elim
def ltP : PV → PV → Res PV := ints2 fun i j => .val (.bl (decide (i < j)))
def leP : PV → PV → Res PV := ints2 fun i j => .val (.bl (decide (i ≤ j)))
def gtP : PV → PV → Res PV := ints2 fun i j => .val (.bl (decide (j < i)))
def geP : PV → PV → Res PV := ints2 fun i j => .val (.bl (decide (j ≤ i)))
theorem o2_lt : Op2 K cl (rI0 fun i j => .bl (decide (i < j))) ltP := o2_i0 fun _ _ _ => .bl _
theorem o2_le : Op2 K cl (rI0 fun i j => .bl (decide (i ≤ j))) leP := o2_i0 fun _ _ _ => .bl _
theorem o2_gt : Op2 K cl (rI0 fun i j => .bl (decide (j < i))) gtP := o2_i0 fun _ _ _ => .bl _
mutual
def toD : PV → Option PyData
  | .non => some .none
  | .bl b => some (.bool b)
  | .int i => some (.int i)
  | .str x => some (.str x)
  | .lst xs => (toDs xs).map .list
  | .tup xs => (toDs xs).map .tuple
  | .fls xs => (toDs xs).map .list
  | .ins _ _ => none
  | .dct _ => none
  | .ty _ => none
  | .er _ => none
  | .ktp _ => none
def toDs : List PV → Option (List PyData)
  | [] => some []
  | x :: xs => (toD x).bind fun d => (toDs xs).map fun ds => d :: ds
end
mutual
theorem Is.dp : ∀ {v : V} {p : PV} {d : PyData}, Is K cl F v p → toD p = some d → Dp K F v d
  | _, _, _, .non, e => by cases e; exact .non
  | _, _, _, .bl b, e => by cases e; exact .bl b
  | _, _, _, .int b, e => by cases e; exact .int b
  | _, _, _, .str b, e => by cases e; exact .str b
  | _, _, _, .ty n, e => by cases e
  | _, _, _, .er n, e => by cases e
  | _, _, _, .ktp _ _ _ _, e => by cases e
  | _, _, _, .ins _ _ _, e => by cases e
  | _, _, _, .dct _ _, e => by cases e
  | _, _, _, .tup h r, e => by
    unfold toD at e
    obtain ⟨ds, e1, rfl⟩ := Option.map_eq_some_iff.mp e
    exact .tup h (IsL.dp r e1)
  | _, _, _, .lst h r, e => by
    unfold toD at e
    obtain ⟨ds, e1, rfl⟩ := Option.map_eq_some_iff.mp e
    exact .lst (.inl (.inl h)) (IsL.dp r e1)
  | _, _, _, .fls h r, e => by
    unfold toD at e
    obtain ⟨ds, e1, rfl⟩ := Option.map_eq_some_iff.mp e
    exact .lst h (IsL.dp r e1)
theorem IsL.dp : ∀ {vs : List V} {ps : List PV} {ds : List PyData}, IsL K cl F vs ps → toDs ps = some ds → DpAll K F vs ds
  | _, _, _, .nil, e => by cases e; exact .nil
  | _, _, _, .cons a r, e => by
    unfold toDs at e
    obtain ⟨d, e1, e2⟩ := Option.bind_eq_some_iff.mp e
    obtain ⟨ds, e3, rfl⟩ := Option.map_eq_some_iff.mp e2
    exact .cons (Is.dp a e1) (IsL.dp r e3)
end
mutual
theorem dp_sub {F F' : Hp} (s : Sub F F') : ∀ {v : V} {d : PyData}, Dp K F v d → Dp K F' v d
  | _, _, .non => .non
  | _, _, .bl b => .bl b
  | _, _, .int b => .int b
  | _, _, .str b => .str b
  | _, _, .lst h r => .lst (s.sqL h) (dpall_sub s r)
  | _, _, .tup h r => .tup (s.sqT h) (dpall_sub s r)
theorem dpall_sub {F F' : Hp} (s : Sub F F') : ∀ {v : List V} {d : List PyData}, DpAll K F v d → DpAll K F' v d
  | _, _, .nil => .nil
  | _, _, .cons a r => .cons (dp_sub s a) (dpall_sub s r)
end
theorem IsV.dp {v : V} {p : PV} {d : PyData} (h : IsV K cl F H v p) (s : Sub F H) (e : toD p = some d) : Dp K H v d := by
  cases p with
  | lst ps =>
    obtain ⟨a, vs, rfl, h, r⟩ := h
    unfold toD at e
    obtain ⟨ds, e1, rfl⟩ := Option.map_eq_some_iff.mp e
    exact .lst (.inl (.inl h)) (dpall_sub s (r.dp e1))
  | dct ps => cases e
  | tup ps => exact dp_sub s (Is.dp (K := K) (cl := cl) (F := F) h e)
  | fls ps => exact dp_sub s (Is.dp (K := K) (cl := cl) (F := F) h e)
  | non => exact dp_sub s (Is.dp (K := K) (cl := cl) (F := F) h e)
  | bl b => exact dp_sub s (Is.dp (K := K) (cl := cl) (F := F) h e)
  | int i => exact dp_sub s (Is.dp (K := K) (cl := cl) (F := F) h e)
  | str x => exact dp_sub s (Is.dp (K := K) (cl := cl) (F := F) h e)
  | ty n => exact dp_sub s (Is.dp (K := K) (cl := cl) (F := F) h e)
  | er n => exact dp_sub s (Is.dp (K := K) (cl := cl) (F := F) h e)
  | ktp n => exact dp_sub s (Is.dp (K := K) (cl := cl) (F := F) h e)
  | ins C fs => exact dp_sub s (Is.dp (K := K) (cl := cl) (F := F) h e)
def eqB (p q : PV) : Option Bool := (toD p).bind fun d => (toD q).bind fun e => if SeqAt.shaped d = true ∧ SeqAt.shaped e = true then some (PyData.eqv d e) else none
def eqP (p q : PV) : Res PV := match eqB p q with
  | some b => .val (.bl b)
  | none => .stuck
def neP (p q : PV) : Res PV := match eqB p q with
  | some b => .val (.bl (!b))
  | none => .stuck
theorem eqB_some {p q : PV} {b : Bool} (h : eqB p q = some b) : ∃ d e, toD p = some d ∧ toD q = some e ∧ SeqAt.shaped d = true ∧ SeqAt.shaped e = true ∧ b = PyData.eqv d e := by
  unfold eqB at h
  obtain ⟨d, e1, h⟩ := Option.bind_eq_some_iff.mp h
  obtain ⟨e, e2, h⟩ := Option.bind_eq_some_iff.mp h
  split at h
  · next c => exact ⟨d, e, e1, e2, c.1, c.2, (Option.some.inj h).symm⟩
  · cases h
theorem o2_eq : Op2 K cl (rEqD K) eqP := fun A H x y p q Q E hA ix iy w => by
  unfold eqP at w
  split at w
  · next b h =>
    obtain ⟨d, e, e1, e2, s1, s2, rfl⟩ := eqB_some h
    exact ⟨d, e, ix.dp frz_sub e1, iy.dp frz_sub e2, s1, s2, w _ H .refl (.bl _)⟩
  · exact w.elim
theorem o2_ne : Op2 K cl (rNeD K) neP := fun A H x y p q Q E hA ix iy w => by
  unfold neP at w
  split at w
  · next b h =>
    obtain ⟨d, e, e1, e2, s1, s2, rfl⟩ := eqB_some h
    exact ⟨d, e, ix.dp frz_sub e1, iy.dp frz_sub e2, s1, s2, w _ H .refl (.bl _)⟩
  · exact w.elim
def isNo : PV → Bool
  | .non => true
  | _ => false
theorem is_non {v : V} {p : PV} (h : Is K cl F v p) : decide (v = .non) = isNo p := by cases h <;> rfl
theorem isV_non {v : V} {p : PV} (h : IsV K cl F H v p) : decide (v = .non) = isNo p := by
  cases p with
  | lst ps => obtain ⟨a, vs, rfl, _⟩ := h; rfl
  | dct ps => obtain ⟨a, vs, rfl, _⟩ := h; rfl
  | _ => exact is_non (K := K) (cl := cl) (F := F) h
def isP : PV → PV → Res PV
  | p, .non => .val (.bl (isNo p))
  | _, _ => .stuck
def isnP : PV → PV → Res PV
  | p, .non => .val (.bl (!isNo p))
  | _, _ => .stuck
theorem o2_is : Op2 K cl (fun x y H Q => y = .non ∧ Q (.bl (decide (x = .non))) H) isP := fun A H x y p q Q E hA ix iy w => by
  unfold isP at w
  split at w
  · cases iy
    exact ⟨rfl, w _ H .refl (by rw [isV_non ix]; exact .bl _)⟩
  · exact w.elim
def ixP : PV → PV → Res PV
  | .lst xs, .int i => match atI xs i with | some p => .val p | none => .stuck
  | .tup xs, .int i => match atI xs i with | some p => .val p | none => .stuck
  | .fls xs, .int i => match atI xs i with | some p => .val p | none => .stuck
  | .ktp xs, .int i => match atI xs i with | some p => .val p | none => .stuck
  | _, _ => .stuck
def rIxV (K : PySem.W.Frag) : R2 := rOr (rIxL K) (rIxT K)
theorem ix_V {X : Cx} : IxR X (rIxV X.K) := ix_list.or ix_tup
theorem ix_VK (K : PySem.W.Frag) {X : Cx} (e : X.K = K) : IxR X (rIxV K) := by subst e; exact ix_V
theorem IsL.atI {vs : List V} {ps : List PV} {i : Int} {p : PV} (h : IsL K cl F vs ps) (e : atI ps i = some p) : ∃ v, atI vs i = some v ∧ Is K cl F v p := by
  unfold L2.atI at e ⊢
  rw [h.len]
  cases c : ixN ps.length i with
  | none => rw [c] at e; cases e
  | some j =>
    rw [c] at e
    exact h.get e
theorem o2_ix : Op2 K cl (rIxV K) ixP := fun A H x y p q Q E hA ix iy w => by
  unfold ixP at w
  split at w
  · obtain ⟨a, vs, rfl, ha, la⟩ := ix
    cases isV_int iy
    split at w
    · next c =>
      obtain ⟨v, e, i⟩ := la.atI c
      exact .inl ⟨a, vs, _, v, rfl, rfl, .inl (.inl ha), e, w v H .refl i⟩
    · exact w.elim
  · cases ix with
    | tup ha la =>
    cases isV_int iy
    split at w
    · next c =>
      obtain ⟨v, e, i⟩ := la.atI c
      exact .inr ⟨_, _, _, v, rfl, rfl, frz_sub.sqT ha, e, w v H .refl i⟩
    · exact w.elim
  · cases ix with
    | fls ha la =>
    cases isV_int iy
    split at w
    · next c =>
      obtain ⟨v, e, i⟩ := la.atI c
      exact .inl ⟨_, _, _, v, rfl, rfl, frz_sub.sqL ha, e, w v H .refl i⟩
    · exact w.elim
  · cases ix with
    | ktp ha _ _ la =>
    cases isV_int iy
    split at w
    · next c =>
      obtain ⟨v, e, i⟩ := la.atI c
      exact .inr ⟨_, _, _, v, rfl, rfl, .inl (.inr ⟨_, frz_sub _ _ ha⟩), e, w v H .refl i⟩
    · exact w.elim
  · exact w.elim
def flatP : PV → Option V
  | .non => some .non
  | .bl b => some (.bl b)
  | .int i => some (.int i)
  | .str x => some (.str x)
  | _ => none
def flatsP : List PV → Option (List V)
  | [] => some []
  | x :: xs => (flatP x).bind fun v => (flatsP xs).map fun vs => v :: vs
theorem flatP_is {v w : V} {p : PV} (h : Is K cl F v p) (e : flatP p = some w) : v = w ∧ flatV v = true := by
  cases h <;> cases e <;> exact ⟨rfl, rfl⟩
theorem flatsP_is : ∀ {vs : List V} {ps : List PV} {ws : List V}, IsL K cl F vs ps → flatsP ps = some ws → vs = ws ∧ vs.all flatV = true
  | _, _, _, .nil, e => by cases e; exact ⟨rfl, rfl⟩
  | _, _, _, .cons a r, e => by
    unfold flatsP at e
    obtain ⟨d, e1, e2⟩ := Option.bind_eq_some_iff.mp e
    obtain ⟨ds, e3, rfl⟩ := Option.map_eq_some_iff.mp e2
    obtain ⟨rfl, c1⟩ := flatP_is a e1
    obtain ⟨rfl, c2⟩ := flatsP_is r e3
    exact ⟨rfl, by rw [List.all_cons, c1, c2]; rfl⟩
def lenP (p : PV) : Res PV := match p with
  | .str z => if z.length ≤ sizeLine then .val (.int z.length) else .stuck
  | .dct kvs => .val (.int kvs.length)
  | p => asSq p >>= fun ps => .val (.int ps.length)
def rLenS (K : PySem.W.Frag) : List V → Hp → VK → Prop := fun xs H Q => ∃ p ys, xs = [.ref p] ∧ (SqL K H p ys ∨ SqT K H p ys) ∧ Q (.int ys.length) H
def rLenV (K : PySem.W.Frag) : List V → Hp → VK → Prop := cOr (rLenS K) (cOr (fun xs H Q => ∃ z, xs = [.str z] ∧ z.length ≤ sizeLine ∧ Q (.int z.length) H) (fun xs H Q => ∃ a kvs, xs = [V.ref a] ∧ H a = some (.dK kvs) ∧ Q (.int kvs.length) H))
theorem call_lenV {X : Cx} : CallR X (.builtin "len") (rLenV X.K) := call_len_seq.or (call_len_str.or call_lenD)
theorem call_lenVK (K : PySem.W.Frag) {X : Cx} (e : X.K = K) : CallR X (.builtin "len") (rLenV K) := by subst e; exact call_lenV
theorem b1_len : Bi1 K cl (rLenV K) lenP := fun A H x p Q E hA ix w => by
  unfold lenP at w
  split at w
  · cases isV_str ix
    split at w
    · next c => exact .inr (.inl ⟨_, rfl, c, w _ H .refl (.int _)⟩)
    · exact w.elim
  · obtain ⟨a, vs, rfl, ha, la⟩ := ix
    exact .inr (.inr ⟨a, vs, rfl, ha, by rw [la.len]; exact w _ H .refl (.int _)⟩)
  · obtain ⟨a, vs, ps, rfl, hs, hl, w⟩ := wp_asSq (wp_bind.mp w) ix
    exact .inl ⟨a, vs, rfl, hs.symm, by rw [hl.len]; exact w _ H .refl (.int _)⟩
def listP (p : PV) : Res PV := asSq p >>= fun ps => .val (.lst ps)
def rListV (K : PySem.W.Frag) : List V → Hp → VK → Prop := fun xs H Q => ∃ p ys, xs = [.ref p] ∧ (SqL K H p ys ∨ SqT K H p ys) ∧ ∀ l, H l = none → Q (.ref l) (upd H l (.lst ys))
theorem call_listV (K : PySem.W.Frag) {X : Cx} (e : X.K = K) : CallR X (.type "list") (rListV K) := by subst e; exact call_list_of
def tupleP (p : PV) : Res PV := asSq p >>= fun ps => .val (.tup ps)
def rTupleV (K : PySem.W.Frag) : List V → Hp → VK → Prop := fun xs H Q => ∃ p ys, xs = [.ref p] ∧ ((SqL K H p ys ∧ ∀ l, H l = none → Q (.ref l) (upd H l (.tup ys))) ∨ (SqT K H p ys ∧ Q (.ref p) H))
theorem call_tupleV (K : PySem.W.Frag) {X : Cx} (e : X.K = K) : CallR X (.type "tuple") (rTupleV K) := by subst e; exact call_tuple_of
theorem b1_tuple : Bi1 K cl (rTupleV K) tupleP := fun A H x p Q E hA ix w => by
  cases p with
  | tup ps =>
    cases ix with
    | tup h r => exact ⟨_, _, rfl, .inr ⟨frz_sub.sqT h, w _ H .refl (.tup h r)⟩⟩
  | lst ps =>
    obtain ⟨a, vs, rfl, h, r⟩ := ix
    exact ⟨a, vs, rfl, .inl ⟨.inl (.inl h), fun l hl => w _ _ (sub_new hl _) (new_tup hA hl r)⟩⟩
  | fls ps =>
    cases ix with
    | fls h r => exact ⟨_, _, rfl, .inl ⟨frz_sub.sqL h, fun l hl => w _ _ (sub_new hl _) (new_tup hA hl r)⟩⟩
  | _ => exact w.elim
def intP : PV → Res PV
  | .int i => .val (.int i)
  | .bl b => .val (.int (if b then 1 else 0))
  | _ => .stuck
def rIntV : List V → Hp → VK → Prop := fun xs H Q => (∃ i, xs = [.int i] ∧ Q (.int i) H) ∨ ∃ k, xs = [.bl k] ∧ Q (.int (if k then 1 else 0)) H
theorem b1_int : Bi1 K cl rIntV intP := fun A H x p Q E hA ix w => by
  unfold intP at w
  split at w
  · cases isV_int ix; exact .inl ⟨_, rfl, w _ H .refl (.int _)⟩
  · cases isV_bl ix; exact .inr ⟨_, rfl, w _ H .refl (.int _)⟩
  · exact w.elim
def allI : List PV → Option (List Int)
  | [] => some []
  | .int i :: r => (allI r).map fun is => i :: is
  | _ :: _ => none
theorem allI_eq : ∀ {ps : List PV} {is : List Int}, allI ps = some is → ps = is.map PV.int
  | [], _, e => by cases e; rfl
  | p :: r, is, e => by
    cases p with
    | int i =>
      obtain ⟨js, e1, rfl⟩ := Option.map_eq_some_iff.mp (show (allI r).map (fun is => i :: is) = some is from e)
      rw [allI_eq e1]
      rfl
    | _ => cases e
def allB : List PV → Option (List Bool)
  | [] => some []
  | .bl i :: r => (allB r).map fun is => i :: is
  | _ :: _ => none
theorem allB_eq : ∀ {ps : List PV} {is : List Bool}, allB ps = some is → ps = is.map PV.bl
  | [], _, e => by cases e; rfl
  | p :: r, is, e => by
    cases p with
    | bl i =>
      obtain ⟨js, e1, rfl⟩ := Option.map_eq_some_iff.mp (show (allB r).map (fun is => i :: is) = some is from e)
      rw [allB_eq e1]
      rfl
    | _ => cases e
theorem allB_map : ∀ is : List Bool, allB (is.map PV.bl) = some is
  | [] => rfl
  | i :: is => by
    show (allB (is.map PV.bl)).map (fun js => i :: js) = _
    rw [allB_map is]
    rfl
def asLi : PV → Res (List PV)
  | .lst ps => .val ps
  | .fls ps => .val ps
  | _ => .stuck
theorem wp_asLi {p : PV} {v : V} {Q : List PV → Prop} {E : Str → Prop} (h : wp (asLi p) Q E) (i : IsV K cl F H v p) (s : Sub F H := by exact frz_sub) : ∃ a vs ps, v = .ref a ∧ SqL K H a vs ∧ IsL K cl F vs ps ∧ Q ps := by
  cases p with
  | lst ps => obtain ⟨a, vs, e, h1, r⟩ := i; exact ⟨a, vs, ps, e, .inl (.inl h1), r, h⟩
  | fls ps => cases i with | fls h1 r => exact ⟨_, _, ps, rfl, s.sqL h1, r, h⟩
  | _ => exact h.elim
def allP (p : PV) : Res PV := asLi p >>= fun ps => match allB ps with
  | some is => .val (.bl (is.all id))
  | none => .stuck
theorem b1_all : Bi1 K cl (rAll K) allP := fun A H x p Q E hA ix w => by
  obtain ⟨a, vs, ps, rfl, hs, hl, w⟩ := wp_asLi (wp_bind.mp w) ix
  split at w
  · next is e =>
    cases allB_eq e
    cases hl.bls
    exact ⟨a, is, rfl, hs, w _ H .refl (.bl _)⟩
  · exact w.elim
def tyNm : PV → Option String
  | .non => some "NoneType"
  | .bl _ => some "bool"
  | .int _ => some "int"
  | .str _ => some "str"
  | .tup _ => some "tuple"
  | .lst _ => some "list"
  | .dct _ => some "dict"
  | _ => none
def isiP : PV → PV → Res PV
  | p, .ty T => match (tyNm p).bind fun n => kitB n T with
    | some b => .val (.bl b)
    | none => .stuck
  | _, _ => .stuck
theorem isV_ty {v : V} {p : PV} {n : String} (h : IsV K cl F H v p) (s : Sub F H) (e : tyNm p = some n) : TyX K H v (.type n) := by
  cases p with
  | lst ps => obtain ⟨a, vs, rfl, h, _⟩ := h; cases e; exact .base (.lst h)
  | dct ps => obtain ⟨a, vs, rfl, h, _⟩ := h; cases e; exact .base (.dK h)
  | non => cases h; cases e; exact .base .non
  | bl b => cases h; cases e; exact .base (.bl b)
  | int b => cases h; cases e; exact .base (.int b)
  | str b => cases h; cases e; exact .base (.str b)
  | tup ps =>
    cases h with
    | tup h _ =>
      cases e
      rcases s.sqT h with (h | ⟨o, h⟩) | ⟨o, its, n, h, c, _⟩
      · exact .base (.tup h)
      · exact .fTuple h
      · exact .kTuple h c
  | fls ps => cases e
  | ty m => cases e
  | er m => cases e
  | ktp m => cases e
  | ins C fs => cases e
theorem b2_isi : Bi2 K cl (rIsi K) isiP := fun A H x y p q Q E hA ix iy w => by
  unfold isiP at w
  split at w
  · next T =>
    cases iy
    split at w
    · next b e =>
      obtain ⟨n, e1, e2⟩ := Option.bind_eq_some_iff.mp e
      exact ⟨x, .ty T, .type n, .type T, b, rfl, .ty _, isV_ty ix frz_sub e1, kit_ty e2, w _ H .refl (.bl _)⟩
    · exact w.elim
  · exact w.elim
end
inductive Fl (S L : Type) where
  | nx (s : S) | rt (v : PV) (r : List MO) | ro (mo : MO) (r : List MO) | bk (l : L) | ct (l : L)
inductive Wk : Ro → Ro → Prop
  | nil : Wk [] []
  | keep {s : Slot} {ρ ρ' : Ro} : Wk ρ ρ' → Wk (s :: ρ) (s :: ρ')
  | drop {s : Slot} {ρ ρ' : Ro} : Wk ρ ρ' → Wk (s :: ρ) (.un :: ρ')
  | ice {ps : List PV} {ρ ρ' : Ro} : Wk ρ ρ' → Wk (.ow (.lst ps) :: ρ) (.fz (.lst ps) :: ρ')
  | iced {ps : List (Key × PV)} {ρ ρ' : Ro} : Wk ρ ρ' → Wk (.ow (.dct ps) :: ρ) (.fz (.dct ps) :: ρ')
theorem Wk.refl : ∀ ρ : Ro, Wk ρ ρ
  | [] => .nil
  | _ :: ρ => .keep (Wk.refl ρ)
theorem adr_cons {s : Slot} {x : Option V} {ρ : Ro} {σ : St} {a : Addr} (h : a ∈ adr ρ σ) : a ∈ adr (s :: ρ) (x :: σ) := by
  cases s with
  | un => exact h
  | fz p => exact h
  | ow m =>
    cases x with
    | none => exact h
    | some v => cases v <;> first | exact h | exact List.mem_cons_of_mem _ h
  | rf k m =>
    cases x with
    | none => exact h
    | some v => cases v <;> first | exact h | exact List.mem_cons_of_mem _ h
section
variable {K : PySem.W.Frag} {cl : Str → Option Addr} {W : WX} {bs O : List Addr} {F H H' : Hp} {ρ ρ' : Ro} {σ : St}
theorem Wk.adr (w : Wk ρ ρ') : ∀ {σ : St}, (adr ρ' σ).Sublist (adr ρ σ) ∧ (owa ρ' σ).Sublist (owa ρ σ) := by
  induction w with
  | nil => intro σ; exact ⟨by cases σ <;> exact .slnil, by cases σ <;> exact .slnil⟩
  | @keep s ρ ρ' w ih =>
    intro σ
    cases σ with
    | nil => cases s <;> exact ⟨.slnil, .slnil⟩
    | cons x σ =>
      cases s with
      | un => exact ih
      | fz p => exact ih
      | ow m =>
        cases x with
        | none => exact ih
        | some v => cases v <;> first | exact ih | exact ⟨.cons_cons _ ih.1, .cons_cons _ ih.2⟩
      | rf k m =>
        cases x with
        | none => exact ih
        | some v => cases v <;> first | exact ih | exact ⟨.cons_cons _ ih.1, ih.2⟩
  | @drop s ρ ρ' w ih =>
    intro σ
    cases σ with
    | nil => cases s <;> exact ⟨.slnil, .slnil⟩
    | cons x σ =>
      cases s with
      | un => exact ih
      | fz p => exact ih
      | ow m =>
        cases x with
        | none => exact ih
        | some v => cases v <;> first | exact ih | exact ⟨.cons _ ih.1, .cons _ ih.2⟩
      | rf k m =>
        cases x with
        | none => exact ih
        | some v => cases v <;> first | exact ih | exact ⟨.cons _ ih.1, ih.2⟩
  | ice w ih =>
    intro σ
    cases σ with
    | nil => exact ⟨.slnil, .slnil⟩
    | cons x σ =>
      cases x with
      | none => exact ih
      | some v => cases v <;> first | exact ih | exact ⟨.cons _ ih.1, .cons _ ih.2⟩
  | iced w ih =>
    intro σ
    cases σ with
    | nil => exact ⟨.slnil, .slnil⟩
    | cons x σ =>
      cases x with
      | none => exact ih
      | some v => cases v <;> first | exact ih | exact ⟨.cons _ ih.1, .cons _ ih.2⟩
theorem frz_less {H : Hp} {A A' : List Addr} (h : ∀ a, a ∈ A' → a ∈ A) : Sub (frz H A) (frz H A') := fun x o e => by
  obtain ⟨n, e⟩ := frz_some.mp e
  exact frz_some.mpr ⟨fun z => n (h _ z), e⟩
theorem owa_sub : ∀ {ρ : Ro} {σ : St} {a : Addr}, a ∈ owa ρ σ → a ∈ adr ρ σ
  | [], σ, a, h => by cases σ <;> cases h
  | s :: ρ, [], a, h => by cases s <;> cases h
  | s :: ρ, x :: σ, a, h => by
    cases s with
    | un => exact owa_sub (ρ := ρ) h
    | fz p => exact owa_sub (ρ := ρ) h
    | rf k m => exact adr_cons (owa_sub (ρ := ρ) (by cases x with | none => exact h | some v => cases v <;> exact h))
    | ow m =>
      cases x with
      | none => exact owa_sub (ρ := ρ) h
      | some v =>
        cases v with
        | ref b =>
          rcases List.mem_cons.mp h with e | e
          · rw [e]; exact List.mem_cons_self
          · exact List.mem_cons_of_mem _ (owa_sub e)
        | _ => exact owa_sub (ρ := ρ) h
theorem RelS.wk (w : Wk ρ ρ') : ∀ {σ : St} {F F' : Hp}, Sub F F' → (adr ρ σ).Nodup → (∀ a, a ∈ owa ρ σ → a ∉ adr ρ' σ → ∀ o, H a = some o → F' a = some o) → RelS K cl bs F H ρ σ → RelS K cl bs F' H ρ' σ := by
  induction w with
  | nil => intro σ F F' s nd g r; cases r; exact .nil
  | @keep s ρ ρ' w ih =>
    intro σ F F' sF nd g r
    cases r with
    | @cons _ x _ σ a r =>
      refine .cons (a.mono sF fun _ _ _ h => h) ?_
      cases s with
      | un => exact ih sF nd g r
      | fz p => exact ih sF nd g r
      | ow m =>
        obtain ⟨b, rfl, _⟩ := a
        obtain ⟨n1, nd⟩ := List.nodup_cons.mp nd
        refine ih sF nd (fun a ha na => g a (List.mem_cons_of_mem _ ha) fun z => ?_) r
        rcases List.mem_cons.mp z with e | e
        · exact n1 (e ▸ owa_sub ha)
        · exact na e
      | rf k m =>
        obtain ⟨b, rfl, _⟩ := a
        obtain ⟨n1, nd⟩ := List.nodup_cons.mp nd
        refine ih sF nd (fun a ha na => g a ha fun z => ?_) r
        rcases List.mem_cons.mp z with e | e
        · exact n1 (e ▸ owa_sub ha)
        · exact na e
  | @drop s ρ ρ' w ih =>
    intro σ F F' sF nd g r
    cases r with
    | @cons _ x _ σ a r =>
      refine .cons trivial ?_
      cases s with
      | un => exact ih sF nd g r
      | fz p => exact ih sF nd g r
      | ow m =>
        obtain ⟨b, rfl, _⟩ := a
        exact ih sF (List.nodup_cons.mp nd).2 (fun a ha na => g a (List.mem_cons_of_mem _ ha) na) r
      | rf k m =>
        obtain ⟨b, rfl, _⟩ := a
        exact ih sF (List.nodup_cons.mp nd).2 (fun a ha na => g a ha na) r
  | @ice ps ρ ρ' w ih =>
    intro σ F F' sF nd g r
    cases r with
    | @cons _ x _ σ a r =>
      obtain ⟨b, rfl, vs, hb, hl⟩ := a
      obtain ⟨n1, nd⟩ := List.nodup_cons.mp nd
      refine .cons ⟨_, rfl, .lst (g b List.mem_cons_self (fun z => n1 (w.adr.1.subset z)) _ hb) (hl.mono sF)⟩ ?_
      exact ih sF nd (fun a ha na => g a (List.mem_cons_of_mem _ ha) na) r
  | @iced ps ρ ρ' w ih =>
    intro σ F F' sF nd g r
    cases r with
    | @cons _ x _ σ a r =>
      obtain ⟨b, rfl, vs, hb, hl⟩ := a
      obtain ⟨n1, nd⟩ := List.nodup_cons.mp nd
      refine .cons ⟨_, rfl, .dct (g b List.mem_cons_self (fun z => n1 (w.adr.1.subset z)) _ hb) (hl.mono sF)⟩ ?_
      exact ih sF nd (fun a ha na => g a (List.mem_cons_of_mem _ ha) na) r
theorem Rel.wk (R : Rel K cl O bs ρ σ H) (w : Wk ρ ρ') : Rel K cl O bs ρ' σ H := by
  obtain ⟨sl, nd, al, ow⟩ := R
  have s1 := (w.adr (σ := σ)).1
  refine ⟨sl.wk w (frz_less fun a ha => ?_) nd (fun a ha na o e => frz_some.mpr ⟨fun z => ?_, e⟩), nd.sublist s1, al, fun a ha => ow a ((w.adr (σ := σ)).2.subset ha)⟩
  · rcases List.mem_append.mp ha with c | c
    · exact List.mem_append_left _ c
    · exact List.mem_append_right _ (s1.subset c)
  · rcases List.mem_append.mp z with c | c
    · exact ow a ha c
    · exact na c
end
def nad : Ro → Nat → Bool
  | [], _ => false
  | .un :: _, 0 => true
  | .fz _ :: _, 0 => true
  | _ :: _, 0 => false
  | _ :: ρ, i + 1 => nad ρ i
def brs : Ro → List MO
  | [] => []
  | .rf _ m :: ρ => m :: brs ρ
  | _ :: ρ => brs ρ
def rfB : Nat → Ro → Bool
  | _, [] => true
  | n, .rf k _ :: ρ => (k == n) && rfB (n + 1) ρ
  | n, _ :: ρ => rfB n ρ
def uns (n : Nat) : Ro := List.replicate n .un
theorem wk_uns : ∀ {ρ : Ro} {n : Nat}, ρ.length = n → Wk ρ (uns n)
  | [], _, rfl => .nil
  | _ :: ρ, _, rfl => .drop (wk_uns (ρ := ρ) rfl)
section
variable (K : PySem.W.Frag) (cl : Str → Option Addr) (W : WX)
def FlOk {S L : Type} (O bs : List Addr) (ρn : S → Ro) (ρl : L → Ro) (D : Ends) (A : List Addr) (H : Hp) : Fl S L → Prop
  | .nx s => ∀ σ' H', Gr A H (adr (ρn s) σ') H' → Rel K cl O bs (ρn s) σ' H' → D.nx σ' H'
  | .bk s => ∀ σ' H', Gr A H (adr (ρl s) σ') H' → Rel K cl O bs (ρl s) σ' H' → D.bk σ' H'
  | .ct s => ∀ σ' H', Gr A H (adr (ρl s) σ') H' → Rel K cl O bs (ρl s) σ' H' → D.ct σ' H'
  | .rt v r => ∀ (w : V) (H' : Hp), Gr A H [] H' → Is K cl (frz H' O) w v → (∀ (k : Nat) (b : Addr) (m : MO), bs[k]? = some b → r[k]? = some m → MoIs K cl (frz H' O) H' b m) → D.rt w H'
  | .ro mo r => ∀ (p : Addr) (H' : Hp), Gr A H [p] H' → p ∉ O → MoIs K cl (frz H' (p :: O)) H' p mo → (∀ (k : Nat) (b : Addr) (m : MO), bs[k]? = some b → r[k]? = some m → MoIs K cl (frz H' (p :: O)) H' b m) → D.rt (.ref p) H'
def ExOk (O bs : List Addr) (ρx : Ro) (A : List Addr) (H : Hp) (c : Str) : Prop := ∀ C σ' H', cl c = some C → Gr A H (adr ρx σ') H' → Rel K cl O bs ρx σ' H' → W (.ref C) none σ' H'
def Runs {S L : Type} (t : TS) (ρ : Ro) (m : Res (Fl S L)) (ρn : S → Ro) (ρl : L → Ro) (ρx : Ro) : Prop := ∀ (O bs : List Addr) (σ : St) (H : Hp) (D : Ends), Rel K cl O bs ρ σ H → (∀ b, b ∈ bs → b ∈ O) →
  wp m (FlOk K cl O bs ρn ρl D (adr ρ σ) H) (ExOk K cl W O bs ρx (adr ρ σ) H) → t D σ H
end
section
variable {K : PySem.W.Frag} {cl : Str → Option Addr} {W : WX} {bs O A A1 : List Addr} {F H H' H1 : Hp} {ρ ρ' ρx : Ro} {σ : St} {S S1 L : Type} {ρn : S → Ro} {ρj : S1 → Ro} {ρl : L → Ro} {D : Ends} {t u v : TS} {te : TE} {m : Res PV}
theorem FlOk.step {f : Fl S L} (h : FlOk K cl O bs ρn ρl D A H f) (g : Gr A H A1 H1) : FlOk K cl O bs ρn ρl D A1 H1 f := by
  cases f with
  | nx s => exact fun σ' H' g' R => h σ' H' (g.trans g') R
  | bk s => exact fun σ' H' g' R => h σ' H' (g.trans g') R
  | ct s => exact fun σ' H' g' R => h σ' H' (g.trans g') R
  | rt v r => exact fun w H' g' i b => h w H' (g.trans g') i b
  | ro mo r => exact fun p H' g' n i b => h p H' (g.trans g') n i b
theorem ExOk.step {c : Str} (h : ExOk K cl W O bs ρx A H c) (g : Gr A H A1 H1) : ExOk K cl W O bs ρx A1 H1 c := fun C σ' H' e g' R => h C σ' H' e (g.trans g') R
theorem Gr.wk (w : Wk ρ ρ') : Gr (adr ρ σ) H (adr ρ' σ) H := ⟨fun _ _ _ h => h, fun _ h => .inl (w.adr.1.subset h)⟩
theorem ExOk.xw {c : Str} (h : ExOk K cl W O bs ρx (adr ρ σ) H c) (R : Rel K cl O bs ρ σ H) (w : Wk ρ ρx) : XW cl W σ H c := fun C H' e s => h C σ H' e ((Gr.of s).trans (Gr.wk w)) ((R.same s).wk w)
theorem run_one {M : Res (Fl S L)} (h : Runs K cl W (tSeq t tNext) ρ M ρn ρl ρx) : Runs K cl W t ρ M ρn ρl ρx := h
theorem run_assoc {M : Res (Fl S L)} (h : Runs K cl W (tSeq t (tSeq u v)) ρ M ρn ρl ρx) : Runs K cl W (tSeq (tSeq t u) v) ρ M ρn ρl ρx := h
theorem run_skip {M : Res (Fl S L)} (h : Runs K cl W u ρ M ρn ρl ρx) : Runs K cl W (tSeq tNext u) ρ M ρn ρl ρx := h
theorem run_next {s : S} (w : Wk ρ (ρn s)) : Runs K cl W tNext ρ (.val (.nx s)) ρn ρl ρx := fun O bs σ H D R hb q => q σ H (Gr.wk w) (R.wk w)
theorem run_wk {M : Res (Fl S L)} (w : Wk ρ ρ') (h : Runs K cl W t ρ' M ρn ρl ρx) : Runs K cl W t ρ M ρn ρl ρx := fun O bs σ H D R hb q =>
  h O bs σ H D (R.wk w) hb (wp_mono q (fun _ z => z.step (Gr.wk w)) fun _ z => z.step (Gr.wk w))
theorem adr_setn : ∀ {ρ : Ro} {σ : St} {i : Nat} {p : PV} {x : Option V}, nad ρ i = true → adr (ρ.set i (.fz p)) (σ.set i x) = adr ρ σ
  | [], σ, i, p, x, h => by cases h
  | s :: ρ, [], i, p, x, h => by
    cases i with
    | zero => cases s <;> first | rfl | cases h
    | succ i => cases s <;> rfl
  | s :: ρ, y :: σ, 0, p, x, h => by cases s <;> first | rfl | cases h
  | s :: ρ, y :: σ, i + 1, p, x, h => by
    have ih := adr_setn (ρ := ρ) (σ := σ) (i := i) (p := p) (x := x) (by cases s <;> exact h)
    show adr (s :: ρ.set i (.fz p)) (y :: σ.set i x) = adr (s :: ρ) (y :: σ)
    cases s with
    | un => exact ih
    | fz q => exact ih
    | ow m => cases y with
      | none => exact ih
      | some v => cases v <;> first | exact ih | exact congrArg (_ :: ·) ih
    | rf k m => cases y with
      | none => exact ih
      | some v => cases v <;> first | exact ih | exact congrArg (_ :: ·) ih
theorem owa_setn : ∀ {ρ : Ro} {σ : St} {i : Nat} {p : PV} {x : Option V}, nad ρ i = true → owa (ρ.set i (.fz p)) (σ.set i x) = owa ρ σ
  | [], σ, i, p, x, h => by cases h
  | s :: ρ, [], i, p, x, h => by
    cases i with
    | zero => cases s <;> first | rfl | cases h
    | succ i => cases s <;> rfl
  | s :: ρ, y :: σ, 0, p, x, h => by cases s <;> first | rfl | cases h
  | s :: ρ, y :: σ, i + 1, p, x, h => by
    have ih := owa_setn (ρ := ρ) (σ := σ) (i := i) (p := p) (x := x) (by cases s <;> exact h)
    show owa (s :: ρ.set i (.fz p)) (y :: σ.set i x) = owa (s :: ρ) (y :: σ)
    cases s with
    | un => exact ih
    | fz q => exact ih
    | ow m => cases y with
      | none => exact ih
      | some v => cases v <;> first | exact ih | exact congrArg (_ :: ·) ih
    | rf k m => cases y with
      | none => exact ih
      | some v => cases v <;> first | exact ih
theorem RelS.set {F : Hp} (r : RelS K cl bs F H ρ σ) {i : Nat} {s : Slot} {x : Option V} (h : SlotIs K cl bs F H s x) : RelS K cl bs F H (ρ.set i s) (σ.set i x) := by
  induction r generalizing i with
  | nil => exact .nil
  | cons a r ih =>
    cases i with
    | zero => exact .cons h r
    | succ i => exact .cons a ih
theorem Rel.setfz (R : Rel K cl O bs ρ σ H) {i : Nat} {p : PV} {v : V} (hn : nad ρ i = true) (h : Is K cl (frz H (O ++ adr ρ σ)) v p) : Rel K cl O bs (ρ.set i (.fz p)) (σ.set i (some v)) H := by
  have e := adr_setn (σ := σ) (p := p) (x := some v) hn
  refine ⟨?_, by rw [e]; exact R.nd, R.al, by rw [owa_setn hn]; exact R.ow⟩
  rw [e]
  exact R.sl.set ⟨v, rfl, h⟩
theorem adr_seto : ∀ {ρ : Ro} {σ : St} {i : Nat} {m : MO} {p : Addr}, ρ.length = σ.length → nad ρ i = true → (adr (ρ.set i (.ow m)) (σ.set i (some (.ref p)))).Perm (p :: adr ρ σ) ∧ (owa (ρ.set i (.ow m)) (σ.set i (some (.ref p)))).Perm (p :: owa ρ σ)
  | [], σ, i, m, p, _, h => by cases h
  | s :: ρ, [], i, m, p, e, h => by cases e
  | s :: ρ, y :: σ, 0, m, p, _, h => by cases s <;> first | exact ⟨.refl _, .refl _⟩ | cases h
  | s :: ρ, y :: σ, i + 1, m, p, e, h => by
    have ih := adr_seto (ρ := ρ) (σ := σ) (i := i) (m := m) (p := p) (Nat.succ.inj e) (by cases s <;> exact h)
    show (adr (s :: ρ.set i (.ow m)) (y :: σ.set i (some (.ref p)))).Perm (p :: adr (s :: ρ) (y :: σ)) ∧ (owa (s :: ρ.set i (.ow m)) (y :: σ.set i (some (.ref p)))).Perm (p :: owa (s :: ρ) (y :: σ))
    cases s with
    | un => exact ih
    | fz q => exact ih
    | ow m => cases y with
      | none => exact ih
      | some v => cases v <;> first | exact ih | exact ⟨(ih.1.cons _).trans (.swap _ _ _), (ih.2.cons _).trans (.swap _ _ _)⟩
    | rf k m => cases y with
      | none => exact ih
      | some v => cases v <;> first | exact ih | exact ⟨(ih.1.cons _).trans (.swap _ _ _), ih.2⟩
theorem Rel.setow (R : Rel K cl O bs ρ σ H) {i : Nat} {mo : MO} {p : Addr} (s : Sub H H') (hn : nad ρ i = true) (hp : H p = none) (h : MoIs K cl (frz H' (p :: (O ++ adr ρ σ))) H' p mo) :
    Rel K cl O bs (ρ.set i (.ow mo)) (σ.set i (some (.ref p))) H' ∧ Gr (adr ρ σ) H (adr (ρ.set i (.ow mo)) (σ.set i (some (.ref p)))) H' := by
  obtain ⟨e1, e2⟩ := adr_seto (ρ := ρ) (σ := σ) (i := i) (m := mo) (p := p) R.sl.len hn
  have np : p ∉ O ++ adr ρ σ := fun z => by
    obtain ⟨o, e⟩ := R.got z
    rw [hp] at e; cases e
  have memA : ∀ a, a ∈ adr (ρ.set i (.ow mo)) (σ.set i (some (.ref p))) → a = p ∨ a ∈ adr ρ σ := fun a ha => List.mem_cons.mp (e1.mem_iff.mp ha)
  refine ⟨⟨?_, e1.nodup_iff.mpr (List.nodup_cons.mpr ⟨fun z => np (List.mem_append_right _ z), R.nd⟩), fun a ha => let ⟨o, e⟩ := R.al a ha; ⟨o, s _ _ e⟩, fun a ha => ?_⟩, ⟨fun x o _ h => s _ _ h, fun x hx => ?_⟩⟩
  · have s1 : Sub (frz H (O ++ adr ρ σ)) (frz H' (O ++ adr (ρ.set i (.ow mo)) (σ.set i (some (.ref p))))) := fun x o e => by
      obtain ⟨n, e⟩ := frz_some.mp e
      refine frz_some.mpr ⟨fun z => ?_, s _ _ e⟩
      rcases List.mem_append.mp z with c | c
      · exact n (List.mem_append_left _ c)
      · rcases memA x c with c | c
        · rw [c, hp] at e; cases e
        · exact n (List.mem_append_right _ c)
    have s2 : Sub (frz H' (p :: (O ++ adr ρ σ))) (frz H' (O ++ adr (ρ.set i (.ow mo)) (σ.set i (some (.ref p))))) := frz_less fun a ha => by
      rcases List.mem_append.mp ha with c | c
      · exact List.mem_cons_of_mem _ (List.mem_append_left _ c)
      · rcases memA a c with c | c
        · rw [c]; exact List.mem_cons_self
        · exact List.mem_cons_of_mem _ (List.mem_append_right _ c)
    exact (R.sl.mono s1 fun a o _ e => s _ _ e).set ⟨p, rfl, h.mono s2 fun _ e => e⟩
  · rcases List.mem_cons.mp (e2.mem_iff.mp ha) with c | c
    · rw [c]; exact fun z => np (List.mem_append_left _ z)
    · exact R.ow a c
  · rcases memA x hx with c | c
    · rw [c]; exact .inr hp
    · exact .inl c
theorem run_set {i : Nat} {n : PV → Res (Fl S L)} (he : Pur K cl W te ρ m) (hn : nad ρ i = true) (w : Wk ρ ρx) (h : ∀ x, Runs K cl W u (ρ.set i (.fz x)) (n x) ρn ρl ρx) : Runs K cl W (tSeq (tAsg te (gName i)) u) ρ (m >>= n) ρn ρl ρx := fun O bs σ H D R hb q => by
  refine he O bs σ H _ R (wp_mono (wp_bind.mp q) (fun x qx v H' s ix => ?_) fun _ z => z.xw R w)
  have g : Gr (adr ρ σ) H (adr (ρ.set i (.fz x)) (σ.set i (some v))) H' := by rw [adr_setn hn]; exact Gr.of s
  exact h x O bs _ H' D ((R.same s).setfz hn ix) hb (wp_mono qx (fun _ z => z.step g) fun _ z => z.step g)
end
section
variable (K : PySem.W.Frag) (cl : Str → Option Addr) (W : WX)
def New (t : TE) (ρ : Ro) (m : Res (List PV)) : Prop := ∀ (O bs : List Addr) (σ : St) (H : Hp) (Q : VK), Rel K cl O bs ρ σ H →
  wp m (fun ps => ∀ p vs H', Sub H H' → H p = none → H' p = some (.lst vs) → IsL K cl (frz H' (p :: (O ++ adr ρ σ))) vs ps → Q (.ref p) H') (XW cl W σ H) → t σ H Q
def NewD (t : TE) (ρ : Ro) (m : Res (List (Key × PV))) : Prop := ∀ (O bs : List Addr) (σ : St) (H : Hp) (Q : VK), Rel K cl O bs ρ σ H →
  wp m (fun ps => ∀ p vs H', Sub H H' → H p = none → H' p = some (.dK vs) → IsK K cl (frz H' (p :: (O ++ adr ρ σ))) vs ps → Q (.ref p) H') (XW cl W σ H) → t σ H Q
end
section
variable {K : PySem.W.Frag} {cl : Str → Option Addr} {W : WX} {bs O A A1 : List Addr} {F H H' H1 : Hp} {ρ ρ' ρx : Ro} {σ : St} {S S1 L : Type} {ρn : S → Ro} {ρj : S1 → Ro} {ρl : L → Ro} {D : Ends} {t u v : TS} {te ta tb : TE} {m ma mb : Res PV} {tr : TA} {ml : Res (List PV)} {md : Res (List (Key × PV))}
theorem New.pur (h : New K cl W te ρ ml) : Pur K cl W te ρ (ml >>= fun ps => .val (.lst ps)) := fun O bs σ H Q R q => by
  refine h O bs σ H Q R (wp_mono (wp_bind.mp q) (fun ps qs p vs H' s hp hv hl => qs _ H' s (.lst (frz_some.mpr ⟨fun z => ?_, hv⟩) (hl.mono (frz_less fun a ha => List.mem_cons_of_mem _ ha)))) fun _ z => z)
  obtain ⟨o, e⟩ := R.got z
  rw [hp] at e; cases e
theorem NewD.pur (h : NewD K cl W te ρ md) : Pur K cl W te ρ (md >>= fun ps => .val (.dct ps)) := fun O bs σ H Q R q => by
  refine h O bs σ H Q R (wp_mono (wp_bind.mp q) (fun ps qs p vs H' s hp hv hl => qs _ H' s (.dct (frz_some.mpr ⟨fun z => ?_, hv⟩) (hl.mono (frz_less fun a ha => List.mem_cons_of_mem _ ha)))) fun _ z => z)
  obtain ⟨o, e⟩ := R.got z
  rw [hp] at e; cases e
theorem frz_new {p : Addr} (hp : H1 p = none) {A : List Addr} (o : HO) : Sub (frz H1 A) (frz (upd H1 p o) (p :: A)) := fun x u e => by
  obtain ⟨n, e⟩ := frz_some.mp e
  have ne : x ≠ p := ne_of_none e hp
  refine frz_some.mpr ⟨fun z => ?_, by rw [upd_ne ne]; exact e⟩
  rcases List.mem_cons.mp z with c | c
  · exact ne c
  · exact n c
theorem none_back (s : Sub H H1) {p : Addr} (h : H1 p = none) : H p = none := by
  cases e : H p with
  | none => rfl
  | some o => rw [s _ _ e] at h; cases h
def mkN (ps : List PV) : Res (List PV) := sized ps.length >>= fun _ => .val ps
theorem nw_lst (hl : PurL K cl W tr ρ ml) : New K cl W (tLst tr) ρ (ml >>= mkN) := fun O bs σ H Q R q => by
  refine hl O bs σ H _ R (wp_mono (wp_bind.mp q) (fun ps qs vs H1 s1 i1 => ?_) fun _ z => z)
  obtain ⟨z, qs⟩ := wp_sized (wp_bind.mp qs)
  exact ⟨by rw [i1.len]; exact z, fun p hp => qs p vs _ (s1.trans (sub_new hp _)) (none_back s1 hp) upd_same (i1.mono (frz_new hp _))⟩
theorem nw_list (ha : Vw K cl W ta ρ ma) : New K cl W (tCB (rListV K) (tCons ta tNil)) ρ (ma >>= asSq) := fun O bs σ H Q R q => by
  refine ha O bs σ H _ R (wp_mono (wp_bind.mp q) (fun x qx v1 H1 s1 i1 => ?_) fun _ z => z)
  obtain ⟨a, vs, ps, rfl, hs, hl, w⟩ := wp_asSq qx i1
  exact ⟨a, vs, rfl, hs.symm, fun l hl' => w l vs _ (s1.trans (sub_new hl' _)) (none_back s1 hl') upd_same (hl.mono (frz_new hl' _))⟩
theorem run_setow {i : Nat} {n : List PV → Res (Fl S L)} (he : New K cl W te ρ ml) (hn : nad ρ i = true) (w : Wk ρ ρx) (h : ∀ x, Runs K cl W u (ρ.set i (.ow (.lst x))) (n x) ρn ρl ρx) : Runs K cl W (tSeq (tAsg te (gName i)) u) ρ (ml >>= n) ρn ρl ρx := fun O bs σ H D R hb q => by
  refine he O bs σ H _ R (wp_mono (wp_bind.mp q) (fun x qx p vs H' s hp hv hl => ?_) fun _ z => z.xw R w)
  obtain ⟨R', g⟩ := R.setow (mo := .lst x) s hn hp ⟨vs, hv, hl⟩
  exact h x O bs _ H' D R' hb (wp_mono qx (fun _ z => z.step g) fun _ z => z.step g)
theorem run_setowd {i : Nat} {n : List (Key × PV) → Res (Fl S L)} (he : NewD K cl W te ρ md) (hn : nad ρ i = true) (w : Wk ρ ρx) (h : ∀ x, Runs K cl W u (ρ.set i (.ow (.dct x))) (n x) ρn ρl ρx) : Runs K cl W (tSeq (tAsg te (gName i)) u) ρ (md >>= n) ρn ρl ρx := fun O bs σ H D R hb q => by
  refine he O bs σ H _ R (wp_mono (wp_bind.mp q) (fun x qx p vs H' s hp hv hl => ?_) fun _ z => z.xw R w)
  obtain ⟨R', g⟩ := R.setow (mo := .dct x) s hn hp ⟨vs, hv, hl⟩
  exact h x O bs _ H' D R' hb (wp_mono qx (fun _ z => z.step g) fun _ z => z.step g)
theorem frz_gone (s : Sub H H') {p : Addr} (hp : H p = none) : Sub (frz H (O ++ A)) (frz H' (p :: O)) := fun x o e => by
  obtain ⟨n, e⟩ := frz_some.mp e
  refine frz_some.mpr ⟨fun z => ?_, s _ _ e⟩
  rcases List.mem_cons.mp z with c | c
  · rw [c, hp] at e; cases e
  · exact n (List.mem_append_left _ c)
theorem brs_rf : ∀ {ρ : Ro} {n : Nat}, rfB n ρ = true → ∀ {k : Nat} {mo : MO}, (brs ρ)[k]? = some mo → Slot.rf (n + k) mo ∈ ρ
  | [], n, h, k, mo, e => by simp [brs] at e
  | s :: ρ, n, h, k, mo, e => by
    cases s with
    | un => exact List.mem_cons_of_mem _ (brs_rf (ρ := ρ) h e)
    | fz p => exact List.mem_cons_of_mem _ (brs_rf (ρ := ρ) h e)
    | ow m => exact List.mem_cons_of_mem _ (brs_rf (ρ := ρ) h e)
    | rf j m =>
      have h' := Bool.and_eq_true_iff.mp (show (j == n && rfB (n + 1) ρ) = true from h)
      have hj : j = n := by simpa using h'.1
      cases k with
      | zero =>
        simp [brs] at e
        rw [hj, e]
        exact List.mem_cons_self
      | succ k =>
        have e' : (brs ρ)[k]? = some mo := by simpa [brs] using e
        have q := brs_rf (ρ := ρ) h'.2 e'
        rw [show n + (k + 1) = n + 1 + k by omega]
        exact List.mem_cons_of_mem _ q
theorem Rel.byref0 (R : Rel K cl O bs ρ σ H) (hr : rfB 0 ρ = true) {k : Nat} {b : Addr} {mo : MO} (hb : bs[k]? = some b) (e : (brs ρ)[k]? = some mo) : MoIs K cl (frz H (O ++ adr ρ σ)) H b mo := by
  have q := brs_rf hr e
  rw [Nat.zero_add] at q
  obtain ⟨i, hi, e2⟩ := List.getElem_of_mem q
  obtain ⟨x, h1, a, rfl, h3, h4⟩ := R.sl.get (List.getElem?_eq_some_iff.mpr ⟨hi, e2⟩)
  rw [hb] at h3
  cases h3
  exact h4
theorem Rel.byref (R : Rel K cl O bs ρ σ H) (hr : rfB 0 ρ = true) {k : Nat} {b : Addr} {mo : MO} (hb : bs[k]? = some b) (e : (brs ρ)[k]? = some mo) : MoIs K cl (frz H O) H b mo := by
  have q := brs_rf hr e
  rw [Nat.zero_add] at q
  obtain ⟨i, hi, e2⟩ := List.getElem_of_mem q
  obtain ⟨x, h1, a, rfl, h3, h4⟩ := R.sl.get (List.getElem?_eq_some_iff.mpr ⟨hi, e2⟩)
  rw [hb] at h3
  cases h3
  exact h4.mono (frz_less fun a ha => List.mem_append_left _ ha) fun _ e => e
theorem run_ret {r : List MO} (he : Pur K cl W te ρ m) (hr : rfB 0 ρ = true) (e : brs ρ = r) (w : Wk ρ ρx) : Runs (S := S) K cl W (tSeq (tRet te) u) ρ (m >>= fun x => .val (.rt x r)) ρn ρl ρx := fun O bs σ H D R hb q => by
  subst e
  refine he O bs σ H _ R (wp_mono (wp_bind.mp q) (fun x qx v H' s ix => ?_) fun _ z => z.xw R w)
  exact qx v H' ⟨fun a o _ h => s _ _ h, fun _ z => by cases z⟩ (ix.mono (frz_less fun a ha => List.mem_append_left _ ha)) fun k b mo h1 h2 => (R.same s).byref hr h1 h2
theorem run_if {c : TT} {mc : Res Bool} {M1 M2 : Res (Fl S L)} (hc : Tst K cl W c ρ mc) (w : Wk ρ ρx) (h1 : Runs K cl W (tSeq t u) ρ M1 ρn ρl ρx) (h2 : Runs K cl W (tSeq v u) ρ M2 ρn ρl ρx) : Runs K cl W (tSeq (tIfS c t v) u) ρ (mc >>= fun b => if b = true then M1 else M2) ρn ρl ρx := fun O bs σ H D R hb q => by
  refine hc O bs σ H _ R (wp_mono (wp_bind.mp q) (fun b qb H' s => ?_) fun _ z => z.xw R w)
  have g := Gr.of (A := adr ρ σ) s
  cases b with
  | true => exact h1 O bs σ H' D (R.same s) hb (wp_mono qb (fun _ z => z.step g) fun _ z => z.step g)
  | false => exact h2 O bs σ H' D (R.same s) hb (wp_mono qb (fun _ z => z.step g) fun _ z => z.step g)
def seqF (M : Res (Fl S1 L)) (n : S1 → Res (Fl S L)) : Res (Fl S L) := M >>= fun f => match f with
  | .nx s => n s
  | .rt v r => .val (.rt v r)
  | .ro mo r => .val (.ro mo r)
  | .bk l => .val (.bk l)
  | .ct l => .val (.ct l)
theorem run_seq {M : Res (Fl S1 L)} {n : S1 → Res (Fl S L)} (h1 : Runs K cl W t ρ M ρj ρl ρx) (h2 : ∀ s, Runs K cl W u (ρj s) (n s) ρn ρl ρx) : Runs K cl W (tSeq t u) ρ (seqF M n) ρn ρl ρx := fun O bs σ H D R hb q => by
  refine h1 O bs σ H { D with nx := u D } R hb (wp_mono (wp_bind.mp q) (fun f qf => ?_) fun _ z => z)
  cases f with
  | nx s => exact fun σ' H' g R' => h2 s O bs σ' H' D R' hb (wp_mono qf (fun _ z => z.step g) fun _ z => z.step g)
  | rt v r => exact qf
  | ro mo r => exact qf
  | bk l => exact qf
  | ct l => exact qf
theorem adr_at : ∀ {ρ : Ro} {σ : St} {i : Nat} {s : Slot} {a : Addr}, ρ[i]? = some s → σ[i]? = some (some (.ref a)) → (∃ mo, s = .ow mo) ∨ (∃ k mo, s = .rf k mo) → a ∈ adr ρ σ
  | [], σ, i, s, a, h, _, _ => by simp at h
  | s0 :: ρ, [], i, s, a, h, e, _ => by simp at e
  | s0 :: ρ, x :: σ, 0, s, a, h, e, z => by
    simp at h e
    subst h; subst e
    rcases z with ⟨mo, rfl⟩ | ⟨k, mo, rfl⟩ <;> exact List.mem_cons_self
  | s0 :: ρ, x :: σ, i + 1, s, a, h, e, z => adr_cons (adr_at (ρ := ρ) (σ := σ) (i := i) (by simpa using h) (by simpa using e) z)
def reSl (s : Slot) (m' : MO) : Slot := match s with
  | .ow _ => .ow m'
  | .rf k _ => .rf k m'
  | s => s
theorem adr_re : ∀ {ρ : Ro} {σ : St} {i : Nat} {s : Slot} {m' : MO}, ρ[i]? = some s → adr (ρ.set i (reSl s m')) σ = adr ρ σ ∧ owa (ρ.set i (reSl s m')) σ = owa ρ σ
  | [], σ, i, s, m', h => by simp at h
  | s0 :: ρ, [], i, s, m', h => by
    cases i with
    | zero => simp at h; subst h; cases s0 <;> exact ⟨rfl, rfl⟩
    | succ i => cases s0 <;> exact ⟨rfl, rfl⟩
  | s0 :: ρ, x :: σ, 0, s, m', h => by
    simp at h; subst h
    cases s0 with
    | un => exact ⟨rfl, rfl⟩
    | fz p => exact ⟨rfl, rfl⟩
    | ow m => cases x with
      | none => exact ⟨rfl, rfl⟩
      | some v => cases v <;> exact ⟨rfl, rfl⟩
    | rf k m => cases x with
      | none => exact ⟨rfl, rfl⟩
      | some v => cases v <;> exact ⟨rfl, rfl⟩
  | s0 :: ρ, x :: σ, i + 1, s, m', h => by
    have ih := adr_re (ρ := ρ) (σ := σ) (i := i) (m' := m') (s := s) (by simpa using h)
    show adr (s0 :: ρ.set i (reSl s m')) (x :: σ) = adr (s0 :: ρ) (x :: σ) ∧ owa (s0 :: ρ.set i (reSl s m')) (x :: σ) = owa (s0 :: ρ) (x :: σ)
    cases s0 with
    | un => exact ih
    | fz p => exact ih
    | ow m => cases x with
      | none => exact ih
      | some v => cases v <;> first | exact ih | exact ⟨congrArg (_ :: ·) ih.1, congrArg (_ :: ·) ih.2⟩
    | rf k m => cases x with
      | none => exact ih
      | some v => cases v <;> first | exact ih | exact ⟨congrArg (_ :: ·) ih.1, ih.2⟩
theorem nodup_at : ∀ {ρ : Ro} {σ : St} {i j : Nat} {s s' : Slot} {a : Addr}, (adr ρ σ).Nodup → ρ[i]? = some s → ρ[j]? = some s' → σ[i]? = some (some (.ref a)) → σ[j]? = some (some (.ref a)) → (∃ mo, s = .ow mo) ∨ (∃ k mo, s = .rf k mo) → (∃ mo, s' = .ow mo) ∨ (∃ k mo, s' = .rf k mo) → i = j
  | [], σ, i, j, s, s', a, _, h, _, _, _, _, _ => by simp at h
  | s0 :: ρ, [], i, j, s, s', a, _, _, _, e, _, _, _ => by simp at e
  | s0 :: ρ, x :: σ, 0, 0, s, s', a, _, _, _, _, _, _, _ => rfl
  | s0 :: ρ, x :: σ, 0, j + 1, s, s', a, nd, h, h', e, e', z, z' => by
    simp at h e
    subst h; subst e
    have q := adr_at (ρ := ρ) (σ := σ) (i := j) (by simpa using h') (by simpa using e') z'
    rcases z with ⟨mo, rfl⟩ | ⟨k, mo, rfl⟩ <;> exact absurd q (List.nodup_cons.mp nd).1
  | s0 :: ρ, x :: σ, i + 1, 0, s, s', a, nd, h, h', e, e', z, z' => by
    simp at h' e'
    subst h'; subst e'
    have q := adr_at (ρ := ρ) (σ := σ) (i := i) (by simpa using h) (by simpa using e) z
    rcases z' with ⟨mo, rfl⟩ | ⟨k, mo, rfl⟩ <;> exact absurd q (List.nodup_cons.mp nd).1
  | s0 :: ρ, x :: σ, i + 1, j + 1, s, s', a, nd, h, h', e, e', z, z' => by
    refine congrArg (· + 1) (nodup_at (ρ := ρ) (σ := σ) ?_ (by simpa using h) (by simpa using h') (by simpa using e) (by simpa using e') z z')
    cases s0 with
    | un => exact nd
    | fz p => exact nd
    | ow m => cases x with
      | none => exact nd
      | some v => cases v <;> first | exact nd | exact (List.nodup_cons.mp nd).2
    | rf k m => cases x with
      | none => exact nd
      | some v => cases v <;> first | exact nd | exact (List.nodup_cons.mp nd).2
theorem Rel.putH (R : Rel K cl O bs ρ σ H) {i : Nat} {s : Slot} {mo m' : MO} {a : Addr} {H2 : Hp} (hk : ∀ x o, x ≠ a → H x = some o → H2 x = some o) (hg : ∃ o, H2 a = some o) (hi : ρ[i]? = some s) (hs : s = .ow mo ∨ ∃ k, s = .rf k mo) (ha : σ[i]? = some (some (.ref a)))
    (h : MoIs K cl (frz H2 (O ++ adr ρ σ)) H2 a m') : Rel K cl O bs (ρ.set i (reSl s m')) σ H2 ∧ Gr (adr ρ σ) H (adr (ρ.set i (reSl s m')) σ) H2 := by
  have hz : (∃ mo, s = .ow mo) ∨ (∃ k mo, s = .rf k mo) := hs.imp (fun e => ⟨_, e⟩) fun ⟨k, e⟩ => ⟨k, _, e⟩
  have ma := adr_at hi ha hz
  obtain ⟨e1, e2⟩ := adr_re (σ := σ) (m' := m') hi
  have keep : ∀ x u, x ∉ adr ρ σ → H x = some u → H2 x = some u := fun x u n e => hk x u (fun z => n (by rw [z]; exact ma)) e
  have sF : Sub (frz H (O ++ adr ρ σ)) (frz H2 (O ++ adr ρ σ)) := fun x u e => by
    obtain ⟨n, e⟩ := frz_some.mp e
    exact frz_some.mpr ⟨n, keep x u (fun z => n (List.mem_append_right _ z)) e⟩
  refine ⟨⟨?_, by rw [e1]; exact R.nd, fun b hb => ?_, by rw [e2]; exact R.ow⟩, by rw [e1]; exact ⟨keep, fun x hx => .inl hx⟩⟩
  · rw [e1]
    -- each slot: i has the new content, the others stand
    have go : ∀ (ρ0 : Ro) (σ0 : St) (i0 : Nat), RelS K cl bs (frz H (O ++ adr ρ σ)) H ρ0 σ0 → (∀ j, ρ0[j]? = ρ[i0 + j]? ∧ σ0[j]? = σ[i0 + j]?) → i0 ≤ i → RelS K cl bs (frz H2 (O ++ adr ρ σ)) H2 (ρ0.set (i - i0) (reSl s m')) σ0 := by
      intro ρ0
      induction ρ0 with
      | nil => intro σ0 i0 r _ _; cases r; exact .nil
      | cons s0 ρ0 ih =>
        intro σ0 i0 r hj hle
        cases r with
        | @cons _ x _ σ0 b r =>
          by_cases c : i0 = i
          · subst c
            rw [Nat.sub_self]
            have h0 := hj 0
            rw [Nat.add_zero, hi, ha] at h0
            simp at h0
            obtain ⟨rfl, rfl⟩ := h0
            refine .cons ?_ ?_
            · rcases hs with rfl | ⟨k, rfl⟩
              · exact ⟨a, rfl, h⟩
              · obtain ⟨a', e, hk, _⟩ := b
                cases e
                exact ⟨a, rfl, hk, h⟩
            · -- the rest of the slots have other addresses
              have far : ∀ (ρ1 : Ro) (σ1 : St) (j0 : Nat), RelS K cl bs (frz H (O ++ adr ρ σ)) H ρ1 σ1 → (∀ j, ρ1[j]? = ρ[j0 + j]? ∧ σ1[j]? = σ[j0 + j]?) → i0 < j0 → RelS K cl bs (frz H2 (O ++ adr ρ σ)) H2 ρ1 σ1 := by
                intro ρ1
                induction ρ1 with
                | nil => intro σ1 j0 r _ _; cases r; exact .nil
                | cons s1 ρ1 ih1 =>
                  intro σ1 j0 r hj1 hlt
                  cases r with
                  | @cons _ x1 _ σ1 b1 r1 =>
                    refine .cons (b1.mono sF fun a1 o1 z1 e1 => ?_) (ih1 σ1 (j0 + 1) r1 (fun j => ?_) (by omega))
                    · have h1 := hj1 0
                      rw [Nat.add_zero] at h1
                      simp at h1
                      refine hk _ _ (fun z => ?_) e1
                      · subst z
                        have hz1 : (∃ mo, s1 = .ow mo) ∨ (∃ k mo, s1 = .rf k mo) := by
                          obtain ⟨_, n1, n2⟩ := z1
                          cases s1 with
                          | un => exact absurd rfl n1
                          | fz p => exact absurd rfl (n2 p)
                          | ow m => exact .inl ⟨m, rfl⟩
                          | rf k m => exact .inr ⟨k, m, rfl⟩
                        have := nodup_at R.nd hi h1.1.symm ha (by rw [← h1.2, z1.1]) hz hz1
                        omega
                    · have := hj1 (j + 1)
                      rw [show j0 + 1 + j = j0 + (j + 1) by omega]
                      simpa using this
              refine far ρ0 σ0 (i0 + 1) r (fun j => ?_) (by omega)
              have := hj (j + 1)
              rw [show i0 + 1 + j = i0 + (j + 1) by omega]
              simpa using this
          · rw [show i - i0 = (i - (i0 + 1)) + 1 by omega]
            refine .cons (b.mono sF fun a1 o1 z1 e1 => ?_) (ih σ0 (i0 + 1) r (fun j => ?_) (by omega))
            · have h1 := hj 0
              rw [Nat.add_zero] at h1
              simp at h1
              refine hk _ _ (fun z => ?_) e1
              · subst z
                have hz1 : (∃ mo, s0 = .ow mo) ∨ (∃ k mo, s0 = .rf k mo) := by
                  obtain ⟨_, n1, n2⟩ := z1
                  cases s0 with
                  | un => exact absurd rfl n1
                  | fz p => exact absurd rfl (n2 p)
                  | ow m => exact .inl ⟨m, rfl⟩
                  | rf k m => exact .inr ⟨k, m, rfl⟩
                exact c (nodup_at R.nd hi h1.1.symm ha (by rw [← h1.2, z1.1]) hz hz1).symm
            · have := hj (j + 1)
              rw [show i0 + 1 + j = i0 + (j + 1) by omega]
              simpa using this
    have := go ρ σ 0 R.sl (fun j => by rw [Nat.zero_add]; exact ⟨rfl, rfl⟩) (Nat.zero_le _)
    rwa [Nat.sub_zero] at this
  · obtain ⟨u, e⟩ := R.al b hb
    by_cases c : b = a
    · rw [c]; exact hg
    · exact ⟨u, hk _ _ c e⟩
theorem Rel.put (R : Rel K cl O bs ρ σ H) {i : Nat} {s : Slot} {mo m' : MO} {a : Addr} {o : HO} (hi : ρ[i]? = some s) (hs : s = .ow mo ∨ ∃ k, s = .rf k mo) (ha : σ[i]? = some (some (.ref a)))
    (h : MoIs K cl (frz H (O ++ adr ρ σ)) (upd H a o) a m') : Rel K cl O bs (ρ.set i (reSl s m')) σ (upd H a o) ∧ Gr (adr ρ σ) H (adr (ρ.set i (reSl s m')) σ) (upd H a o) := by
  have ma := adr_at hi ha (hs.imp (fun e => ⟨_, e⟩) fun ⟨k, e⟩ => ⟨k, _, e⟩)
  refine R.putH (fun x u n e => by rw [upd_ne n]; exact e) ⟨o, upd_same⟩ hi hs ha (h.mono (fun x u e => ?_) fun _ e => e)
  obtain ⟨n, e⟩ := frz_some.mp e
  exact frz_some.mpr ⟨n, by rw [upd_ne fun z => n (List.mem_append_right _ (by rw [z]; exact ma))]; exact e⟩
end
section
variable (K : PySem.W.Frag) (cl : Str → Option Addr)
def TgtE (g : TG) (vs : List Nat) (ρ : Ro) {α : Type} (d : PV → Res α) (ρe : α → Ro) : Prop := ∀ (x : PV) (O bs : List Addr) (σ : St) (H : Hp) (v : V) (Q : St → Hp → Prop) (E : Str → Prop), Rel K cl O bs ρ (wipe σ vs) H → Is K cl (frz H (O ++ adr ρ (wipe σ vs))) v x →
  wp (d x) (fun a => ∀ σ2, Rel K cl O bs (ρe a) σ2 H → adr (ρe a) σ2 = adr ρ (wipe σ vs) → (vs ≠ [] → wipe σ2 vs = wipe σ vs) → Q σ2 H) E → g v (wipe σ vs) H Q
def ItOk (P : Hp → Prop) (F : Hp) (J : It) (ps : List PV) : Prop := ∀ (H : Hp) (B : List Addr), P H → Sub F (frz H B) → (∀ a, a ∈ B → ∃ o, H a = some o) → J.stop ps.length H ∧
  ∀ i p, ps[i]? = some p → J.go i H ∧ ∀ x H', J.yld i H x H' → Sub H H' ∧ Is K cl (frz H' B) x p
def Iter (W : WX) (wi : TI) (ρ : Ro) (mi : Res (List PV)) : Prop := ∀ (O bs : List Addr) (σ : St) (H : Hp) (R : It → Hp → Prop), Rel K cl O bs ρ σ H →
  wp mi (fun ps => ∀ J H', Sub H H' → ItOk K cl (fun _ => True) (frz H' (O ++ adr ρ σ)) J ps → R J H') (XW cl W σ H) → wi σ H R
def IterV (W : WX) (wi : TI) (ρ : Ro) (mi : Res (List PV)) : Prop := ∀ (O bs : List Addr) (σ : St) (H : Hp) (R : It → Hp → Prop), Rel K cl O bs ρ σ H →
  wp mi (fun ps => ∀ J H', Sub H H' → ItOk K cl (Sub H') (frz H' (O ++ adr ρ σ)) J ps → R J H') (XW cl W σ H) → wi σ H R
end
section
variable {K : PySem.W.Frag} {cl : Str → Option Addr} {W : WX} {bs O A A1 : List Addr} {F H H' H1 : Hp} {ρ ρ' ρx : Ro} {σ : St} {S S1 L : Type} {ρn : S → Ro} {ρj : S1 → Ro} {ρl : L → Ro} {D : Ends} {t u v tb : TS} {te ta tc : TE} {m ma mb : Res PV} {tr : TA} {ml : Res (List PV)} {md : Res (List (Key × PV))}
theorem wipe_get : ∀ {vs : List Nat} {σ : St} {k : Nat}, (wipe σ vs)[k]? = if k ∈ vs then σ[k]?.map (fun _ => none) else σ[k]?
  | [], σ, k => by simp [wipe]
  | v :: vs, σ, k => by
    show ((wipe σ vs).set v none)[k]? = _
    by_cases c : v = k
    · subst c
      rw [List.getElem?_set_self']
      rw [if_pos List.mem_cons_self, wipe_get]
      by_cases d : v ∈ vs
      · rw [if_pos d]
        cases σ[v]? <;> rfl
      · rw [if_neg d]
        cases σ[v]? <;> rfl
    · rw [List.getElem?_set_ne c, wipe_get]
      by_cases d : k ∈ vs
      · rw [if_pos d, if_pos (List.mem_cons_of_mem _ d)]
      · rw [if_neg d, if_neg (fun z => (List.mem_cons.mp z).elim (fun e => c e.symm) d)]
theorem wipe_set {vs : List Nat} {σ τ : St} {i : Nat} {x : Option V} (hi : i ∈ vs) (h : wipe τ vs = wipe σ vs) : wipe (τ.set i x) vs = wipe σ vs := by
  rw [← h]
  refine List.ext_getElem? fun k => ?_
  rw [wipe_get, wipe_get]
  by_cases c : k ∈ vs
  · rw [if_pos c, if_pos c]
    by_cases e : i = k
    · subst e
      rw [List.getElem?_set_self']
      cases τ[i]? <;> rfl
    · rw [List.getElem?_set_ne e]
  · rw [if_neg c, if_neg c, List.getElem?_set_ne fun z => c (by rw [← z]; exact hi)]
theorem wipe_wipe {vs : List Nat} {σ : St} : wipe (wipe σ vs) vs = wipe σ vs := by
  refine List.ext_getElem? fun k => ?_
  rw [wipe_get, wipe_get]
  by_cases c : k ∈ vs
  · rw [if_pos c, if_pos c]
    cases σ[k]? <;> rfl
  · rw [if_neg c, if_neg c]
theorem tg_name {i : Nat} {vs : List Nat} (hn : nad ρ i = true) (hv : vs = [] ∨ i ∈ vs) : TgtE K cl (gName i) vs ρ (fun x => .val x) (fun x => ρ.set i (.fz x)) := fun x O bs σ H v Q E R ix q => by
  refine q _ (R.setfz hn ix) (adr_setn hn) fun ne => ?_
  rcases hv with rfl | hv
  · exact absurd rfl ne
  · exact wipe_set hv wipe_wipe
def un2 : PV → Res (PV × PV)
  | .tup [a, b] => .val (a, b)
  | _ => .stuck
theorem nad_set : ∀ {ρ : Ro} {i j : Nat} {p : PV}, nad ρ j = true → nad (ρ.set i (.fz p)) j = true
  | [], i, j, p, h => by cases h
  | s :: ρ, 0, 0, p, h => rfl
  | s :: ρ, 0, j + 1, p, h => by cases s <;> exact h
  | s :: ρ, i + 1, 0, p, h => by cases s <;> exact h
  | s :: ρ, i + 1, j + 1, p, h => by
    show nad (s :: ρ.set i (.fz p)) (j + 1) = true
    cases s <;> exact nad_set (ρ := ρ) h
theorem tg_2 {i j : Nat} {vs : List Nat} (hi : nad ρ i = true) (hj : nad ρ j = true) (hv : vs = [] ∨ (i ∈ vs ∧ j ∈ vs)) : TgtE K cl (gTup K 2 (gCons (gName i) (gCons (gName j) gNil))) vs ρ un2 (fun x => (ρ.set i (.fz x.1)).set j (.fz x.2)) := fun x O bs σ H v Q E R ix q => by
  unfold un2 at q
  split at q
  · cases ix with
    | tup h l =>
    cases l with
    | cons a l =>
    cases l with
    | cons b l =>
    cases l
    refine ⟨_, _, rfl, frz_sub.sqT h, rfl, _, _, rfl, _, _, rfl, rfl, ?_⟩
    have R1 := R.setfz hi a
    have e1 := adr_setn (σ := wipe σ vs) (p := ‹PV›) (x := some ‹V›) hi
    refine q _ (Rel.setfz (R.setfz hi a) (nad_set hj) (by rw [adr_setn hi]; exact b)) ?_ fun ne => ?_
    · rw [adr_setn (nad_set hj), adr_setn hi]
    · rcases hv with rfl | ⟨h1, h2⟩
      · exact absurd rfl ne
      · exact wipe_set h2 (wipe_set h1 wipe_wipe)
  · exact q.elim
def forF {S L : Type} (body : PV → S → Res (Fl S S)) : List PV → S → Res (Fl S L)
  | [], s => .val (.nx s)
  | x :: xs, s => body x s >>= fun f => match f with
    | .nx s' => forF body xs s'
    | .ct s' => forF body xs s'
    | .bk s' => .val (.nx s')
    | .rt v r => .val (.rt v r)
    | .ro mo r => .val (.ro mo r)
theorem run_for {wi : TI} {g : TG} {mi : Res (List PV)} {α : Type} {d : PV → Res α} {ρs : S → Ro} {ρe : S → α → Ro} {s0 : S} {body : α → S → Res (Fl S S)} (hi : Iter K cl W wi ρ mi) (w0 : Wk ρ (ρs s0)) (w : Wk ρ ρx) (hg : ∀ s, TgtE K cl g [] (ρs s) d (ρe s))
    (hb : ∀ a s, Runs K cl W tb (ρe s a) (body a s) ρs ρs ρx) : Runs K cl W (tFor wi g tb) ρ (mi >>= fun ps => forF (fun x s => d x >>= fun a => body a s) ps s0) ρs ρl ρx := fun O bs σ H D R hbs q => by
  refine hi O bs σ H _ R (wp_mono (wp_bind.mp q) (fun ps qp J H1 s1 hJ => ?_) fun _ z => z.xw R w)
  have R1 := R.same s1
  have g1 : Gr (adr ρ σ) H (adr (ρs s0) σ) H1 := (Gr.of s1).trans (Gr.wk w0)
  refine ⟨fun i mm σ' H' => mm = ps.length - i ∧ i ≤ ps.length ∧ ∃ s, Rel K cl O bs (ρs s) σ' H' ∧ Gr (adr ρ σ) H (adr (ρs s) σ') H' ∧ Sub (frz H1 (O ++ adr ρ σ)) (frz H' (O ++ adr (ρs s) σ')) ∧
      wp (forF (L := L) (fun x s => d x >>= fun a => body a s) (ps.drop i) s) (FlOk K cl O bs ρs ρl D (adr ρ σ) H) (ExOk K cl W O bs ρx (adr ρ σ) H),
    ⟨_, rfl, Nat.zero_le _, s0, R1.wk w0, g1, Gr.sub (Gr.wk w0) R1.al, by rw [List.drop_zero]; exact qp⟩, ?_⟩
  rintro i mm σ' H' ⟨rfl, hle, s, R', g', sF, qw⟩
  obtain ⟨hs, hg'⟩ := hJ H' _ trivial sF (fun a ha => R'.got ha)
  by_cases c : i = ps.length
  · subst c
    rw [List.drop_length] at qw
    exact .inl ⟨hs, qw σ' H' g' R'⟩
  · have hlt : i < ps.length := by omega
    obtain ⟨hgo, hy⟩ := hg' i _ (List.getElem?_eq_getElem hlt)
    rw [List.drop_eq_getElem_cons hlt] at qw
    refine .inr ⟨hgo, fun σ2 H2 => ∃ s', Rel K cl O bs (ρs s') σ2 H2 ∧ Gr (adr ρ σ) H (adr (ρs s') σ2) H2 ∧ Sub (frz H1 (O ++ adr ρ σ)) (frz H2 (O ++ adr (ρs s') σ2)) ∧ wp (forF (L := L) (fun x s => d x >>= fun a => body a s) (ps.drop (i + 1)) s') (FlOk K cl O bs ρs ρl D (adr ρ σ) H) (ExOk K cl W O bs ρx (adr ρ σ) H),
      fun σ2 H2 ⟨s', z⟩ => ⟨_, by omega, rfl, by omega, s', z⟩, fun x H2 hyx => ?_⟩
    obtain ⟨s2, ix⟩ := hy x H2 hyx
    have R2 := R'.same s2
    have qw := wp_bind.mp (wp_bind.mp qw)
    refine hg s ps[i] O bs σ' H2 x _ _ R2 ix (wp_mono qw (fun a qa σ3 R3 e3 _ => ?_) fun _ z => z)
    have g3 : Gr (adr ρ σ) H (adr (ρe s a) σ3) H2 := by rw [e3]; exact g'.trans (Gr.of s2)
    have sF3 : Sub (frz H1 (O ++ adr ρ σ)) (frz H2 (O ++ adr (ρe s a) σ3)) := by rw [e3]; exact sF.trans (frz_same s2)
    refine hb a s O bs σ3 H2 _ R3 hbs (wp_mono qa (fun f qf => ?_) fun _ z => z.step g3)
    cases f with
    | nx s' => exact fun σ4 H4 g4 R4 => ⟨s', R4, g3.trans g4, sF3.trans (g4.sub R3.al), qf⟩
    | ct s' => exact fun σ4 H4 g4 R4 => ⟨s', R4, g3.trans g4, sF3.trans (g4.sub R3.al), qf⟩
    | bk s' => exact fun σ4 H4 g4 R4 => qf σ4 H4 (g3.trans g4) R4
    | rt v r => exact FlOk.step (f := Fl.rt v r) qf g3
    | ro mo r => exact FlOk.step (f := Fl.ro mo r) qf g3
def noX {α : Type} : Res α → Res α
  | .val a => .val a
  | _ => .stuck
theorem wp_noX {α : Type} {mm : Res α} {Q : α → Prop} {E E' : Str → Prop} (h : wp (noX mm) Q E) : wp mm Q E' := by
  cases mm with
  | val a => exact h
  | exc c => exact h.elim
  | stuck => exact h.elim
def lcF {α : Type} (d : PV → Res α) (c : α → Res Bool) (e : α → Res PV) : List PV → Res (List PV)
  | [] => .val []
  | x :: xs => noX (d x) >>= fun a => noX (c a) >>= fun b => if b = true then noX (e a) >>= fun y => lcF d c e xs >>= fun ys => .val (y :: ys) else lcF d c e xs
def nads (ρ : Ro) (vs : List Nat) : Bool := vs.all fun i => nad ρ i
def wipeR (ρ : Ro) : List Nat → Ro
  | [] => ρ
  | v :: vs => (wipeR ρ vs).set v .un
theorem RelS.setun {F : Hp} (r : RelS K cl bs F H ρ σ) {i : Nat} {x : Option V} : RelS K cl bs F H (ρ.set i .un) (σ.set i x) := r.set trivial
theorem adr_wipe1 : ∀ {ρ : Ro} {σ : St} {i : Nat} {x : Option V}, nad ρ i = true → adr (ρ.set i .un) (σ.set i x) = adr ρ σ ∧ owa (ρ.set i .un) (σ.set i x) = owa ρ σ
  | [], σ, i, x, h => by cases h
  | s :: ρ, [], i, x, h => by
    cases i with
    | zero => cases s <;> exact ⟨rfl, rfl⟩
    | succ i => cases s <;> exact ⟨rfl, rfl⟩
  | s :: ρ, y :: σ, 0, x, h => by cases s <;> first | exact ⟨rfl, rfl⟩ | cases h
  | s :: ρ, y :: σ, i + 1, x, h => by
    have ih := adr_wipe1 (ρ := ρ) (σ := σ) (i := i) (x := x) (by cases s <;> exact h)
    show adr (s :: ρ.set i .un) (y :: σ.set i x) = adr (s :: ρ) (y :: σ) ∧ owa (s :: ρ.set i .un) (y :: σ.set i x) = owa (s :: ρ) (y :: σ)
    cases s with
    | un => exact ih
    | fz q => exact ih
    | ow m => cases y with
      | none => exact ih
      | some v => cases v <;> first | exact ih | exact ⟨congrArg (_ :: ·) ih.1, congrArg (_ :: ·) ih.2⟩
    | rf k m => cases y with
      | none => exact ih
      | some v => cases v <;> first | exact ih | exact ⟨congrArg (_ :: ·) ih.1, ih.2⟩
theorem nad_setu : ∀ {ρ : Ro} {i j : Nat}, nad ρ j = true → nad (ρ.set i .un) j = true
  | [], i, j, h => by cases h
  | s :: ρ, 0, 0, h => rfl
  | s :: ρ, 0, j + 1, h => by cases s <;> exact h
  | s :: ρ, i + 1, 0, h => by cases s <;> exact h
  | s :: ρ, i + 1, j + 1, h => by
    show nad (s :: ρ.set i .un) (j + 1) = true
    cases s <;> exact nad_setu (ρ := ρ) h
theorem nad_wipe {j : Nat} (h : nad ρ j = true) : ∀ vs : List Nat, nad (wipeR ρ vs) j = true
  | [] => h
  | _ :: vs => nad_setu (nad_wipe h vs)
theorem Rel.wipe (R : Rel K cl O bs ρ σ H) : ∀ {vs : List Nat}, nads ρ vs = true → Rel K cl O bs (wipeR ρ vs) (wipe σ vs) H ∧ adr (wipeR ρ vs) (wipe σ vs) = adr ρ σ
  | [], _ => ⟨R, rfl⟩
  | v :: vs, h => by
    have h' := Bool.and_eq_true_iff.mp (show (nad ρ v && nads ρ vs) = true from h)
    obtain ⟨R', e⟩ := R.wipe h'.2
    obtain ⟨e1, e2⟩ := adr_wipe1 (σ := L2.wipe σ vs) (x := none) (nad_wipe h'.1 vs)
    refine ⟨⟨?_, ?_, R'.al, ?_⟩, e1.trans e⟩
    · show RelS K cl bs (frz H (O ++ adr ((wipeR ρ vs).set v .un) ((L2.wipe σ vs).set v none))) H _ _
      rw [e1]
      exact R'.sl.setun
    · show (adr ((wipeR ρ vs).set v .un) ((L2.wipe σ vs).set v none)).Nodup
      rw [e1]; exact R'.nd
    · show ∀ a, a ∈ owa ((wipeR ρ vs).set v .un) ((L2.wipe σ vs).set v none) → a ∉ O
      rw [e2]; exact R'.ow
theorem Rel.wider (R : Rel K cl O bs ρ σ H) {a : Addr} {o : HO} (ha : H a = none) : Rel K cl (a :: O) bs ρ σ (upd H a o) := by
  have nA : ∀ b, b ∈ O ++ adr ρ σ → b ≠ a := fun b hb z => by
    obtain ⟨u, e⟩ := R.got hb
    rw [z, ha] at e; cases e
  refine ⟨R.sl.mono (fun x u e => ?_) fun b u hb e => by rw [upd_ne (nA b (List.mem_append_right _ hb))]; exact e, R.nd, fun b hb => ?_, fun b hb => ?_⟩
  · obtain ⟨n, e⟩ := frz_some.mp e
    have ne : x ≠ a := ne_of_none e ha
    refine frz_some.mpr ⟨fun z => ?_, by rw [upd_ne ne]; exact e⟩
    rcases List.mem_cons.mp (show x ∈ a :: (O ++ adr ρ σ) from z) with c | c
    · exact ne c
    · exact n c
  · rcases List.mem_cons.mp hb with c | c
    · rw [c]; exact ⟨o, upd_same⟩
    · obtain ⟨u, e⟩ := R.al b c
      exact ⟨u, by rw [upd_ne (nA b (List.mem_append_left _ c))]; exact e⟩
  · intro z
    rcases List.mem_cons.mp z with c | c
    · exact nA b (List.mem_append_right _ (owa_sub hb)) c
    · exact R.ow b hb c
theorem Rel.putO (R : Rel K cl O bs ρ σ H) {a : Addr} {o : HO} (ha : a ∈ O) (hn : a ∉ adr ρ σ) : Rel K cl O bs ρ σ (upd H a o) := by
  refine ⟨R.sl.mono (fun x u e => ?_) fun b u hb e => by rw [upd_ne fun z => hn (by rw [← z]; exact hb)]; exact e, R.nd, fun b hb => ?_, R.ow⟩
  · obtain ⟨n, e⟩ := frz_some.mp e
    exact frz_some.mpr ⟨n, by rw [upd_ne fun z => n (by rw [z]; exact List.mem_append_left _ ha)]; exact e⟩
  · by_cases c : b = a
    · rw [c]; exact ⟨o, upd_same⟩
    · obtain ⟨u, e⟩ := R.al b hb
      exact ⟨u, by rw [upd_ne c]; exact e⟩
theorem nw_lc {wi : TI} {g : TG} {tt : TT} {vs : List Nat} {mi : Res (List PV)} {α : Type} {d : PV → Res α} {ρe : α → Ro} {mc : α → Res Bool} {me : α → Res PV} (hi : IterV K cl W wi ρ mi) (hv : nads ρ vs = true) (hne : vs ≠ []) (hg : TgtE K cl g vs (wipeR ρ vs) d ρe)
    (ht : ∀ a, Tst K cl (fun _ _ _ _ => False) tt (ρe a) (mc a)) (he : ∀ a, Pur K cl (fun _ _ _ _ => False) te (ρe a) (me a)) : New K cl W (tLc wi g tt te vs) ρ (mi >>= fun ps => sized ps.length >>= fun _ => lcF d mc me ps) := fun O bs σ H Q R q => by
  refine hi O bs σ H _ R (wp_mono (wp_bind.mp q) (fun ps qp J H1 s1 hJ => ?_) fun _ z => z)
  obtain ⟨hz, qp⟩ := wp_sized (wp_bind.mp qp)
  intro Da hD
  have R1 := R.same s1
  have hD0 : H Da = none := none_back s1 hD
  obtain ⟨Rw, ew⟩ := R1.wipe hv
  have Rw0 := Rw.wider (o := .lst []) hD
  have nDA : Da ∉ O ++ adr ρ σ := fun z => by
    obtain ⟨u, e⟩ := R1.got z
    rw [hD] at e; cases e
  refine ⟨fun i mm H2 => mm = ps.length - i ∧ i ≤ ps.length ∧ Sub H1 H2 ∧ Rel K cl (Da :: O) bs (wipeR ρ vs) (wipe σ vs) H2 ∧ ∃ acc qs, H2 Da = some (.lst acc) ∧ acc.length ≤ i ∧ IsL K cl (frz H2 (Da :: (O ++ adr ρ σ))) acc qs ∧
      wp (lcF d mc me (ps.drop i)) (fun ys => ∀ p ws H', Sub H H' → H p = none → H' p = some (.lst ws) → IsL K cl (frz H' (p :: (O ++ adr ρ σ))) ws (qs ++ ys) → Q (.ref p) H') (XW cl W σ H),
    ⟨_, rfl, Nat.zero_le _, sub_new hD _, Rw0, [], [], upd_same, Nat.le_refl _, .nil, by rw [List.drop_zero]; exact qp⟩, ?_⟩
  rintro i mm H2 ⟨rfl, hle, s2, R2, acc, qs, ha, hal, hl, qw⟩
  have sF : Sub (frz H1 (O ++ adr ρ σ)) (frz H2 (Da :: (O ++ adr ρ σ))) := fun x u e => by
    obtain ⟨n, e⟩ := frz_some.mp e
    refine frz_some.mpr ⟨fun z => ?_, s2 _ _ e⟩
    rcases List.mem_cons.mp z with c | c
    · rw [c, hD] at e; cases e
    · exact n c
  have gotB : ∀ a, a ∈ Da :: (O ++ adr ρ σ) → ∃ o, H2 a = some o := fun a z => R2.got (by rw [ew]; exact z)
  obtain ⟨hs, hgo⟩ := hJ H2 _ s2 sF gotB
  by_cases c : i = ps.length
  · subst c
    rw [List.drop_length] at qw
    have := qw Da acc H2 (s1.trans s2) hD0 ha (by rw [List.append_nil]; exact hl)
    exact .inl ⟨hs, this⟩
  · have hlt : i < ps.length := by omega
    obtain ⟨hgi, hy⟩ := hgo i _ (List.getElem?_eq_getElem hlt)
    rw [List.drop_eq_getElem_cons hlt] at qw
    refine .inr ⟨hgi, fun H3 => Sub H1 H3 ∧ Rel K cl (Da :: O) bs (wipeR ρ vs) (wipe σ vs) H3 ∧ ∃ acc qs, H3 Da = some (.lst acc) ∧ acc.length ≤ i + 1 ∧ IsL K cl (frz H3 (Da :: (O ++ adr ρ σ))) acc qs ∧
      wp (lcF d mc me (ps.drop (i + 1))) (fun ys => ∀ p ws H', Sub H H' → H p = none → H' p = some (.lst ws) → IsL K cl (frz H' (p :: (O ++ adr ρ σ))) ws (qs ++ ys) → Q (.ref p) H') (XW cl W σ H),
      fun H3 z => ⟨_, by omega, rfl, by omega, z⟩, fun x H3 hyx => ?_⟩
    obtain ⟨s3, ix⟩ := hy x H3 hyx
    have R3 := R2.same s3
    have qw := wp_bind.mp qw
    refine hg ps[i] (Da :: O) bs σ H3 x _ _ R3 (by rw [ew]; exact ix) (wp_mono (wp_noX (E' := fun _ => False) qw) (fun a qa σ4 R4 e4 w4 => ?_) fun _ z => z)
    refine ⟨w4 hne, ht a (Da :: O) bs σ4 H3 _ R4 (wp_mono (wp_noX (E' := fun _ => False) (wp_bind.mp qa)) (fun b qb H5 s5 => ?_) fun _ z => z.elim)⟩
    have R5 := R3.same s5
    have ha5 := s5 _ _ (s3 _ _ ha)
    have s25 := s3.trans s5
    cases b with
    | false => exact ⟨s2.trans s25, R5, acc, qs, ha5, by omega, hl.mono (frz_same s25), qb⟩
    | true =>
      refine he a (Da :: O) bs σ4 H5 _ (R4.same s5) (wp_mono (wp_noX (E' := fun _ => False) (wp_bind.mp qb)) (fun y qy vy H6 s6 iy => ?_) fun _ z => z.elim)
      rw [e4, ew] at iy
      have ha6 := s6 _ _ ha5
      have keepD : ∀ x u, x ≠ Da → H6 x = some u → upd H6 Da (.lst (acc ++ [vy])) x = some u := fun x u n e => by rw [upd_ne n]; exact e
      have sD : Sub (frz H6 (Da :: (O ++ adr ρ σ))) (frz (upd H6 Da (.lst (acc ++ [vy]))) (Da :: (O ++ adr ρ σ))) := fun x u e => by
        obtain ⟨n, e⟩ := frz_some.mp e
        exact frz_some.mpr ⟨n, keepD x u (fun z => n (z ▸ List.mem_cons_self)) e⟩
      refine ⟨acc, ha6, by omega, fun x u e => keepD x u (ne_of_none e hD) (s6 _ _ (s25 _ _ (s2 _ _ e))), (R5.same s6).putO List.mem_cons_self (by rw [ew]; exact fun z => nDA (List.mem_append_right _ z)), acc ++ [vy], qs ++ [y], upd_same, by rw [List.length_append, List.length_singleton]; omega, ?_, ?_⟩
      · exact ((hl.mono (frz_same (s25.trans s6))).append (.one iy)).mono sD
      · refine wp_mono (wp_bind.mp qy) (fun ys qys p ws H' h1 h2 h3 h4 => ?_) fun _ z => z
        exact qys p ws H' h1 h2 h3 (by rw [List.append_assoc] at h4; exact h4)
theorem ts_yes : Tst K cl W tYes ρ (.val true) := fun O bs σ H Q R q => q H .refl
end
section
open PySem.Spec PyProof.Rows
set_option maxHeartbeats 1000000 in
section
variable {prog : Program} {w : World} {A : Around} {E : Value → Shared → Prop} {st : Shared}
end
end
def iSeqV (K : PySem.W.Frag) (tl : TE) : TI := fun σ H R => iList K tl σ H R ∨ iTup K tl σ H R
theorem pi_or {X : Cx} {tg e : Expr} {w1 w2 : TI} (h1 : PI X tg e w1) (h2 : PI X tg e w2) : PI X tg e (fun σ H R => w1 σ H R ∨ w2 σ H R) := ⟨fun pins s σ H R I h => h.elim (h1.run pins s σ H R I) (h2.run pins s σ H R I)⟩
theorem pi_seqV (K : PySem.W.Frag) {X : Cx} {tg l : Expr} {tl : TE} (e : X.K = K) (hl : PE X l tl) : PI X tg l (iSeqV K tl) := by
  subst e
  exact pi_or (pi_list hl) (pi_tup hl)
section
variable {K : PySem.W.Frag} {cl : Str → Option Addr} {W : WX} {bs O A A1 B : List Addr} {F H H' H1 : Hp} {ρ ρ' ρx : Ro} {σ : St} {S S1 L : Type} {ρn : S → Ro} {ρj : S1 → Ro} {ρl : L → Ro} {D : Ends} {t u v tb : TS} {te ta tc : TE} {m ma mb : Res PV} {tr : TA} {ml : Res (List PV)} {md : Res (List (Key × PV))} {P : Hp → Prop}
theorem Iter.view {wi : TI} {mi : Res (List PV)} (h : Iter K cl W wi ρ mi) : IterV K cl W wi ρ mi := fun O bs σ H R r q => h O bs σ H R r (wp_mono q (fun ps k J H' s i => k J H' s fun H2 B _ sF hB => i H2 B trivial sF hB) fun _ z => z)
theorem itOk_list {a : Addr} {vs : List V} {ps : List PV} (hP : ∀ H, P H → Sub F H → SqL K H a vs) (hl : IsL K cl F vs ps) : ItOk K cl (fun H => P H ∧ Sub F H) F (Itl K a) ps := fun H B hp sF hB => by
  have hs := hP H hp.1 hp.2
  refine ⟨⟨vs, hs, by rw [hl.len]; exact Nat.le_refl _⟩, fun i p hi => ?_⟩
  obtain ⟨v, hv, iv⟩ := hl.get hi
  refine ⟨⟨vs, v, hs, hv⟩, fun x H' hy => ?_⟩
  obtain ⟨rfl, hx⟩ := hy
  have := hx vs hs
  rw [hv] at this
  cases this
  exact ⟨.refl, iv.mono sF⟩
theorem itOk_tup {a : Addr} {vs : List V} {ps : List PV} (hP : ∀ H, P H → Sub F H → SqT K H a vs) (hl : IsL K cl F vs ps) : ItOk K cl (fun H => P H ∧ Sub F H) F (Itt K a) ps := fun H B hp sF hB => by
  have hs := hP H hp.1 hp.2
  refine ⟨⟨vs, hs, by rw [hl.len]; exact Nat.le_refl _⟩, fun i p hi => ?_⟩
  obtain ⟨v, hv, iv⟩ := hl.get hi
  refine ⟨⟨vs, v, hs, hv⟩, fun x H' hy => ?_⟩
  obtain ⟨rfl, hx⟩ := hy
  have := hx vs hs
  rw [hv] at this
  cases this
  exact ⟨.refl, iv.mono sF⟩
theorem ItOk.of {P' : Hp → Prop} {J : It} {ps : List PV} (h : ItOk K cl P F J ps) (g : ∀ H B, P' H → Sub F (frz H B) → P H) : ItOk K cl P' F J ps := fun H B hp sF hB => h H B (g H B hp sF) sF hB
theorem it_seq (he : Pur K cl W te ρ m) : Iter K cl W (iSeqV K te) ρ (m >>= asSq) := fun O bs σ H R r q => by
  have key : ∀ (v : V) (H' : Hp) (x : PV), Sub H H' → Is K cl (frz H' (O ++ adr ρ σ)) v x → wp (asSq x) (fun ps => ∀ J H', Sub H H' → ItOk K cl (fun _ => True) (frz H' (O ++ adr ρ σ)) J ps → R J H') (XW cl W σ H) →
      (∃ a vs, v = .ref a ∧ SqL K H' a vs ∧ R (Itl K a) H') ∨ (∃ a vs, v = .ref a ∧ SqT K H' a vs ∧ R (Itt K a) H') := fun v H' x s i w => by
    cases i with
    | tup h l => exact .inr ⟨_, _, rfl, frz_sub.sqT h, w _ H' s ((itOk_tup (P := fun _ => True) (fun H _ sF => sF.sqT h) l).of fun H B _ sF => ⟨trivial, sF.trans frz_sub⟩)⟩
    | lst h l => exact .inl ⟨_, _, rfl, .inl (.inl (frz_sub _ _ h)), w _ H' s ((itOk_list (P := fun _ => True) (fun H _ sF => .inl (.inl (sF _ _ h))) l).of fun H B _ sF => ⟨trivial, sF.trans frz_sub⟩)⟩
    | fls h l => exact .inl ⟨_, _, rfl, frz_sub.sqL h, w _ H' s ((itOk_list (P := fun _ => True) (fun H _ sF => sF.sqL h) l).of fun H B _ sF => ⟨trivial, sF.trans frz_sub⟩)⟩
    | _ => exact w.elim
  have w := wp_bind.mp q
  cases m with
  | stuck => exact w.elim
  | exc c => exact .inl (he O bs σ H _ r w)
  | val x =>
    cases x with
    | tup ps =>
      refine .inr (he O bs σ H _ r (wp_val.mpr fun v H' s i => ?_))
      rcases key v H' _ s i w with ⟨a, vs, rfl, hs, z⟩ | ⟨a, vs, rfl, hs, z⟩
      · cases i with
        | tup h l => exact ⟨a, rfl, ⟨_, frz_sub.sqT h⟩, w _ H' s ((itOk_tup (P := fun _ => True) (fun H _ sF => sF.sqT h) l).of fun H B _ sF => ⟨trivial, sF.trans frz_sub⟩)⟩
      · exact ⟨a, rfl, ⟨_, hs⟩, z⟩
    | lst ps =>
      refine .inl (he O bs σ H _ r (wp_val.mpr fun v H' s i => ?_))
      cases i with
      | lst h l => exact ⟨_, rfl, ⟨_, .inl (.inl (frz_sub _ _ h))⟩, w _ H' s ((itOk_list (P := fun _ => True) (fun H _ sF => .inl (.inl (sF _ _ h))) l).of fun H B _ sF => ⟨trivial, sF.trans frz_sub⟩)⟩
    | fls ps =>
      refine .inl (he O bs σ H _ r (wp_val.mpr fun v H' s i => ?_))
      cases i with
      | fls h l => exact ⟨_, rfl, ⟨_, frz_sub.sqL h⟩, w _ H' s ((itOk_list (P := fun _ => True) (fun H _ sF => sF.sqL h) l).of fun H B _ sF => ⟨trivial, sF.trans frz_sub⟩)⟩
    | _ => exact w.elim
def rngP (lo hi : Int) : List PV := (List.range (hi - lo).toNat).map fun i => .int (lo + (i : Nat))
theorem rng_get {lo hi : Int} {i : Nat} {p : PV} (h : (rngP lo hi)[i]? = some p) : i < (hi - lo).toNat ∧ p = .int (lo + (i : Nat)) := by
  unfold rngP at h
  rw [List.getElem?_map] at h
  obtain ⟨j, e, rfl⟩ := Option.map_eq_some_iff.mp h
  obtain ⟨h1, h2⟩ := List.getElem?_eq_some_iff.mp e
  rw [List.length_range] at h1
  rw [List.getElem_range] at h2
  subst h2
  exact ⟨h1, rfl⟩
theorem rng_len {lo hi : Int} : (rngP lo hi).length = (hi - lo).toNat := by
  unfold rngP
  rw [List.length_map, List.length_range]
theorem itOk_rng {lo : Int} {n : Nat} {ps : List PV} (hl : ps.length = n) (h : ∀ i p, ps[i]? = some p → i < n ∧ p = .int (lo + (i : Nat))) : ItOk K cl P F (Itr lo n) ps := fun H B _ _ hB => by
  refine ⟨by rw [hl]; exact Nat.le_refl _, fun i p hi => ?_⟩
  obtain ⟨h1, rfl⟩ := h i p hi
  refine ⟨h1, fun x H' hy => ?_⟩
  obtain ⟨rfl, rfl⟩ := hy
  exact ⟨.refl, .int _⟩
def rng1 : PV → Res (List PV)
  | .int j => if -(2 ^ 62) ≤ j ∧ j < 2 ^ 62 then .val (rngP 0 j) else .stuck
  | _ => .stuck
theorem it_rng1 (he : Vw K cl W te ρ m) : Iter K cl W (iRng1 (tCons te tNil)) ρ (m >>= rng1) := fun O bs σ H R r q => by
  refine he O bs σ H _ r (wp_mono (wp_bind.mp q) (fun x w v H' s i => ?_) fun _ z => z)
  unfold rng1 at w
  split at w
  · next j =>
    cases isV_int i
    split at w
    · next c => exact ⟨j, rfl, c.1, c.2, w _ H' s (itOk_rng (by rw [rng_len, Int.sub_zero]) fun i p h => by have := rng_get h; rwa [Int.sub_zero] at this)⟩
    · exact w.elim
  · exact w.elim
def zipP (ps qs : List PV) : List PV := List.zipWith (fun a b => .tup [a, b]) ps qs
end
section
variable {K : PySem.W.Frag} {cl : Str → Option Addr} {W : WX} {bs O A A1 B : List Addr} {F H H' H1 : Hp} {ρ ρ' ρx : Ro} {σ : St} {S S1 L : Type} {ρn : S → Ro} {ρj : S1 → Ro} {ρl : L → Ro} {D : Ends} {t u v tb : TS} {te ta tc : TE} {m ma mb : Res PV} {tr : TA} {ml : Res (List PV)} {md : Res (List (Key × PV))} {P : Hp → Prop}
def asTu : PV → Res (List PV)
  | .tup ps => .val ps
  | _ => .stuck
theorem run_append {i : Nat} {s : Slot} {ps : List PV} {n : PV → Res (Fl S L)} (hi : ρ[i]? = some s) (hs : s = .ow (.lst ps) ∨ ∃ k, s = .rf k (.lst ps)) (he : Pur K cl W te ρ m) (w : Wk ρ ρx) (h : ∀ x, Runs K cl W u (ρ.set i (reSl s (.lst (ps ++ [x])))) (n x) ρn ρl ρx) :
    Runs K cl W (tSeq (tDrop (tBM K "list" rAppend (tVar i) (tCons te tNil))) u) ρ (m >>= fun x => sized (ps.length + 1) >>= fun _ => n x) ρn ρl ρx := fun O bs σ H D R hb q => by
  have got : ∃ a vs, σ[i]? = some (some (.ref a)) ∧ H a = some (.lst vs) ∧ IsL K cl (frz H (O ++ adr ρ σ)) vs ps := by
    obtain ⟨x, e, q⟩ := R.sl.get hi
    rcases hs with rfl | ⟨k, rfl⟩
    · obtain ⟨a, rfl, vs, h1, h2⟩ := q; exact ⟨a, vs, e, h1, h2⟩
    · obtain ⟨a, rfl, _, vs, h1, h2⟩ := q; exact ⟨a, vs, e, h1, h2⟩
  obtain ⟨a, vs, ha, hv, hl⟩ := got
  refine ⟨_, ha, .inl ⟨rfl, _, .inl (.inl hv)⟩, he O bs σ H _ R (wp_mono (wp_bind.mp q) (fun x qx v H' s' ix => ?_) fun _ z => z.xw R w)⟩
  obtain ⟨hz, qx⟩ := wp_sized (wp_bind.mp qx)
  have R' := R.same s'
  have hl' := hl.mono (frz_same (A := O ++ adr ρ σ) s')
  obtain ⟨R2, g2⟩ := R'.put (m' := .lst (ps ++ [x])) (o := .lst (vs ++ [v])) hi (by rcases hs with e | ⟨k, e⟩; exact .inl e; exact .inr ⟨k, e⟩) ha ⟨_, upd_same, hl'.append (.one ix)⟩
  have g := (Gr.of (A := adr ρ σ) s').trans g2
  refine ⟨a, vs, v, rfl, rfl, s' _ _ hv, by rw [hl.len]; omega, ?_⟩
  exact h x O bs σ _ D R2 hb (wp_mono qx (fun _ z => z.step g) fun _ z => z.step g)
def setL (ps : List PV) (k x : PV) : Res (List PV) := match k with
  | .int k => match ixN ps.length k with
    | some j => .val (ps.set j x)
    | none => .stuck
  | _ => .stuck
theorem run_setitem {i : Nat} {s : Slot} {ps : List PV} {n : List PV → Res (Fl S L)} (hi : ρ[i]? = some s) (hs : s = .ow (.lst ps) ∨ ∃ k, s = .rf k (.lst ps)) (he : Pur K cl W te ρ m) (hk : Vw K cl W ta ρ ma) (w : Wk ρ ρx) (h : ∀ qs, Runs K cl W u (ρ.set i (reSl s (.lst qs))) (n qs) ρn ρl ρx) :
    Runs K cl W (tSeq (tAsg te (gSub (tVar i) ta rSetL)) u) ρ (m >>= fun x => ma >>= fun k => setL ps k x >>= n) ρn ρl ρx := fun O bs σ H D R hb q => by
  have got : ∃ a vs, σ[i]? = some (some (.ref a)) ∧ H a = some (.lst vs) ∧ IsL K cl (frz H (O ++ adr ρ σ)) vs ps := by
    obtain ⟨x, e, q⟩ := R.sl.get hi
    rcases hs with rfl | ⟨k, rfl⟩
    · obtain ⟨a, rfl, vs, h1, h2⟩ := q; exact ⟨a, vs, e, h1, h2⟩
    · obtain ⟨a, rfl, _, vs, h1, h2⟩ := q; exact ⟨a, vs, e, h1, h2⟩
  obtain ⟨a, vs, ha, hv, hl⟩ := got
  refine he O bs σ H _ R (wp_mono (wp_bind.mp q) (fun x qx v H1 s1 ix => ?_) fun _ z => z.xw R w)
  have R1 := R.same s1
  refine ⟨_, ha, hk O bs σ H1 _ R1 (wp_mono (wp_bind.mp qx) (fun k qk v2 H2 s2 ik => ?_) fun _ z => (z.step (Gr.of s1)).xw R1 w)⟩
  have R2 := R1.same s2
  have s12 := s1.trans s2
  have hl' := hl.mono (frz_same (A := O ++ adr ρ σ) s12)
  unfold setL at qk
  split at qk
  · next k =>
    cases isV_int ik
    split at qk
    · next j hj =>
      obtain ⟨R3, g3⟩ := R2.put (m' := .lst (ps.set j x)) (o := .lst (vs.set j v)) hi (by rcases hs with e | ⟨k, e⟩; exact .inl e; exact .inr ⟨k, e⟩) ha ⟨_, upd_same, IsL.set (ix.mono (frz_same s2)) j hl'⟩
      have g := (Gr.of (A := adr ρ σ) s12).trans g3
      exact ⟨a, vs, k, j, rfl, rfl, s12 _ _ hv, by rw [hl.len]; exact hj, h _ O bs σ _ D R3 hb (wp_mono qk (fun _ z => z.step g) fun _ z => z.step g)⟩
    · exact qk.elim
  · exact qk.elim
def keyP : PV → Res Key
  | .int i => .val (.inl i)
  | .str x => .val (.inr x)
  | _ => .stuck
theorem wp_key {p : PV} {v : V} {Q : Key → Prop} {E : Str → Prop} (h : wp (keyP p) Q E) (i : IsV K cl F H v p) : ∃ k, v = kV k ∧ Q k := by
  cases p with
  | int j => exact ⟨.inl j, isV_int i, h⟩
  | str x => exact ⟨.inr x, isV_str i, h⟩
  | _ => exact h.elim
theorem run_dput {i : Nat} {s : Slot} {ps : List (Key × PV)} {n : List (Key × PV) → Res (Fl S L)} (hi : ρ[i]? = some s) (hs : s = .ow (.dct ps) ∨ ∃ k, s = .rf k (.dct ps)) (he : Pur K cl W te ρ m) (hk : Vw K cl W ta ρ ma) (w : Wk ρ ρx) (h : ∀ qs, Runs K cl W u (ρ.set i (reSl s (.dct qs))) (n qs) ρn ρl ρx) :
    Runs K cl W (tSeq (sDPut (tVar i) ta te) u) ρ (m >>= fun x => ma >>= fun k => keyP k >>= fun k => sized (ps.length + 1) >>= fun _ => n (putP ps k x)) ρn ρl ρx := fun O bs σ H D R hb q => by
  have got : ∃ a vs, σ[i]? = some (some (.ref a)) ∧ H a = some (.dK vs) ∧ IsK K cl (frz H (O ++ adr ρ σ)) vs ps := by
    obtain ⟨x, e, q⟩ := R.sl.get hi
    rcases hs with rfl | ⟨k, rfl⟩
    · obtain ⟨a, rfl, vs, h1, h2⟩ := q; exact ⟨a, vs, e, h1, h2⟩
    · obtain ⟨a, rfl, _, vs, h1, h2⟩ := q; exact ⟨a, vs, e, h1, h2⟩
  obtain ⟨a, vs, ha, hv, hl⟩ := got
  refine he O bs σ H _ R (wp_mono (wp_bind.mp q) (fun x qx v H1 s1 ix => ?_) fun _ z => z.xw R w)
  have R1 := R.same s1
  refine ⟨_, ha, hk O bs σ H1 _ R1 (wp_mono (wp_bind.mp qx) (fun k qk v2 H2 s2 ik => ?_) fun _ z => (z.step (Gr.of s1)).xw R1 w)⟩
  have R2 := R1.same s2
  have s12 := s1.trans s2
  have hl' := hl.mono (frz_same (A := O ++ adr ρ σ) s12)
  obtain ⟨k, rfl, qk⟩ := wp_key (wp_bind.mp qk) ik
  obtain ⟨hz, qk⟩ := wp_sized (wp_bind.mp qk)
  obtain ⟨R3, g3⟩ := R2.put (m' := .dct (putP ps k x)) (o := .dK (putK vs k v)) hi (by rcases hs with e | ⟨k, e⟩; exact .inl e; exact .inr ⟨k, e⟩) ha ⟨_, upd_same, IsK.put (ix.mono (frz_same s2)) hl'⟩
  have g := (Gr.of (A := adr ρ σ) s12).trans g3
  exact ⟨a, _, rfl, .inl ⟨vs, k, s12 _ _ hv, rfl, by rw [hl.len]; omega, rfl⟩, h _ O bs σ _ D R3 hb (wp_mono qk (fun _ z => z.step g) fun _ z => z.step g)⟩
def dgetP (d k : PV) : Res PV := match d with
  | .dct ps => keyP k >>= fun k => match valP ps k with
    | some p => .val p
    | none => .stuck
  | _ => .stuck
theorem pu_dget (hd : Vw K cl W ta ρ ma) (hk : Vw K cl W te ρ m) : Pur K cl W (tDGet ta te) ρ (ma >>= fun d => m >>= fun k => dgetP d k) := fun O bs σ H Q R q => by
  refine hd O bs σ H _ R (wp_mono (wp_bind.mp q) (fun x qx v1 H1 s1 i1 => ?_) fun _ z => z)
  refine hk O bs σ H1 _ (R.same s1) (wp_mono (wp_bind.mp qx) (fun y qy v2 H2 s2 i2 => ?_) fun _ z => z.mono s1)
  have i1' := i1.mono (frz_same (A := O ++ adr ρ σ) s2) s2
  unfold dgetP at qy
  split at qy
  · obtain ⟨a, vs, rfl, h, l⟩ := i1'
    obtain ⟨k, rfl, qy⟩ := wp_key (wp_bind.mp qy) i2
    split at qy
    · next p e =>
      obtain ⟨v, e2, iv⟩ := l.val e
      exact ⟨a, v, rfl, .inl ⟨vs, k, .inl h, rfl, e2.symm⟩, qy v H2 (s1.trans s2) iv⟩
    · exact qy.elim
  · exact qy.elim
theorem IsK.isSome {vs : List (Key × V)} {ps : List (Key × PV)} (h : IsK K cl F vs ps) (k : Key) : (valV vs k).isSome = (valP ps k).isSome := by
  cases e : valP ps k with
  | none => rw [h.noval e]; rfl
  | some p => obtain ⟨v, e2, _⟩ := h.val e; rw [e2]; rfl
end
section
variable (K : PySem.W.Frag) (cl : Str → Option Addr)
def spP (mf : List PV → Res PV) : Sp := fun vs H Q E => ∃ O ps, (∀ a, a ∈ O → ∃ o, H a = some o) ∧ IsL K cl (frz H O) vs ps ∧
  wp (mf ps) (fun r => ∀ v H', Sub H H' → Is K cl (frz H' O) v r → Q v H') (fun c => ∀ C H', cl c = some C → Sub H H' → E (.ref C) none H')
end
def retF (M : Res (Fl Unit Empty)) : Res PV := M >>= fun f => match f with
  | .nx _ => .val .non
  | .rt v _ => .val v
  | .ro _ _ => .stuck
def ap1 (f : PV → Res PV) : List PV → Res PV
  | [a] => f a
  | _ => .stuck
def ap2 (f : PV → PV → Res PV) : List PV → Res PV
  | [a, b] => f a b
  | _ => .stuck
def ap3 (f : PV → PV → PV → Res PV) : List PV → Res PV
  | [a, b, c] => f a b c
  | _ => .stuck
def ap4 (f : PV → PV → PV → PV → Res PV) : List PV → Res PV
  | [a, b, c, d] => f a b c d
  | _ => .stuck
def ap5 (f : PV → PV → PV → PV → PV → Res PV) : List PV → Res PV
  | [a, b, c, d, e] => f a b c d e
  | _ => .stuck
def Takn (n : Nat) (mf : List PV → Res PV) : Prop := ∀ ps, ps.length ≠ n → mf ps = .stuck
theorem takn1 {f : PV → Res PV} : Takn 1 (ap1 f) := fun ps h => by
  unfold ap1; split
  · exact absurd rfl h
  · rfl
theorem takn2 {f : PV → PV → Res PV} : Takn 2 (ap2 f) := fun ps h => by
  unfold ap2; split
  · exact absurd rfl h
  · rfl
theorem takn3 {f : PV → PV → PV → Res PV} : Takn 3 (ap3 f) := fun ps h => by
  unfold ap3; split
  · exact absurd rfl h
  · rfl
section
variable {P : Program} {w : World} {K : PySem.W.Frag} {mg : Str → Option Value} {base : Heap} {cl : Str → Option Addr}
theorem fz_adr : ∀ (qs : List PV) (n : Nat) (σ : St), adr (qs.map Slot.fz ++ uns n) σ = []
  | [], 0, [] => rfl
  | [], 0, _ :: _ => rfl
  | [], n + 1, [] => rfl
  | [], n + 1, _ :: σ => fz_adr [] n σ
  | _ :: qs, n, [] => rfl
  | _ :: qs, n, _ :: σ => fz_adr qs n σ
theorem fz_owa : ∀ (qs : List PV) (n : Nat) (σ : St), owa (qs.map Slot.fz ++ uns n) σ = []
  | [], 0, [] => rfl
  | [], 0, _ :: _ => rfl
  | [], n + 1, [] => rfl
  | [], n + 1, _ :: σ => fz_owa [] n σ
  | _ :: qs, n, [] => rfl
  | _ :: qs, n, _ :: σ => fz_owa qs n σ
theorem uns_adr (n : Nat) (σ : St) : adr (uns n) σ = [] := fz_adr [] n σ
theorem fz_rel {F H : Hp} : ∀ {vs : List V} {qs : List PV} (n : Nat), IsL K cl F vs qs → RelS K cl [] F H (qs.map Slot.fz ++ uns n) (vs.map some ++ List.replicate n none)
  | _, _, 0, .nil => .nil
  | _, _, n + 1, .nil => .cons trivial (fz_rel n .nil)
  | _, _, n, .cons a r => .cons ⟨_, rfl, a⟩ (fz_rel n r)
open PySem.Spec PyProof.Rows in
theorem fnP {x qual : Str} {st : Stmt} {f : Addr} {fd : FuncData} {N ps : List Str} {k n : Nat} {mf : List PV → Res PV} (F : Fun K x qual st f fd) (S : FnScope N ps (defScope st)) (hn : ps.length = n) (tk : Takn n mf)
    (h : ∀ (cdv : Value) (A : Around) (outer : List Env) (s : Shared) (H : Hp) (E : XK), Room k (A.deeper (envOfC qual (defScope st) s.heap.objs.size f cdv)) → ∀ qs : List PV, qs.length = n →
      ∃ t, PSs (cxOf (L2.CX P w) P w K mg base N qual (defScope st) f cdv A outer s H E) (defBody st) t ∧ ∃ M, Runs K cl (fun c d _ H' => E c d H') t (qs.map Slot.fz ++ uns (N.length - n)) M (fun _ : Unit => uns N.length) (fun l : Empty => nomatch l) (uns N.length) ∧ mf qs = retF M) :
    FnOk P w K mg base (L2.CX P w) (k + 1) f fd ps (spP K cl mf) := by
  have len : ∀ vs H Q E, spP K cl mf vs H Q E → vs.length = n := fun vs H Q E ⟨O, qs, hO, hl, hw⟩ => by
    rw [hl.len]
    refine Classical.byContradiction fun c => ?_
    rw [tk qs c] at hw
    exact hw
  refine F.okX S (fun vs H Q E h => (len vs H Q E h).trans hn.symm) (fun cdv A outer s H vs Q E hr hsp => ?_)
  have hvn := len vs H Q E hsp
  obtain ⟨O, qs, hO, hl, hw⟩ := hsp
  have hqn : qs.length = n := by rw [← hl.len]; exact hvn
  obtain ⟨t, ht, M, hM, e⟩ := h cdv A outer s H E hr qs hqn
  refine ⟨t, ht, ?_⟩
  rw [e] at hw
  have st0 : L2.start N vs = vs.map some ++ List.replicate (N.length - n) none := by unfold L2.start; rw [hvn]
  rw [st0]
  have R : Rel K cl O [] (qs.map Slot.fz ++ uns (N.length - n)) (vs.map some ++ List.replicate (N.length - n) none) H :=
    ⟨by rw [fz_adr, List.append_nil]; exact fz_rel _ hl, by rw [fz_adr]; exact List.nodup_nil, hO, by rw [fz_owa]; exact fun _ z => nomatch z⟩
  have sub : ∀ {A' : List Addr} {H' : Hp}, Gr (adr (qs.map Slot.fz ++ uns (N.length - n)) (vs.map some ++ List.replicate (N.length - n) none)) H A' H' → Sub H H' := fun {A' H'} g x o e => g.1 x o (by rw [fz_adr]; exact fun z => nomatch z) e
  refine hM O [] _ H _ R (fun _ z => nomatch z) (wp_mono (wp_bind.mp hw) (fun fl q => ?_) fun c q C σ' H' e g _ => q C H' e (sub g))
  cases fl with
  | nx s => exact fun σ' H' g R' => q .non H' (sub g) .non
  | rt v r => exact fun w' H' g i _ => q w' H' (sub g) i
  | ro mo r => exact q.elim
  | bk l => exact nomatch l
  | ct l => exact nomatch l
end
section
variable {K : PySem.W.Frag} {cl : Str → Option Addr} {W Wo : WX} {bs O A A1 B : List Addr} {F H H' H1 : Hp} {ρ ρ' ρx ρh : Ro} {σ : St} {S S1 L : Type} {ρn : S → Ro} {ρj : S1 → Ro} {ρl : L → Ro} {D : Ends} {t u v tb : TS} {te ta tc td : TE} {m ma mb mc md : Res PV} {tr : TA} {ml : Res (List PV)} {mf : List PV → Res PV}
theorem pu_call (hl : PurL K cl W tr ρ ml) : Pur K cl W (tCallS (spP K cl mf) (WE W) tr) ρ (ml >>= mf) := fun O bs σ H Q R q => by
  refine hl O bs σ H _ R (wp_mono (wp_bind.mp q) (fun ps qs vs H1 s1 i1 => ?_) fun _ z => z)
  exact ⟨O ++ adr ρ σ, ps, fun a h => (R.same s1).got h, i1, wp_mono qs (fun r qr v H' s i => qr v H' (s1.trans s) i) fun c qc C H' e s => qc C H' e (s1.trans s)⟩
theorem pu_call1 {f : PV → Res PV} (ha : Pur K cl W ta ρ ma) : Pur K cl W (tCallS (spP K cl (ap1 f)) (WE W) (tCons ta tNil)) ρ (ma >>= f) := fun O bs σ H Q R q =>
  pu_call (mf := ap1 f) (pl_cons ha pl_nil) O bs σ H Q R (by cases ma <;> exact q)
theorem pu_call2 {f : PV → PV → Res PV} (ha : Pur K cl W ta ρ ma) (hb : Pur K cl W te ρ m) : Pur K cl W (tCallS (spP K cl (ap2 f)) (WE W) (tCons ta (tCons te tNil))) ρ (ma >>= fun x => m >>= fun y => f x y) := fun O bs σ H Q R q =>
  pu_call (mf := ap2 f) (pl_cons ha (pl_cons hb pl_nil)) O bs σ H Q R (by cases ma <;> cases m <;> exact q)
theorem pu_call3 {f : PV → PV → PV → Res PV} (ha : Pur K cl W ta ρ ma) (hb : Pur K cl W te ρ m) (hc : Pur K cl W tc ρ mc) : Pur K cl W (tCallS (spP K cl (ap3 f)) (WE W) (tCons ta (tCons te (tCons tc tNil)))) ρ (ma >>= fun x => m >>= fun y => mc >>= fun z => f x y z) := fun O bs σ H Q R q =>
  pu_call (mf := ap3 f) (pl_cons ha (pl_cons hb (pl_cons hc pl_nil))) O bs σ H Q R (by cases ma <;> cases m <;> cases mc <;> exact q)
theorem run_raise {c : Str} {C : Addr} (hc : cl c = some C) (w : Wk ρ ρx) : Runs (S := S) (L := L) K cl W (tSeq (fun _ σ H => (fun (_ : St) (H : Hp) (Q : XK) => Q (.ref C) none H) σ H fun cls d H' => W cls d σ H') u) ρ (.exc c) ρn ρl ρx := fun O bs σ H D R hb q =>
  q C σ H hc (Gr.wk w) (R.wk w)
def partP : PV → Res Int
  | .int i => .val i
  | _ => .stuck
def PrtO (K : PySem.W.Frag) (cl : Str → Option Addr) (W : WX) (t : TO) (ρ : Ro) (m : Res (Option Int)) : Prop := ∀ (O bs : List Addr) (σ : St) (H : Hp) (Q : Option Int → Hp → Prop), Rel K cl O bs ρ σ H →
  wp m (fun r => ∀ H', Sub H H' → Q r H') (XW cl W σ H) → t σ H Q
theorem pr_none : PrtO K cl W tNoPart ρ (.val none) := fun O bs σ H Q R q => q H .refl
theorem pr_some (ha : Vw K cl W ta ρ ma) : PrtO K cl W (tPart ta) ρ (ma >>= partP >>= fun i => .val (some i)) := fun O bs σ H Q R q => by
  rw [wp_bind, wp_bind] at q
  refine ha O bs σ H _ R (wp_mono q (fun x qx v1 H1 s1 i1 => ?_) fun _ z => z)
  unfold partP at qx
  split at qx
  · cases isV_int i1; exact ⟨_, rfl, qx H1 s1⟩
  · exact qx.elim
def cutP (xs : List PV) (lo hi : Option Int) : List PV := (xs.drop (HT.sIx xs.length 0 lo)).take (HT.sIx xs.length xs.length hi - HT.sIx xs.length 0 lo)
theorem IsL.cut {vs : List V} {ps : List PV} (h : IsL K cl F vs ps) (lo hi : Option Int) : IsL K cl F (cutV vs lo hi) (cutP ps lo hi) := by
  unfold cutV cutP
  rw [h.len]
  exact (h.drop _).take _
def slP (p : PV) (lo hi : Option Int) : Res PV := match p with
  | .tup ps => .val (.tup (cutP ps lo hi))
  | .lst ps => .val (.lst (cutP ps lo hi))
  | .fls ps => .val (.lst (cutP ps lo hi))
  | .ktp ps => .val (.tup (cutP ps lo hi))
  | _ => .stuck
def rSlV (K : PySem.W.Frag) : V → Option Int → Option Int → Hp → VK → Prop := sOr (rSlL K) (rSlA K)
theorem sl_V (K : PySem.W.Frag) {X : Cx} (e : X.K = K) : SlR X (rSlV K) := by subst e; exact sl_list.or sl_tupA
theorem cut_all {vs : List V} {lo hi : Option Int} (h : HT.sIx vs.length 0 lo = 0 ∧ HT.sIx vs.length vs.length hi = vs.length) : cutV vs lo hi = vs := by
  unfold cutV
  rw [h.1, h.2, Nat.sub_zero, List.drop_zero, List.take_length]
theorem pu_sl {tl th : TO} {mlo mhi : Res (Option Int)} (ha : Vw K cl W ta ρ ma) (hl : PrtO K cl W tl ρ mlo) (hh : PrtO K cl W th ρ mhi) : Pur K cl W (tSl (rSlV K) ta tl th) ρ (ma >>= fun x => mlo >>= fun l => mhi >>= fun h => slP x l h) := fun O bs σ H Q R q => by
  refine ha O bs σ H _ R (wp_mono (wp_bind.mp q) (fun x qx v1 H1 s1 i1 => ?_) fun _ z => z)
  refine hl O bs σ H1 _ (R.same s1) (wp_mono (wp_bind.mp qx) (fun l ql H2 s2 => ?_) fun _ z => z.mono s1)
  have s12 := s1.trans s2
  refine hh O bs σ H2 _ (R.same s12) (wp_mono (wp_bind.mp ql) (fun h qh H3 s3 => ?_) fun _ z => z.mono s12)
  have s13 := s12.trans s3
  have R3 := R.same s13
  have i3 := i1.mono (frz_same (A := O ++ adr ρ σ) (s2.trans s3)) (s2.trans s3)
  unfold slP at qh
  split at qh
  · cases i3 with
    | tup hs hl =>
    refine .inr ⟨_, _, rfl, frz_sub.sqT hs, fun e => ?_, fun _ p hp => qh _ _ (s13.trans (sub_new hp _)) (new_tup (fun a h => R3.got h) hp (hl.cut _ _))⟩
    refine qh _ H3 s13 (.tup hs ?_)
    have := hl.cut l h
    rwa [cut_all e] at this
  · obtain ⟨a, vs, rfl, hs, hl⟩ := i3
    exact .inl ⟨a, vs, rfl, .inl (.inl hs), fun p hp => qh _ _ (s13.trans (sub_new hp _)) (new_lst (fun a h => R3.got h) hp (hl.cut _ _))⟩
  · cases i3 with
    | fls hs hl => exact .inl ⟨_, _, rfl, frz_sub.sqL hs, fun p hp => qh _ _ (s13.trans (sub_new hp _)) (new_lst (fun a h => R3.got h) hp (hl.cut _ _))⟩
  · cases i3 with
    | ktp hk c d hl =>
    have hs : SqT K (frz H3 (O ++ adr ρ σ)) _ _ := Or.inl (Or.inr ⟨_, hk⟩)
    refine .inr ⟨_, _, rfl, frz_sub.sqT hs, fun e => ?_, fun _ p hp => qh _ _ (s13.trans (sub_new hp _)) (new_tup (fun a h => R3.got h) hp (hl.cut _ _))⟩
    refine qh _ H3 s13 (.tup hs ?_)
    have := hl.cut l h
    rwa [cut_all e] at this
  · exact qh.elim
end
section
open PySem.Spec PyProof.Rows
variable {X : Cx}
theorem pmk_own0 {C : Addr} {bmB : List Value} {B newId initId : String} {x : Str} {p pos : Pos} (F : ExcBaseFacts B newId initId bmB) (q : PySem.W.excIn X.K C bmB newId = true) (gC : X.mg x = some (.ref C))
    (kC : PySem.W.keepIn X.K (.ref C) = true) (r : Raises X (.ref C)) (hg : Gl X x) (hdb : (x == ("__debug__" : Str)) = false := by decide) :
    PMk X (.Call (.Name x p) [] [] pos) (fun _ H Q => Q (.ref C) none H) := by
  intro pins s σ H Q I h
  refine wpAny_Call_Name_kw (ld_glob I hg gC ?_ hdb)
  refine PySem.W.callWith_K0 (first := []) I.kIn kC ?_
  show wpAny _ _ (call (.ref C) []) _ _ _
  have X0 := I.kIn
  obtain ⟨bm, N, nm, qn, bs, hdct, sn, sub, ab, col, dd, k0, k1, k2, k3, k5, mN, hC, hN, hni, T⟩ := exc_obj X0 q
  refine wpAny_call_exc_subT F T hC hN hni (fun h' e hm => ?_) (Nat.zero_le _)
  exact mk_of I hm r h (I.hok.gone hm.new)
end
section
open PySem.Spec PyProof.Rows
variable {X : Cx} {CX : CXT} {k : Nat} {f : Addr} {fd : FuncData} {ps ks : List Str} {sp : Sp} {E : XK} {x : Str} {p pos : Pos} {kws : List Keyword} {tk : TA} {g : List Value → List Value → List Value} {gV : List V → List V → List V}
end
theorem fun_kbinds {K : PySem.W.Frag} {x qual : Str} {st : Stmt} {f : Addr} {fd : FuncData} {ps ks : List Str} {g : List Value → List Value → List Value} {gV : List V → List V → List V} (F : Fun K x qual st f fd)
    (hrel : ∀ {vs : List V} {us : List Value} {zs : List V} {ws : List Value}, Vals vs us → Vals zs ws → Vals (gV vs zs) (g us ws))
    (h : ∀ (kV doc pm : Value) (an : Option Addr) (cdv ct : Value) (us ws : List Value), (g us ws).length = ps.length → bindArgs (PySem.W.fnOf x qual (defArgs st) (defBody st) (defScope st) .none kV doc pm an cdv ct) ⟨us, ks.zip ws⟩ = pure (ps.zip (g us ws))) : KBinds K fd ps ks g gV := by
  obtain ⟨oc, od, kV, doc, pm, an, cdv, ct, osl, rfl, lk, hcd⟩ := F.ex
  exact ⟨fun s us ws _ hl => .of_eq (h kV doc pm an cdv ct us ws hl), hrel⟩
section
variable {X : Cx}
theorem op_eqV (K : PySem.W.Frag) (e : X.K = K) (hu : X.A.units + 64 < cLine) : OpR X (compareOp .Eq) (rEqD K) := by subst e; exact op_eqD hu
theorem op_neV (K : PySem.W.Frag) (e : X.K = K) (hu : X.A.units + 64 < cLine) : OpR X (compareOp .NotEq) (rNeD K) := by subst e; exact op_neD hu
theorem call_isiV (K : PySem.W.Frag) (e : X.K = K) : CallR X (.builtin "isinstance") (rIsi K) := by subst e; exact call_isi
theorem cr_allV (K : PySem.W.Frag) (e : X.K = K) (hc : X.calm = true) : CallR X (.builtin "all") (rAll K) := by subst e; exact cr_all hc
theorem call_intV : CallR X (.type "int") rIntV := call_int1
theorem pe_gint {x : Str} {n : Int} {pos : Pos} (hg : Gl X x) (h : ∃ t, X.mg x = some (.int n t)) (hd : (x == ("__debug__" : Str)) = false := by decide) : PE X (.Name x pos) (tC (.int n)) := by
  obtain ⟨t, h⟩ := h
  exact pe_glob hg h ⟨t, rfl⟩ hd
end
open PySem.Spec PyProof.Rows in
theorem fn_stuck {P : Program} {w : World} {K : PySem.W.Frag} {mg : Str → Option Value} {base : Heap} {CX : CXT} {cl : Str → Option Addr} {k : Nat} {f : Addr} {fd : FuncData} {ps : List Str} {mf : List PV → Res PV} (h : ∀ qs, mf qs = .stuck) : FnOk P w K mg base CX k f fd ps (spP K cl mf) := by
  refine ⟨fun vs H Q E ⟨O, qs, _, _, hw⟩ => ?_, fun A outer s H args us vs Q E _ _ _ _ ⟨O, qs, _, _, hw⟩ => ?_⟩
  · rw [h] at hw; exact hw.elim
  · rw [h] at hw; exact hw.elim
theorem stuck2 : ∀ qs, ap2 (fun _ _ => (.stuck : Res PV)) qs = .stuck := fun qs => by unfold ap2; split <;> rfl
section
variable (K : PySem.W.Frag) (cl : Str → Option Addr)
def Eff {S : Type} (t : TE) (ρs : S → Ro) (m : S → Res (PV × S)) : Prop := ∀ (s : S) (O bs : List Addr) (σ : St) (H : Hp) (Q : VK), Rel K cl O bs (ρs s) σ H → (∀ b, b ∈ bs → b ∈ O) →
  wp (m s) (fun r => ∀ v H', Gr (adr (ρs s) σ) H (adr (ρs s) σ) H' → Rel K cl O bs (ρs r.2) σ H' → adr (ρs r.2) σ = adr (ρs s) σ → Is K cl (frz H' (O ++ adr (ρs s) σ)) v r.1 → Q v H') (fun _ => False) → t σ H Q
def EffL {S : Type} (t : TA) (ρs : S → Ro) (m : S → Res (List PV × S)) : Prop := ∀ (s : S) (O bs : List Addr) (σ : St) (H : Hp) (Q : List V → Hp → Prop), Rel K cl O bs (ρs s) σ H → (∀ b, b ∈ bs → b ∈ O) →
  wp (m s) (fun r => ∀ vs H', Gr (adr (ρs s) σ) H (adr (ρs s) σ) H' → Rel K cl O bs (ρs r.2) σ H' → adr (ρs r.2) σ = adr (ρs s) σ → IsL K cl (frz H' (O ++ adr (ρs s) σ)) vs r.1 → Q vs H') (fun _ => False) → t σ H Q
def EffT {S : Type} (t : TT) (ρs : S → Ro) (m : S → Res (Bool × S)) : Prop := ∀ (s : S) (O bs : List Addr) (σ : St) (H : Hp) (Q : Bool → Hp → Prop), Rel K cl O bs (ρs s) σ H → (∀ b, b ∈ bs → b ∈ O) →
  wp (m s) (fun r => ∀ H', Gr (adr (ρs s) σ) H (adr (ρs s) σ) H' → Rel K cl O bs (ρs r.2) σ H' → adr (ρs r.2) σ = adr (ρs s) σ → Q r.1 H') (fun _ => False) → t σ H Q
def EffI {S : Type} (wi : TI) (ρs : S → Ro) (m : S → Res (List PV × S)) : Prop := ∀ (s : S) (O bs : List Addr) (σ : St) (H : Hp) (R : It → Hp → Prop), Rel K cl O bs (ρs s) σ H → (∀ b, b ∈ bs → b ∈ O) →
  wp (m s) (fun r => ∀ J H', Gr (adr (ρs s) σ) H (adr (ρs s) σ) H' → Rel K cl O bs (ρs r.2) σ H' → adr (ρs r.2) σ = adr (ρs s) σ → ItOk K cl (fun _ => True) (frz H' (O ++ adr (ρs s) σ)) J r.1 → R J H') (fun _ => False) → wi σ H R
def spR (mf : MO → List PV → Res (PV × MO)) : Sp := fun vs H Q _ => ∃ O b mo us ps, vs = .ref b :: us ∧ b ∈ O ∧ (∀ a, a ∈ O → ∃ o, H a = some o) ∧ MoIs K cl (frz H O) H b mo ∧ IsL K cl (frz H O) us ps ∧
  wp (mf mo ps) (fun r => ∀ v H', (∀ x o, x ≠ b → H x = some o → H' x = some o) → MoIs K cl (frz H' O) H' b r.2 → Is K cl (frz H' O) v r.1 → Q v H') (fun _ => False)
def spN (mf : List PV → Res MO) : Sp := fun vs H Q _ => ∃ O ps, (∀ a, a ∈ O → ∃ o, H a = some o) ∧ IsL K cl (frz H O) vs ps ∧
  wp (mf ps) (fun mo => ∀ p H', Sub H H' → H p = none → MoIs K cl (frz H' (p :: O)) H' p mo → Q (.ref p) H') (fun _ => False)
end
section
variable {K : PySem.W.Frag} {cl : Str → Option Addr} {W : WX} {bs O A A1 B : List Addr} {F H H' H1 : Hp} {ρ ρ' ρx ρh : Ro} {σ : St} {S S1 S2 L : Type} {ρs : S → Ro} {ρn : S1 → Ro} {ρj : S2 → Ro} {ρl : L → Ro} {D : Ends} {t u v tb : TS} {te ta tc td : TE} {m : S → Res PV} {ma mb mc md : S → Res (PV × S)} {tr : TA} {ml mk : S → Res (List PV × S)}
theorem ef_pure (h : ∀ s, Pur K cl W te (ρs s) (m s)) : Eff K cl te ρs (fun s => noX (m s) >>= fun v => .val (v, s)) := fun s O bs σ H Q R hb q => by
  refine h s O bs σ H Q R (wp_mono (wp_noX (E' := fun _ => False) (wp_bind.mp q)) (fun r qr v H' s' i => ?_) fun _ z => z.elim)
  exact qr v H' (Gr.of s') (R.same s') rfl i
theorem ef_op {r : R2} {f : PV → PV → Res PV} (ho : Op2 K cl r f) (ha : Eff K cl ta ρs ma) (hb' : Eff K cl tc ρs mb) : Eff K cl (tOp r ta tc) ρs (fun s => ma s >>= fun x => mb x.2 >>= fun y => noX (f x.1 y.1) >>= fun z => .val (z, y.2)) := fun s O bs σ H Q R hb q => by
  refine ha s O bs σ H _ R hb (wp_mono (wp_bind.mp q) (fun x qx v1 H1 g1 R1 e1 i1 => ?_) fun _ z => z)
  refine hb' x.2 O bs σ H1 _ R1 hb (wp_mono (wp_bind.mp qx) (fun y qy v2 H2 g2 R2 e2 i2 => ?_) fun _ z => z)
  rw [e1] at g2 i2
  have i1' := i1.mono (g2.sub R1.al)
  have hA : ∀ a, a ∈ O ++ adr (ρs s) σ → ∃ o, H2 a = some o := fun a h => R2.got (by rw [e2, e1]; exact h)
  refine ho _ H2 v1 v2 x.1 y.1 _ (fun _ => False) hA (i1'.view frz_sub) (i2.view frz_sub) (wp_mono (wp_noX (E' := fun _ => False) (wp_bind.mp qy)) (fun z qz v H' s iz => ?_) fun _ z => z)
  exact qz v H' ((g1.trans g2).trans (Gr.of s)) (R2.same s) (e2.trans e1) iz
theorem ef_un {r : V → Hp → VK → Prop} {f : PV → Res PV} (ho : Op1 K cl r f) (ha : Eff K cl ta ρs ma) : Eff K cl (tUn r ta) ρs (fun s => ma s >>= fun x => noX (f x.1) >>= fun z => .val (z, x.2)) := fun s O bs σ H Q R hb q => by
  refine ha s O bs σ H _ R hb (wp_mono (wp_bind.mp q) (fun x qx v1 H1 g1 R1 e1 i1 => ?_) fun _ z => z)
  have hA : ∀ a, a ∈ O ++ adr (ρs s) σ → ∃ o, H1 a = some o := fun a h => R1.got (by rw [e1]; exact h)
  exact ho _ H1 v1 x.1 _ (fun _ => False) hA (i1.view frz_sub) (wp_mono (wp_noX (E' := fun _ => False) (wp_bind.mp qx)) (fun z qz v H' s iz => qz v H' (g1.trans (Gr.of s)) (R1.same s) e1 iz) fun _ z => z)
theorem ef_cb1 {r : List V → Hp → VK → Prop} {f : PV → Res PV} (ho : Bi1 K cl r f) (ha : Eff K cl ta ρs ma) : Eff K cl (tCB r (tCons ta tNil)) ρs (fun s => ma s >>= fun x => noX (f x.1) >>= fun z => .val (z, x.2)) := ef_un (r := fun x H Q => r [x] H Q) ho ha
theorem el_nil : EffL K cl tNil ρs (fun s => .val ([], s)) := fun s O bs σ H Q R hb q => q [] H .refl R rfl .nil
theorem el_cons (ha : Eff K cl ta ρs ma) (hl : EffL K cl tr ρs ml) : EffL K cl (tCons ta tr) ρs (fun s => ma s >>= fun x => ml x.2 >>= fun xs => .val (x.1 :: xs.1, xs.2)) := fun s O bs σ H Q R hb q => by
  refine ha s O bs σ H _ R hb (wp_mono (wp_bind.mp q) (fun x qx v1 H1 g1 R1 e1 i1 => ?_) fun _ z => z)
  refine hl x.2 O bs σ H1 _ R1 hb (wp_mono (wp_bind.mp qx) (fun xs qs vs H2 g2 R2 e2 i2 => ?_) fun _ z => z)
  rw [e1] at g2 i2
  exact qs _ H2 (g1.trans g2) R2 (e2.trans e1) (.cons (i1.mono (g2.sub R1.al)) i2)
theorem ef_tup (hl : EffL K cl tr ρs ml) : Eff K cl (tTup tr) ρs (fun s => ml s >>= fun xs => mkT xs.1 >>= fun z => .val (z, xs.2)) := fun s O bs σ H Q R hb q => by
  refine hl s O bs σ H _ R hb (wp_mono (wp_bind.mp q) (fun ps qs vs H1 g1 R1 e1 i1 => ?_) fun _ z => z)
  obtain ⟨z, qs⟩ := wp_sized (wp_bind.mp (wp_bind.mp qs))
  have hA : ∀ a, a ∈ O ++ adr (ρs s) σ → ∃ o, H1 a = some o := fun a h => R1.got (by rw [e1]; exact h)
  refine ⟨by rw [i1.len]; exact z, fun p hp => qs _ _ (g1.trans (Gr.of (sub_new hp _))) (R1.same (sub_new hp _)) e1 (new_tup hA hp i1)⟩
theorem ef_lst (hl : EffL K cl tr ρs ml) : Eff K cl (tLst tr) ρs (fun s => ml s >>= fun xs => mkL xs.1 >>= fun z => .val (z, xs.2)) := fun s O bs σ H Q R hb q => by
  refine hl s O bs σ H _ R hb (wp_mono (wp_bind.mp q) (fun ps qs vs H1 g1 R1 e1 i1 => ?_) fun _ z => z)
  obtain ⟨z, qs⟩ := wp_sized (wp_bind.mp (wp_bind.mp qs))
  have hA : ∀ a, a ∈ O ++ adr (ρs s) σ → ∃ o, H1 a = some o := fun a h => R1.got (by rw [e1]; exact h)
  refine ⟨by rw [i1.len]; exact z, fun p hp => qs _ _ (g1.trans (Gr.of (sub_new hp _))) (R1.same (sub_new hp _)) e1 (new_lst hA hp i1)⟩
variable {c1 c2 : TT} {n1 n2 : S → Res (Bool × S)}
theorem ef_callR {mf : MO → List PV → Res (PV × MO)} {i : Nat} {sl : S → Slot} {get : S → MO} {put : S → MO → Res S} (hi : ∀ s, (ρs s)[i]? = some (sl s)) (hs : ∀ s, sl s = .ow (get s) ∨ ∃ k, sl s = .rf k (get s)) (hp : ∀ s mo s', put s mo = .val s' → (ρs s).set i (reSl (sl s) mo) = ρs s') (hl : EffL K cl tr ρs ml) :
    Eff K cl (tCallS (spR K cl mf) (WE W) (tCons (tVar i) tr)) ρs (fun s => ml s >>= fun xs => mf (get xs.2) xs.1 >>= fun r => put xs.2 r.2 >>= fun s' => .val (r.1, s')) := fun s O bs σ H Q R hb q => by
  have ha : ∃ a, σ[i]? = some (some (.ref a)) := by
    obtain ⟨x, e, q⟩ := R.sl.get (hi s)
    rcases hs s with h | ⟨k, h⟩
    · rw [h] at q; obtain ⟨a, rfl, _⟩ := q; exact ⟨a, e⟩
    · rw [h] at q; obtain ⟨a, rfl, _⟩ := q; exact ⟨a, e⟩
  obtain ⟨a, ha⟩ := ha
  refine ⟨_, ha, hl s O bs σ H _ R hb (wp_mono (wp_bind.mp q) (fun ps qs vs H1 g1 R1 e1 i1 => ?_) fun _ z => z)⟩
  have hm : MoIs K cl (frz H1 (O ++ adr (ρs ps.2) σ)) H1 a (get ps.2) := by
    obtain ⟨x, e, q⟩ := R1.sl.get (hi ps.2)
    rw [ha] at e
    cases e
    rcases hs ps.2 with h | ⟨k, h⟩
    · rw [h] at q; obtain ⟨b, e, q⟩ := q; cases e; exact q
    · rw [h] at q; obtain ⟨b, e, _, q⟩ := q; cases e; exact q
  have ma : a ∈ adr (ρs ps.2) σ := adr_at (hi ps.2) ha ((hs ps.2).imp (fun h => ⟨_, h⟩) fun ⟨k, h⟩ => ⟨k, _, h⟩)
  rw [e1] at hm ma
  have hA : ∀ a, a ∈ O ++ adr (ρs s) σ → ∃ o, H1 a = some o := fun a h => R1.got (by rw [e1]; exact h)
  refine ⟨O ++ adr (ρs s) σ, a, get ps.2, vs, ps.1, rfl, List.mem_append_right _ ma, hA, hm, i1, wp_mono (wp_bind.mp qs) (fun r qr v H' hk hmo iv => ?_) fun _ z => z⟩
  obtain ⟨R2, g2⟩ := R1.putH (H2 := H') (m' := r.2) hk (MoIs.got hmo) (hi ps.2) (hs ps.2) ha (by rw [e1]; exact hmo)
  have e2 : adr ((ρs ps.2).set i (reSl (sl ps.2) r.2)) σ = adr (ρs ps.2) σ := (adr_re (hi ps.2)).1
  rw [e2, e1] at g2
  cases hpu : put ps.2 r.2 with
  | val s' =>
    rw [hp _ _ _ hpu] at R2 e2
    have qr := wp_bind.mp qr
    rw [hpu] at qr
    have qr' : ∀ v H', Gr (adr (ρs s) σ) H (adr (ρs s) σ) H' → Rel K cl O bs (ρs s') σ H' → adr (ρs s') σ = adr (ρs s) σ → Is K cl (frz H' (O ++ adr (ρs s) σ)) v r.1 → Q v H' := qr
    exact qr' v H' (g1.trans g2) R2 (e2.trans e1) iv
  | exc c =>
    have qr := wp_bind.mp qr
    rw [hpu] at qr
    exact qr.elim
  | stuck =>
    have qr := wp_bind.mp qr
    rw [hpu] at qr
    exact qr.elim
theorem ei_pure {wi : TI} {mi : S → Res (List PV)} (h : ∀ s, Iter K cl W wi (ρs s) (mi s)) : EffI K cl wi ρs (fun s => noX (mi s) >>= fun z => .val (z, s)) := fun s O bs σ H Rr R hb q =>
  h s O bs σ H Rr R (wp_mono (wp_noX (E' := fun _ => False) (wp_bind.mp q)) (fun r qr J H' s' i => qr J H' (Gr.of s') (R.same s') rfl i) fun _ z => z.elim)
theorem ei_seq (ha : Eff K cl te ρs ma) : EffI K cl (iSeqV K te) ρs (fun s => ma s >>= fun x => asSq x.1 >>= fun z => .val (z, x.2)) := fun s O bs σ H Rr R hb q => by
  have w := wp_bind.mp q
  cases hm : ma s with
  | stuck => rw [hm] at w; exact w.elim
  | exc c => rw [hm] at w; exact w.elim
  | val x =>
    rw [hm] at w
    have w := wp_bind.mp (show wp (asSq x.1 >>= fun z => .val (z, x.2)) _ _ from w)
    obtain ⟨p, s1⟩ := x
    cases p with
    | tup ps =>
      refine .inr (ha s O bs σ H _ R hb ?_)
      rw [hm]
      refine wp_val.mpr fun v H' g1 R1 e1 i => ?_
      cases (show Is K cl (frz H' (O ++ adr (ρs s) σ)) v (.tup ps) from i) with
      | tup h l => exact ⟨_, rfl, ⟨_, frz_sub.sqT h⟩, w _ H' g1 R1 e1 ((itOk_tup (P := fun _ => True) (fun H _ sF => sF.sqT h) l).of fun H B _ sF => ⟨trivial, sF.trans frz_sub⟩)⟩
    | lst ps =>
      refine .inl (ha s O bs σ H _ R hb ?_)
      rw [hm]
      refine wp_val.mpr fun v H' g1 R1 e1 i => ?_
      cases (show Is K cl (frz H' (O ++ adr (ρs s) σ)) v (.lst ps) from i) with
      | lst h l => exact ⟨_, rfl, ⟨_, .inl (.inl (frz_sub _ _ h))⟩, w _ H' g1 R1 e1 ((itOk_list (P := fun _ => True) (fun H _ sF => .inl (.inl (sF _ _ h))) l).of fun H B _ sF => ⟨trivial, sF.trans frz_sub⟩)⟩
    | fls ps =>
      refine .inl (ha s O bs σ H _ R hb ?_)
      rw [hm]
      refine wp_val.mpr fun v H' g1 R1 e1 i => ?_
      cases (show Is K cl (frz H' (O ++ adr (ρs s) σ)) v (.fls ps) from i) with
      | fls h l => exact ⟨_, rfl, ⟨_, frz_sub.sqL h⟩, w _ H' g1 R1 e1 ((itOk_list (P := fun _ => True) (fun H _ sF => sF.sqL h) l).of fun H B _ sF => ⟨trivial, sF.trans frz_sub⟩)⟩
    | _ => exact w.elim
variable {s0 : S}
theorem Wk.of_eq {ρ ρ' : Ro} (e : ρ = ρ') : Wk ρ ρ' := by rw [e]; exact Wk.refl _
theorem run_setE {i : Nat} {n : PV → S → Res (Fl S1 L)} (he : Eff K cl te ρs ma) (e0 : ρs s0 = ρ) (hn : ∀ s, nad (ρs s) i = true) (h : ∀ x s, Runs K cl W u ((ρs s).set i (.fz x)) (n x s) ρn ρl ρx) :
    Runs K cl W (tSeq (tAsg te (gName i)) u) ρ (noX (ma s0) >>= fun r => n r.1 r.2) ρn ρl ρx := fun O bs σ H D R hb q => by
  subst e0
  refine he s0 O bs σ H _ R hb (wp_mono (wp_noX (E' := fun _ => False) (wp_bind.mp q)) (fun x qx v H' g1 R1 e1 i1 => ?_) fun _ z => z)
  have g : Gr (adr (ρs s0) σ) H (adr ((ρs x.2).set i (.fz x.1)) (σ.set i (some v))) H' := by rw [adr_setn (hn _), e1]; exact g1
  exact h x.1 x.2 O bs _ H' D (R1.setfz (hn _) (by rw [e1]; exact i1)) hb (wp_mono qx (fun _ z => z.step g) fun _ z => z.step g)
theorem run_expr {m0 : Res PV} {n : Res (Fl S1 L)} (he : Pur K cl W te ρ m0) (w : Wk ρ ρx) (h : Runs K cl W u ρ n ρn ρl ρx) : Runs K cl W (tSeq (tDrop te) u) ρ (m0 >>= fun _ => n) ρn ρl ρx := fun O bs σ H D R hb q => by
  refine he O bs σ H _ R (wp_mono (wp_bind.mp q) (fun x qx v H' s ix => ?_) fun _ z => z.xw R w)
  exact h O bs σ H' D (R.same s) hb (wp_mono qx (fun _ z => z.step (Gr.of s)) fun _ z => z.step (Gr.of s))
theorem run_appendE {i : Nat} {sl : S → Slot} {get : S → List PV} {n : S → PV → Res (Fl S1 L)} (hi : ∀ s, (ρs s)[i]? = some (sl s)) (hs : ∀ s, sl s = .ow (.lst (get s)) ∨ ∃ k, sl s = .rf k (.lst (get s))) (he : Eff K cl te ρs ma) (e0 : ρs s0 = ρ) (h : ∀ s x, Runs K cl W u ((ρs s).set i (reSl (sl s) (.lst (get s ++ [x])))) (n s x) ρn ρl ρx) :
    Runs K cl W (tSeq (tDrop (tBM K "list" rAppend (tVar i) (tCons te tNil))) u) ρ (noX (ma s0) >>= fun r => sized ((get r.2).length + 1) >>= fun _ => n r.2 r.1) ρn ρl ρx := fun O bs σ H D R hb q => by
  subst e0
  have got : ∀ s' H', Rel K cl O bs (ρs s') σ H' → ∃ a vs, σ[i]? = some (some (.ref a)) ∧ H' a = some (.lst vs) ∧ IsL K cl (frz H' (O ++ adr (ρs s') σ)) vs (get s') := fun s' H' R => by
    obtain ⟨x, e, q⟩ := R.sl.get (hi s')
    rcases hs s' with h | ⟨k, h⟩
    · rw [h] at q; obtain ⟨a, rfl, vs, h1, h2⟩ := q; exact ⟨a, vs, e, h1, h2⟩
    · rw [h] at q; obtain ⟨a, rfl, _, vs, h1, h2⟩ := q; exact ⟨a, vs, e, h1, h2⟩
  obtain ⟨a, vs, ha, hv, hl⟩ := got _ _ R
  refine ⟨_, ha, .inl ⟨rfl, _, .inl (.inl hv)⟩, he s0 O bs σ H _ R hb (wp_mono (wp_noX (E' := fun _ => False) (wp_bind.mp q)) (fun x qx v H' g1 R1 e1 i1 => ?_) fun _ z => z)⟩
  obtain ⟨hz, qx⟩ := wp_sized (wp_bind.mp qx)
  obtain ⟨a', vs', ha', hv', hl'⟩ := got _ _ R1
  rw [ha] at ha'
  cases ha'
  obtain ⟨R2, g2⟩ := R1.put (m' := .lst (get x.2 ++ [x.1])) (o := .lst (vs' ++ [v])) (hi x.2) (hs x.2) ha ⟨_, upd_same, hl'.append (.one (by rw [e1]; exact i1))⟩
  have g : Gr (adr (ρs s0) σ) H _ _ := (show Gr (adr (ρs s0) σ) H (adr (ρs x.2) σ) H' by rw [e1]; exact g1).trans g2
  refine ⟨a, vs', v, rfl, rfl, hv', by rw [hl'.len]; omega, ?_⟩
  exact h x.2 x.1 O bs σ _ D R2 hb (wp_mono qx (fun _ z => z.step g) fun _ z => z.step g)
theorem run_forE {wi : TI} {g : TG} {mi : S → Res (List PV × S)} {α : Type} {d : PV → Res α} {ρs' : S1 → Ro} {ρe : S1 → α → Ro} {st : S → S1} {body : α → S1 → Res (Fl S1 S1)} (hi : EffI K cl wi ρs mi) (e0 : ρs s0 = ρ) (w0 : ∀ s, Wk (ρs s) (ρs' (st s))) (hg : ∀ s, TgtE K cl g [] (ρs' s) d (ρe s))
    (hb : ∀ a s, Runs K cl W tb (ρe s a) (body a s) ρs' ρs' ρx) : Runs K cl W (tFor wi g tb) ρ (noX (mi s0) >>= fun r => forF (fun x s => d x >>= fun a => body a s) r.1 (st r.2)) ρs' ρl ρx := fun O bs σ H D R hbs q => by
  subst e0
  refine hi s0 O bs σ H _ R hbs (wp_mono (wp_noX (E' := fun _ => False) (wp_bind.mp q)) (fun r qp J H1 g0 R1 e1 hJ => ?_) fun _ z => z)
  obtain ⟨ps, s1⟩ := r
  have g1 : Gr (adr (ρs s0) σ) H (adr (ρs' (st s1)) σ) H1 := (show Gr (adr (ρs s0) σ) H (adr (ρs s1) σ) H1 by rw [e1]; exact g0).trans (Gr.wk (w0 s1))
  have hJ' : ItOk K cl (fun _ => True) (frz H1 (O ++ adr (ρs s1) σ)) J ps := by rw [e1]; exact hJ
  have sF0 : Sub (frz H1 (O ++ adr (ρs s1) σ)) (frz H1 (O ++ adr (ρs' (st s1)) σ)) := Gr.sub (Gr.wk (w0 s1)) R1.al
  refine ⟨fun i mm σ' H' => mm = ps.length - i ∧ i ≤ ps.length ∧ ∃ s, Rel K cl O bs (ρs' s) σ' H' ∧ Gr (adr (ρs s0) σ) H (adr (ρs' s) σ') H' ∧ Sub (frz H1 (O ++ adr (ρs s1) σ)) (frz H' (O ++ adr (ρs' s) σ')) ∧
      wp (forF (L := L) (fun x s => d x >>= fun a => body a s) (ps.drop i) s) (FlOk K cl O bs ρs' ρl D (adr (ρs s0) σ) H) (ExOk K cl W O bs ρx (adr (ρs s0) σ) H),
    ⟨_, rfl, Nat.zero_le _, st s1, R1.wk (w0 s1), g1, sF0, by rw [List.drop_zero]; exact qp⟩, ?_⟩
  rintro i mm σ' H' ⟨rfl, hle, s, R', g', sF, qw⟩
  obtain ⟨hs, hg'⟩ := hJ' H' _ trivial sF (fun a ha => R'.got ha)
  by_cases c : i = ps.length
  · subst c
    rw [List.drop_length] at qw
    exact .inl ⟨hs, qw σ' H' g' R'⟩
  · have hlt : i < ps.length := by omega
    obtain ⟨hgo, hy⟩ := hg' i _ (List.getElem?_eq_getElem hlt)
    rw [List.drop_eq_getElem_cons hlt] at qw
    refine .inr ⟨hgo, fun σ2 H2 => ∃ s', Rel K cl O bs (ρs' s') σ2 H2 ∧ Gr (adr (ρs s0) σ) H (adr (ρs' s') σ2) H2 ∧ Sub (frz H1 (O ++ adr (ρs s1) σ)) (frz H2 (O ++ adr (ρs' s') σ2)) ∧ wp (forF (L := L) (fun x s => d x >>= fun a => body a s) (ps.drop (i + 1)) s') (FlOk K cl O bs ρs' ρl D (adr (ρs s0) σ) H) (ExOk K cl W O bs ρx (adr (ρs s0) σ) H),
      fun σ2 H2 ⟨s', z⟩ => ⟨_, by omega, rfl, by omega, s', z⟩, fun x H2 hyx => ?_⟩
    obtain ⟨s2, ix⟩ := hy x H2 hyx
    have R2 := R'.same s2
    have qw := wp_bind.mp (wp_bind.mp qw)
    refine hg s ps[i] O bs σ' H2 x _ _ R2 ix (wp_mono qw (fun a qa σ3 R3 e3 _ => ?_) fun _ z => z)
    have g3 : Gr (adr (ρs s0) σ) H (adr (ρe s a) σ3) H2 := by rw [e3]; exact g'.trans (Gr.of s2)
    have sF3 : Sub (frz H1 (O ++ adr (ρs s1) σ)) (frz H2 (O ++ adr (ρe s a) σ3)) := by rw [e3]; exact sF.trans (frz_same s2)
    refine hb a s O bs σ3 H2 _ R3 hbs (wp_mono qa (fun f qf => ?_) fun _ z => z.step g3)
    cases f with
    | nx s' => exact fun σ4 H4 g4 R4 => ⟨s', R4, g3.trans g4, sF3.trans (g4.sub R3.al), qf⟩
    | ct s' => exact fun σ4 H4 g4 R4 => ⟨s', R4, g3.trans g4, sF3.trans (g4.sub R3.al), qf⟩
    | bk s' => exact fun σ4 H4 g4 R4 => qf σ4 H4 (g3.trans g4) R4
    | rt v r => exact FlOk.step (f := Fl.rt v r) qf g3
    | ro mo r => exact FlOk.step (f := Fl.ro mo r) qf g3
def lcE {S α : Type} (d : PV → Res α) (c : α → S → Res (Bool × S)) (e : α → S → Res (PV × S)) : List PV → S → Res (List PV × S)
  | [], s => .val ([], s)
  | x :: xs, s => noX (d x) >>= fun a => c a s >>= fun b => if b.1 = true then e a b.2 >>= fun y => lcE d c e xs y.2 >>= fun ys => .val (y.1 :: ys.1, ys.2) else lcE d c e xs b.2
theorem et_yes : EffT K cl tYes ρs (fun s => .val (true, s)) := fun s O bs σ H Q R hb q => q H .refl R rfl
def unB : Ro → Nat → Bool
  | [], _ => true
  | .un :: _, 0 => true
  | _ :: _, 0 => false
  | _ :: ρ, i + 1 => unB ρ i
def unsB (ρ : Ro) (vs : List Nat) : Bool := vs.all fun i => unB ρ i
theorem adr_un : ∀ {ρ : Ro} {σ : St} {i : Nat} {x : Option V}, unB ρ i = true → adr ρ (σ.set i x) = adr ρ σ ∧ owa ρ (σ.set i x) = owa ρ σ
  | [], σ, i, x, _ => by
    cases σ with
    | nil => exact ⟨rfl, rfl⟩
    | cons y σ => cases i <;> exact ⟨rfl, rfl⟩
  | s :: ρ, [], i, x, h => ⟨rfl, rfl⟩
  | s :: ρ, y :: σ, 0, x, h => by cases s <;> first | exact ⟨rfl, rfl⟩ | cases h
  | s :: ρ, y :: σ, i + 1, x, h => by
    have ih := adr_un (ρ := ρ) (σ := σ) (i := i) (x := x) (by cases s <;> exact h)
    show adr (s :: ρ) (y :: σ.set i x) = adr (s :: ρ) (y :: σ) ∧ owa (s :: ρ) (y :: σ.set i x) = owa (s :: ρ) (y :: σ)
    cases s with
    | un => exact ih
    | fz q => exact ih
    | ow m => cases y with
      | none => exact ih
      | some v => cases v <;> first | exact ih | exact ⟨congrArg (_ :: ·) ih.1, congrArg (_ :: ·) ih.2⟩
    | rf k m => cases y with
      | none => exact ih
      | some v => cases v <;> first | exact ih | exact ⟨congrArg (_ :: ·) ih.1, ih.2⟩
theorem rels_un : ∀ {ρ : Ro} {σ : St} {i : Nat} {x : Option V} {F H : Hp}, unB ρ i = true → (RelS K cl bs F H ρ (σ.set i x) ↔ RelS K cl bs F H ρ σ)
  | [], σ, i, x, F, H, _ => by
    cases σ with
    | nil => exact Iff.rfl
    | cons y σ => cases i <;> exact ⟨(fun h => nomatch h), (fun h => nomatch h)⟩
  | s :: ρ, [], i, x, F, H, h => Iff.rfl
  | s :: ρ, y :: σ, 0, x, F, H, h => by
    cases s with
    | un => exact ⟨fun q => by cases q with | cons a r => exact .cons trivial r, fun q => by cases q with | cons a r => exact .cons trivial r⟩
    | _ => cases h
  | s :: ρ, y :: σ, i + 1, x, F, H, h => by
    have ih := rels_un (ρ := ρ) (σ := σ) (i := i) (x := x) (F := F) (H := H) (by cases s <;> exact h)
    exact ⟨fun q => by cases q with | cons a r => exact .cons a (ih.mp r), fun q => by cases q with | cons a r => exact .cons a (ih.mpr r)⟩
theorem Rel.un1 {i : Nat} {x : Option V} (h : unB ρ i = true) : Rel K cl O bs ρ (σ.set i x) H ↔ Rel K cl O bs ρ σ H := by
  obtain ⟨e1, e2⟩ := adr_un (ρ := ρ) (σ := σ) (x := x) h
  constructor
  · rintro ⟨a, b, c, d⟩
    rw [e1] at a b
    rw [e2] at d
    exact ⟨(rels_un h).mp a, b, c, d⟩
  · rintro ⟨a, b, c, d⟩
    exact ⟨by rw [e1]; exact (rels_un h).mpr a, by rw [e1]; exact b, c, by rw [e2]; exact d⟩
theorem Rel.uns : ∀ {vs : List Nat}, unsB ρ vs = true → ((Rel K cl O bs ρ (L2.wipe σ vs) H ↔ Rel K cl O bs ρ σ H) ∧ adr ρ (L2.wipe σ vs) = adr ρ σ)
  | [], _ => ⟨Iff.rfl, rfl⟩
  | v :: vs, h => by
    have h' := Bool.and_eq_true_iff.mp (show (unB ρ v && unsB ρ vs) = true from h)
    obtain ⟨h1, h2⟩ := Rel.uns (vs := vs) h'.2
    exact ⟨(Rel.un1 (σ := L2.wipe σ vs) h'.1).trans h1, ((adr_un (σ := L2.wipe σ vs) h'.1).1).trans h2⟩
theorem Rel.narrow {a : Addr} (R : Rel K cl (a :: O) bs ρ σ H) : Rel K cl O bs ρ σ H :=
  ⟨R.sl.mono (frz_less fun b hb => List.mem_cons_of_mem _ hb) fun _ _ _ e => e, R.nd, fun b hb => R.al b (List.mem_cons_of_mem _ hb), fun b hb z => R.ow b hb (List.mem_cons_of_mem _ z)⟩
theorem ef_lc {wi : TI} {g : TG} {tt : TT} {vs : List Nat} {mi : S → Res (List PV × S)} {α : Type} {d : PV → Res α} {ρe : α → S → Ro} {mc : α → S → Res (Bool × S)} {me : α → S → Res (PV × S)} (hi : EffI K cl wi ρs mi) (hv : ∀ s, unsB (ρs s) vs = true) (hne : vs ≠ [])
    (hg : ∀ s, TgtE K cl g vs (ρs s) d (fun a => ρe a s)) (hw : ∀ a s, wipeR (ρe a s) vs = ρs s) (hv2 : ∀ a s, nads (ρe a s) vs = true) (ht : ∀ a, EffT K cl tt (ρe a) (mc a)) (he : ∀ a, Eff K cl te (ρe a) (me a)) :
    Eff K cl (tLc wi g tt te vs) ρs (fun s => mi s >>= fun ps => sized ps.1.length >>= fun _ => lcE d mc me ps.1 ps.2 >>= fun r => .val (.lst r.1, r.2)) := fun s O bs σ H Q R hb q => by
  refine hi s O bs σ H _ R hb (wp_mono (wp_bind.mp q) (fun r qp J H1 g1 R1 e1 hJ => ?_) fun _ z => z)
  obtain ⟨ps, s1⟩ := r
  obtain ⟨hz, qp⟩ := wp_sized (wp_bind.mp qp)
  replace hz : ps.length ≤ sizeLine := hz
  intro Da hD
  have qp := wp_bind.mp qp
  have Rw1 := (Rel.uns (σ := σ) (hv s1)).1.mpr R1
  have ew1 := (Rel.uns (K := K) (cl := cl) (O := O) (bs := bs) (H := H1) (σ := σ) (hv s1)).2
  have Rw0 := Rw1.wider (o := .lst []) hD
  have nDA : Da ∉ O ++ adr (ρs s) σ := fun z => by
    obtain ⟨u, e⟩ := R1.got (by rw [e1]; exact z)
    rw [hD] at e; cases e
  have hbD : ∀ b, b ∈ bs → b ∈ Da :: O := fun b h => List.mem_cons_of_mem _ (hb b h)
  refine ⟨fun i mm H2 => mm = ps.length - i ∧ i ≤ ps.length ∧ ∃ s2, (∀ x o, x ∉ adr (ρs s) σ → H1 x = some o → H2 x = some o) ∧ Rel K cl (Da :: O) bs (ρs s2) (wipe σ vs) H2 ∧ adr (ρs s2) (wipe σ vs) = adr (ρs s) σ ∧
      ∃ acc qs, H2 Da = some (.lst acc) ∧ acc.length ≤ i ∧ IsL K cl (frz H2 (Da :: (O ++ adr (ρs s) σ))) acc qs ∧
      wp (lcE d mc me (ps.drop i) s2) (fun r => ∀ v H', Gr (adr (ρs s) σ) H (adr (ρs s) σ) H' → Rel K cl O bs (ρs r.2) σ H' → adr (ρs r.2) σ = adr (ρs s) σ → Is K cl (frz H' (O ++ adr (ρs s) σ)) v (.lst (qs ++ r.1)) → Q v H') (fun _ => False),
    ⟨_, rfl, Nat.zero_le _, s1, fun x o _ e => sub_new hD _ x o e, Rw0, ew1.trans e1, [], [], upd_same, Nat.le_refl _, .nil, by rw [List.drop_zero]; exact wp_mono qp (fun r z => z) fun _ z => z⟩, ?_⟩
  rintro i mm H2 ⟨rfl, hle, s2, k2, R2, ew, acc, qs, ha, hal, hl, qw⟩
  have sF : Sub (frz H1 (O ++ adr (ρs s) σ)) (frz H2 (Da :: (O ++ adr (ρs s) σ))) := fun x u e => by
    obtain ⟨n, e⟩ := frz_some.mp e
    refine frz_some.mpr ⟨fun z => ?_, k2 _ _ (fun z => n (List.mem_append_right _ z)) e⟩
    rcases List.mem_cons.mp z with c | c
    · rw [c, hD] at e; cases e
    · exact n c
  have gotB : ∀ a, a ∈ Da :: (O ++ adr (ρs s) σ) → ∃ o, H2 a = some o := fun a z => R2.got (by rw [ew]; exact z)
  obtain ⟨hs, hgo⟩ := hJ H2 _ trivial sF gotB
  by_cases c : i = ps.length
  · subst c
    rw [List.drop_length] at qw
    obtain ⟨u1, u2⟩ := Rel.uns (K := K) (cl := cl) (O := O) (bs := bs) (H := H2) (σ := σ) (hv s2)
    refine .inl ⟨hs, qw (.ref Da) H2 ⟨fun x o n e => k2 x o n (g1.1 x o n e), fun x hx => .inl hx⟩ (u1.mp R2.narrow) (u2.symm.trans ew) ?_⟩
    rw [List.append_nil]
    exact .lst (frz_some.mpr ⟨nDA, ha⟩) (hl.mono (frz_less fun b hb => List.mem_cons_of_mem _ hb))
  · have hlt : i < ps.length := by omega
    obtain ⟨hgi, hy⟩ := hgo i _ (List.getElem?_eq_getElem hlt)
    rw [List.drop_eq_getElem_cons hlt] at qw
    refine .inr ⟨hgi, fun H3 => ∃ s2, (∀ x o, x ∉ adr (ρs s) σ → H1 x = some o → H3 x = some o) ∧ Rel K cl (Da :: O) bs (ρs s2) (wipe σ vs) H3 ∧ adr (ρs s2) (wipe σ vs) = adr (ρs s) σ ∧
      ∃ acc qs, H3 Da = some (.lst acc) ∧ acc.length ≤ i + 1 ∧ IsL K cl (frz H3 (Da :: (O ++ adr (ρs s) σ))) acc qs ∧
      wp (lcE d mc me (ps.drop (i + 1)) s2) (fun r => ∀ v H', Gr (adr (ρs s) σ) H (adr (ρs s) σ) H' → Rel K cl O bs (ρs r.2) σ H' → adr (ρs r.2) σ = adr (ρs s) σ → Is K cl (frz H' (O ++ adr (ρs s) σ)) v (.lst (qs ++ r.1)) → Q v H') (fun _ => False),
      fun H3 z => ⟨_, by omega, rfl, by omega, z⟩, fun x H3 hyx => ?_⟩
    obtain ⟨s3, ix⟩ := hy x H3 hyx
    have R3 := R2.same s3
    have qw := wp_bind.mp qw
    refine hg s2 ps[i] (Da :: O) bs σ H3 x _ _ R3 (by rw [ew]; exact ix) (wp_mono (wp_noX (E' := fun _ => False) qw) (fun a qa σ4 R4 e4 w4 => ?_) fun _ z => z)
    have e4s : adr (ρe a s2) σ4 = adr (ρs s) σ := e4.trans ew
    refine ⟨w4 hne, ht a s2 (Da :: O) bs σ4 H3 _ R4 hbD (wp_mono (wp_bind.mp qa) (fun b qb H5 g5 R5 e5 => ?_) fun _ z => z.elim)⟩
    obtain ⟨b, s5⟩ := b
    rw [e4s] at g5
    have e5s : adr (ρe a s5) σ4 = adr (ρs s) σ := e5.trans e4s
    have nD : Da ∉ adr (ρs s) σ := fun z => nDA (List.mem_append_right _ z)
    -- back to the comprehension's own frame
    have back : ∀ (s6 : S) (H6 : Hp), Rel K cl (Da :: O) bs (ρe a s6) σ4 H6 → adr (ρe a s6) σ4 = adr (ρs s) σ → Rel K cl (Da :: O) bs (ρs s6) (wipe σ vs) H6 ∧ adr (ρs s6) (wipe σ vs) = adr (ρs s) σ := fun s6 H6 R6 e6 => by
      obtain ⟨q1, q2⟩ := R6.wipe (hv2 a s6)
      rw [hw, w4 hne] at q1 q2
      exact ⟨q1, q2.trans e6⟩
    have k5 : ∀ x o, x ∉ adr (ρs s) σ → H1 x = some o → H5 x = some o := fun x o n e => g5.1 x o n (s3 _ _ (k2 x o n e))
    have ha5 : H5 Da = some (.lst acc) := g5.1 _ _ nD (s3 _ _ ha)
    have hA : ∀ a, a ∈ Da :: O → ∃ o, H3 a = some o := R3.al
    have fs5 : Sub (frz H2 (Da :: (O ++ adr (ρs s) σ))) (frz H5 (Da :: (O ++ adr (ρs s) σ))) := (frz_same s3).trans (Gr.sub (O := Da :: O) g5 hA)
    cases b with
    | false =>
      obtain ⟨b1, b2⟩ := back s5 H5 R5 e5s
      exact ⟨s5, k5, b1, b2, acc, qs, ha5, by omega, hl.mono fs5, qb⟩
    | true =>
      refine he a s5 (Da :: O) bs σ4 H5 _ R5 hbD (wp_mono (wp_bind.mp qb) (fun y qy vy H6 g6 R6 e6 iy => ?_) fun _ z => z.elim)
      rw [e5s] at g6 iy
      have e6s : adr (ρe a y.2) σ4 = adr (ρs s) σ := e6.trans e5s
      have ha6 : H6 Da = some (.lst acc) := g6.1 _ _ nD ha5
      have k6 : ∀ x o, x ∉ adr (ρs s) σ → H1 x = some o → H6 x = some o := fun x o n e => g6.1 x o n (k5 x o n e)
      have fs6 : Sub (frz H2 (Da :: (O ++ adr (ρs s) σ))) (frz H6 (Da :: (O ++ adr (ρs s) σ))) := fs5.trans (Gr.sub (O := Da :: O) g6 R5.al)
      obtain ⟨b1, b2⟩ := back y.2 H6 R6 e6s
      have keepD : ∀ x u, x ≠ Da → H6 x = some u → upd H6 Da (.lst (acc ++ [vy])) x = some u := fun x u n e => by rw [upd_ne n]; exact e
      have sD : Sub (frz H6 (Da :: (O ++ adr (ρs s) σ))) (frz (upd H6 Da (.lst (acc ++ [vy]))) (Da :: (O ++ adr (ρs s) σ))) := fun x u e => by
        obtain ⟨n, e⟩ := frz_some.mp e
        exact frz_some.mpr ⟨n, keepD x u (fun z => n (by rw [z]; exact List.mem_cons_self)) e⟩
      refine ⟨acc, ha6, by omega, y.2, fun x u n e => keepD x u (ne_of_none e hD) (k6 x u n e), b1.putO List.mem_cons_self (by rw [b2]; exact nD), b2, acc ++ [vy], qs ++ [y.1], upd_same, by rw [List.length_append, List.length_singleton]; omega, ((hl.mono fs6).append (.one iy)).mono sD, ?_⟩
      refine wp_mono (wp_bind.mp qy) (fun ys qys => ?_) fun _ z => z
      intro v H' h1 h2 h3 h4
      exact qys v H' h1 h2 h3 (by rw [List.append_assoc] at h4; exact h4)
end
def retR (M : Res (Fl MO Empty)) : Res (PV × MO) := M >>= fun f => match f with
  | .nx mo => .val (.non, mo)
  | .rt v [mo] => .val (v, mo)
  | .rt _ _ => .stuck
  | .ro _ _ => .stuck
def retN (M : Res (Fl Unit Empty)) : Res MO := M >>= fun f => match f with
  | .ro mo _ => .val mo
  | .nx _ => .stuck
  | .rt _ _ => .stuck
def apR0 (f : MO → Res (PV × MO)) : MO → List PV → Res (PV × MO)
  | mo, [] => f mo
  | _, _ => .stuck
def apR1 (f : MO → PV → Res (PV × MO)) : MO → List PV → Res (PV × MO)
  | mo, [a] => f mo a
  | _, _ => .stuck
def apR2 (f : MO → PV → PV → Res (PV × MO)) : MO → List PV → Res (PV × MO)
  | mo, [a, b] => f mo a b
  | _, _ => .stuck
def apR3 (f : MO → PV → PV → PV → Res (PV × MO)) : MO → List PV → Res (PV × MO)
  | mo, [a, b, c] => f mo a b c
  | _, _ => .stuck
def apN1 (f : PV → Res MO) : List PV → Res MO
  | [a] => f a
  | _ => .stuck
def apN2 (f : PV → PV → Res MO) : List PV → Res MO
  | [a, b] => f a b
  | _ => .stuck
def TaknR (n : Nat) (mf : MO → List PV → Res (PV × MO)) : Prop := ∀ mo ps, ps.length ≠ n → mf mo ps = .stuck
def TaknN (n : Nat) (mf : List PV → Res MO) : Prop := ∀ ps, ps.length ≠ n → mf ps = .stuck
theorem taknR1 {f : MO → PV → Res (PV × MO)} : TaknR 1 (apR1 f) := fun mo ps h => by
  unfold apR1; split
  · exact absurd rfl h
  · rfl
theorem taknR2 {f : MO → PV → PV → Res (PV × MO)} : TaknR 2 (apR2 f) := fun mo ps h => by
  unfold apR2; split
  · exact absurd rfl h
  · rfl
theorem taknN1 {f : PV → Res MO} : TaknN 1 (apN1 f) := fun ps h => by
  unfold apN1; split
  · exact absurd rfl h
  · rfl
section
variable {P : Program} {w : World} {K : PySem.W.Frag} {mg : Str → Option Value} {base : Heap} {cl : Str → Option Addr}
open PySem.Spec PyProof.Rows in
theorem fnR {x qual : Str} {st : Stmt} {f : Addr} {fd : FuncData} {N ps : List Str} {k n : Nat} {mf : MO → List PV → Res (PV × MO)} (F : Fun K x qual st f fd) (S : FnScope N ps (defScope st)) (hn : ps.length = n + 1) (tk : TaknR n mf)
    (h : ∀ (cdv : Value) (A : Around) (outer : List Env) (s : Shared) (H : Hp) (E : XK), Room k (A.deeper (envOfC qual (defScope st) s.heap.objs.size f cdv)) → ∀ (mo : MO) (qs : List PV), qs.length = n → mf mo qs = .stuck ∨
      ∃ t, PSs (cxOf (L2.CX P w) P w K mg base N qual (defScope st) f cdv A outer s H E) (defBody st) t ∧ ∃ M, Runs K cl (fun c d _ H' => E c d H') t (.rf 0 mo :: (qs.map Slot.fz ++ uns (N.length - (n + 1)))) M (fun mo : MO => .rf 0 mo :: uns (N.length - 1)) (fun l : Empty => nomatch l) (uns N.length) ∧ mf mo qs = retR M) :
    FnOk P w K mg base (L2.CX P w) (k + 1) f fd ps (spR K cl mf) := by
  have len : ∀ vs H Q E, spR K cl mf vs H Q E → vs.length = n + 1 := fun vs H Q E ⟨O, b, mo, us, qs, e, hb, hO, hm, hl, hw⟩ => by
    rw [e, List.length_cons, hl.len]
    refine Classical.byContradiction fun c => ?_
    rw [tk mo qs (by omega)] at hw
    exact hw
  refine F.okX S (fun vs H Q E h => (len vs H Q E h).trans hn.symm) (fun cdv A outer s H vs Q E hr hsp => ?_)
  have hvn := len vs H Q E hsp
  obtain ⟨O, b, mo, us, qs, rfl, hb, hO, hm, hl, hw⟩ := hsp
  have hun : us.length = n := by rw [List.length_cons] at hvn; omega
  have hqn : qs.length = n := by rw [← hl.len]; exact hun
  rcases h cdv A outer s H E hr mo qs hqn with e | ⟨t, ht, M, hM, e⟩
  · rw [e] at hw; exact hw.elim
  refine ⟨t, ht, ?_⟩
  rw [e] at hw
  have st0 : L2.start N (V.ref b :: us) = some (V.ref b) :: (us.map some ++ List.replicate (N.length - (n + 1)) none) := by
    unfold L2.start
    rw [List.length_cons, hun]
    rfl
  rw [st0]
  have ea : adr (.rf 0 mo :: (qs.map Slot.fz ++ uns (N.length - (n + 1)))) (some (V.ref b) :: (us.map some ++ List.replicate (N.length - (n + 1)) none)) = [b] := congrArg (b :: ·) (fz_adr _ _ _)
  have eo : owa (.rf 0 mo :: (qs.map Slot.fz ++ uns (N.length - (n + 1)))) (some (V.ref b) :: (us.map some ++ List.replicate (N.length - (n + 1)) none)) = [] := fz_owa _ _ _
  have sO : Sub (frz H O) (frz H (O ++ [b])) := frz_less fun a ha => by
    rcases List.mem_append.mp ha with c | c
    · exact c
    · have : a = b := by simpa using c
      rw [this]; exact hb
  have R : Rel K cl O [b] (.rf 0 mo :: (qs.map Slot.fz ++ uns (N.length - (n + 1)))) (some (V.ref b) :: (us.map some ++ List.replicate (N.length - (n + 1)) none)) H := by
    refine ⟨?_, by rw [ea]; simp, hO, by rw [eo]; exact fun _ z => nomatch z⟩
    rw [ea]
    refine .cons ⟨b, rfl, rfl, hm.mono sO fun _ e => e⟩ ?_
    have q := fz_rel (K := K) (cl := cl) (H := H) (N.length - (n + 1)) (hl.mono sO)
    have lift : ∀ {ρ : Ro} {σ : L2.St} {F H : Hp}, RelS K cl [] F H ρ σ → (∀ s ∈ ρ, (∃ p, s = .fz p) ∨ s = .un) → RelS K cl [b] F H ρ σ := fun {ρ σ F H} r => by
      induction r with
      | nil => exact fun _ => .nil
      | cons a r ih =>
        intro hs
        refine .cons ?_ (ih fun s h => hs s (List.mem_cons_of_mem _ h))
        rcases hs _ List.mem_cons_self with ⟨p, rfl⟩ | rfl
        · exact a
        · exact trivial
    refine lift q fun s hs => ?_
    rcases List.mem_append.mp hs with c | c
    · obtain ⟨p, _, rfl⟩ := List.mem_map.mp c
      exact .inl ⟨p, rfl⟩
    · exact .inr (List.eq_of_mem_replicate c)
  refine hM O [b] _ H _ R (fun a ha => by have : a = b := by simpa using ha
                                          rw [this]; exact hb) (wp_mono (wp_bind.mp hw) (fun fl q => ?_) fun c q => q.elim)
  rw [ea]
  have keep : ∀ {A' : List Addr} {H' : Hp}, Gr [b] H A' H' → ∀ x o, x ≠ b → H x = some o → H' x = some o := fun {A' H'} g x o ne e => g.1 x o (by simpa using ne) e
  cases fl with
  | nx mo' =>
    intro σ' H' g R'
    have q' : ∀ v H', (∀ x o, x ≠ b → H x = some o → H' x = some o) → MoIs K cl (frz H' O) H' b mo' → Is K cl (frz H' O) v .non → Q v H' := q
    refine q' .non H' (keep g) ?_ .non
    have r0 : (Slot.rf 0 mo' :: uns (N.length - 1) : Ro)[0]? = some (.rf 0 mo') := rfl
    obtain ⟨x, e, a, rfl, hk, hmo⟩ := R'.sl.get r0
    have : b = a := by simpa using hk
    subst this
    exact hmo.mono (frz_less fun a ha => List.mem_append_left _ ha) fun _ e => e
  | rt v r =>
    match r, q with
    | [mo'], q =>
      have q' : ∀ v' H', (∀ x o, x ≠ b → H x = some o → H' x = some o) → MoIs K cl (frz H' O) H' b mo' → Is K cl (frz H' O) v' v → Q v' H' := q
      exact fun w' H' g i hbm => q' w' H' (keep g) (hbm 0 b mo' rfl rfl) i
  | ro mo r => exact q.elim
  | bk l => exact nomatch l
  | ct l => exact nomatch l
open PySem.Spec PyProof.Rows in
theorem fnN {x qual : Str} {st : Stmt} {f : Addr} {fd : FuncData} {N ps : List Str} {k n : Nat} {mf : List PV → Res MO} (F : Fun K x qual st f fd) (S : FnScope N ps (defScope st)) (hn : ps.length = n) (tk : TaknN n mf)
    (h : ∀ (cdv : Value) (A : Around) (outer : List Env) (s : Shared) (H : Hp) (E : XK), Room k (A.deeper (envOfC qual (defScope st) s.heap.objs.size f cdv)) → ∀ qs : List PV, qs.length = n →
      ∃ t, PSs (cxOf (L2.CX P w) P w K mg base N qual (defScope st) f cdv A outer s H E) (defBody st) t ∧ ∃ M, Runs K cl (fun c d _ H' => E c d H') t (qs.map Slot.fz ++ uns (N.length - n)) M (fun _ : Unit => uns N.length) (fun l : Empty => nomatch l) (uns N.length) ∧ mf qs = retN M) :
    FnOk P w K mg base (L2.CX P w) (k + 1) f fd ps (spN K cl mf) := by
  have len : ∀ vs H Q E, spN K cl mf vs H Q E → vs.length = n := fun vs H Q E ⟨O, qs, hO, hl, hw⟩ => by
    rw [hl.len]
    refine Classical.byContradiction fun c => ?_
    rw [tk qs c] at hw
    exact hw
  refine F.okX S (fun vs H Q E h => (len vs H Q E h).trans hn.symm) (fun cdv A outer s H vs Q E hr hsp => ?_)
  have hvn := len vs H Q E hsp
  obtain ⟨O, qs, hO, hl, hw⟩ := hsp
  have hqn : qs.length = n := by rw [← hl.len]; exact hvn
  obtain ⟨t, ht, M, hM, e⟩ := h cdv A outer s H E hr qs hqn
  refine ⟨t, ht, ?_⟩
  rw [e] at hw
  have st0 : L2.start N vs = vs.map some ++ List.replicate (N.length - n) none := by unfold L2.start; rw [hvn]
  rw [st0]
  have R : Rel K cl O [] (qs.map Slot.fz ++ uns (N.length - n)) (vs.map some ++ List.replicate (N.length - n) none) H :=
    ⟨by rw [fz_adr, List.append_nil]; exact fz_rel _ hl, by rw [fz_adr]; exact List.nodup_nil, hO, by rw [fz_owa]; exact fun _ z => nomatch z⟩
  refine hM O [] _ H _ R (fun _ z => nomatch z) (wp_mono (wp_bind.mp hw) (fun fl q => ?_) fun c q => q.elim)
  rw [fz_adr]
  cases fl with
  | nx s => exact q.elim
  | rt v r => exact q.elim
  | ro mo r =>
    intro p H' g n hm _
    refine q p H' (fun x o e => g.1 x o (fun z => nomatch z) e) ?_ hm
    rcases g.2 p (by simp) with c | c
    · cases c
    · exact c
  | bk l => exact nomatch l
  | ct l => exact nomatch l
end
section
variable {K : PySem.W.Frag} {cl : Str → Option Addr} {W : WX} {bs O A A1 B : List Addr} {F H H' H1 : Hp} {ρ ρ' ρx ρh : Ro} {σ : St} {S S1 S2 L : Type} {ρs : S → Ro} {ρn : S1 → Ro} {ρl : L → Ro} {D : Ends} {t u v tb : TS} {te ta tc td : TE} {ma mb : S → Res (PV × S)} {tr : TA} {ml : Res (List PV)} {mls : S → Res (List PV × S)}
def moL : MO → Res (List PV)
  | .lst l => .val l
  | _ => .stuck
def moD : MO → Res (List (Key × PV))
  | .dct l => .val l
  | _ => .stuck
theorem nd_callN {mf : List PV → Res MO} (hl : PurL K cl W tr ρ ml) : NewD K cl W (tCallS (spN K cl mf) (WE W) tr) ρ (ml >>= fun ps => noX (mf ps) >>= moD) := fun O bs σ H Q R q => by
  refine hl O bs σ H _ R (wp_mono (wp_bind.mp q) (fun ps qs vs H1 s1 i1 => ?_) fun _ z => z)
  refine ⟨O ++ adr ρ σ, ps, fun a h => (R.same s1).got h, i1, wp_mono (wp_noX (E' := fun _ => False) (wp_bind.mp qs)) (fun mo qm p H' s hp hm => ?_) fun _ z => z⟩
  cases mo with
  | dct l =>
    obtain ⟨vs', h1, h2⟩ := hm
    exact qm p vs' H' (s1.trans s) (none_back s1 hp) h1 h2
  | _ => exact qm.elim
def popL (l : List PV) (i : PV) : Res (PV × List PV) := match i with
  | .int i => if -(2 ^ 63) ≤ i ∧ i < 2 ^ 63 then match seqIndex? i l.length with
      | some k => match l[k]? with
        | some y => .val (y, l.eraseIdx k)
        | none => .stuck
      | none => .stuck
    else .stuck
  | _ => .stuck
theorem ef_pop {i : Nat} {sl : S → Slot} {get : S → List PV} {put : S → List PV → S} (hi : ∀ s, (ρs s)[i]? = some (sl s)) (hs : ∀ s, sl s = .ow (.lst (get s)) ∨ ∃ k, sl s = .rf k (.lst (get s))) (hp : ∀ s l, (ρs s).set i (reSl (sl s) (.lst l)) = ρs (put s l)) (ha : Eff K cl ta ρs ma) :
    Eff K cl (tBM K "list" rPopAt (tVar i) (tCons ta tNil)) ρs (fun s => ma s >>= fun k => popL (get k.2) k.1 >>= fun r => .val (r.1, put k.2 r.2)) := fun s O bs σ H Q R hb q => by
  have got : ∀ s' H', Rel K cl O bs (ρs s') σ H' → ∃ a vs, σ[i]? = some (some (.ref a)) ∧ H' a = some (.lst vs) ∧ IsL K cl (frz H' (O ++ adr (ρs s') σ)) vs (get s') := fun s' H' R => by
    obtain ⟨x, e, q⟩ := R.sl.get (hi s')
    rcases hs s' with h | ⟨k, h⟩
    · rw [h] at q; obtain ⟨a, rfl, vs, h1, h2⟩ := q; exact ⟨a, vs, e, h1, h2⟩
    · rw [h] at q; obtain ⟨a, rfl, _, vs, h1, h2⟩ := q; exact ⟨a, vs, e, h1, h2⟩
  obtain ⟨a, vs, hA, hv, hl⟩ := got _ _ R
  refine ⟨_, hA, .inl ⟨rfl, _, .inl (.inl hv)⟩, ha s O bs σ H _ R hb (wp_mono (wp_bind.mp q) (fun k qk v H1 g1 R1 e1 i1 => ?_) fun _ z => z)⟩
  obtain ⟨a', vs', hA', hv', hl'⟩ := got _ _ R1
  rw [hA] at hA'
  cases hA'
  have qk := wp_bind.mp qk
  unfold popL at qk
  split at qk
  · next j hj =>
    rw [hj] at i1
    cases i1
    split at qk
    · next c =>
      split at qk
      · next n hn =>
        split at qk
        · next y hy =>
          obtain ⟨vy, h1, h2⟩ := hl'.get hy
          obtain ⟨R2, g2⟩ := R1.put (m' := .lst ((get k.2).eraseIdx n)) (o := .lst (vs'.eraseIdx n)) (hi k.2) (hs k.2) hA ⟨_, upd_same, IsL.erase n hl'⟩
          have e2 := (adr_re (σ := σ) (m' := .lst ((get k.2).eraseIdx n)) (hi k.2)).1
          have g2e : Gr (adr (ρs s) σ) H1 (adr (ρs s) σ) (upd H1 a (.lst (vs'.eraseIdx n))) := by rw [e2, e1] at g2; exact g2
          rw [hp] at R2 e2
          refine ⟨a, vs', j, n, vy, rfl, rfl, hv', c.1, c.2, by rw [hl'.len]; exact hn, h1, qk vy _ (g1.trans g2e) R2 (e2.trans e1) ?_⟩
          rw [← e1]
          exact h2.mono (by rw [e1]; exact g2e.sub R1.al)
        · exact qk.elim
      · exact qk.elim
    · exact qk.elim
  · exact qk.elim
end
open PySem.Spec PyProof.Rows in
section
variable {K : PySem.W.Frag} {cl : Str → Option Addr} {W : WX} {bs O A A1 B : List Addr} {F H H' H1 : Hp} {ρ : Ro} {σ : L2.St} {ta tb : TE} {ma mb : Res PV}
def rgL (lo hi : Int) : Res (List PV) := if -(2 ^ 62) ≤ lo ∧ lo < 2 ^ 62 ∧ -(2 ^ 62) ≤ hi ∧ hi < 2 ^ 62 ∧ (hi - lo).toNat ≤ 2 ^ 24 then .val (rngP lo hi) else .stuck
theorem is_rg : ∀ (l : List Nat) (lo : Int), IsL K cl F (l.map fun i => V.int (lo + (i : Nat))) (l.map fun i => PV.int (lo + (i : Nat)))
  | [], _ => .nil
  | _ :: l, lo => .cons (.int _) (is_rg l lo)
theorem wp_rgL {lo hi : Int} {Q : List PV → Prop} {E : Str → Prop} (h : wp (rgL lo hi) Q E) : RgOk lo hi ∧ Q (rngP lo hi) := by
  unfold rgL at h
  split at h
  · next c => exact ⟨c, h⟩
  · exact h.elim
def PRgP (K : PySem.W.Frag) (cl : Str → Option Addr) (W : WX) (t : L2.St → Hp → (Int → Int → Hp → Prop) → Prop) (ρ : Ro) (m : Res (Int × Int)) : Prop := ∀ (O bs : List Addr) (σ : L2.St) (H : Hp) (Q : Int → Int → Hp → Prop), Rel K cl O bs ρ σ H →
  wp m (fun r => ∀ H', Sub H H' → Q r.1 r.2 H') (XW cl W σ H) → t σ H Q
theorem rg_1 (ha : Vw K cl W ta ρ ma) : PRgP K cl W (tRg1 ta) ρ (ma >>= partP >>= fun i => .val (0, i)) := fun O bs σ H Q R q => by
  rw [wp_bind, wp_bind] at q
  refine ha O bs σ H _ R (wp_mono q (fun x qx v1 H1 s1 i1 => ?_) fun _ z => z)
  unfold partP at qx
  split at qx
  · cases isV_int i1; exact ⟨_, rfl, qx H1 s1⟩
  · exact qx.elim
theorem nw_listRg {t : L2.St → Hp → (Int → Int → Hp → Prop) → Prop} {m : Res (Int × Int)} (h : PRgP K cl W t ρ m) : New K cl W (tLstRg t) ρ (m >>= fun r => rgL r.1 r.2) := fun O bs σ H Q R q => by
  refine h O bs σ H _ R (wp_mono (wp_bind.mp q) (fun r qr H1 s1 => ?_) fun _ z => z)
  obtain ⟨ok, qr⟩ := wp_rgL qr
  exact ⟨ok, fun p hp => qr p _ _ (s1.trans (sub_new hp _)) (none_back s1 hp) upd_same (is_rg _ _)⟩
theorem pu_tupRg {t : L2.St → Hp → (Int → Int → Hp → Prop) → Prop} {m : Res (Int × Int)} (h : PRgP K cl W t ρ m) : Pur K cl W (tTupRg t) ρ (m >>= fun r => rgL r.1 r.2 >>= fun l => .val (.tup l)) := fun O bs σ H Q R q => by
  refine h O bs σ H _ R (wp_mono (wp_bind.mp q) (fun r qr H1 s1 => ?_) fun _ z => z)
  obtain ⟨ok, qr⟩ := wp_rgL (wp_bind.mp qr)
  exact ⟨ok, fun p hp => qr _ _ (s1.trans (sub_new hp _)) (new_tup (fun a h => (R.same s1).got h) hp (is_rg _ _))⟩
theorem New.pur' {t : TE} {α : Type} {m : Res α} {f : α → Res (List PV)} (h : New K cl W t ρ (m >>= f)) : Pur K cl W t ρ (m >>= fun x => f x >>= fun l => .val (.lst l)) := by
  have q := h.pur
  cases m <;> exact q
end
section
variable {P : Program} {w : World} {K : PySem.W.Frag} {mg : Str → Option Value} {base : Heap} {cl : Str → Option Addr}
def spLaw (K : PySem.W.Frag) : Sp := fun vs H Q _ => ∃ (a : Addr) (ns : List Int), vs = [.ref a] ∧ SqL K H a (ns.map V.int) ∧ ns.length ≤ 63 ∧ ∀ H', Q (.bl true) H'
open PySem.Spec PyProof.Rows in
theorem fnLaw {x qual sx : Str} {st : Stmt} {f : Addr} {fd : FuncData} {N : List Str} {k : Nat} (F : Fun K x qual st f fd) (S : FnScope N [sx] (defScope st)) {ml : List Int → Res PV} (hml : ∀ ns : List Int, ns.length ≤ 63 → ml ns = .val (.bl true))
    (h : ∀ (cdv : Value) (A : Around) (outer : List Env) (s : Shared) (H : Hp) (E : XK), Room k (A.deeper (envOfC qual (defScope st) s.heap.objs.size f cdv)) → ∀ ns : List Int,
      ∃ t, PSs (cxOf CX0 P w K mg base N qual (defScope st) f cdv A outer s H E).nox (defBody st) t ∧ ∃ M, Runs K cl (fun c d _ H' => E0 c d H') t (.fz (.fls (ns.map PV.int)) :: uns (N.length - 1)) M (fun _ : Unit => uns N.length) (fun l : Empty => nomatch l) (uns N.length) ∧ ml ns = retF M) :
    FnOk P w K mg base CX0 (k + 1) f fd [sx] (spLaw K) := by
  refine F.ok S (fun vs H Q E h => ?_) (fun cdv A outer s H vs Q E hr hsp => ?_)
  · obtain ⟨_, _, rfl, _⟩ := h; rfl
  obtain ⟨a, ns, rfl, hS, h63, k⟩ := hsp
  obtain ⟨t, ht, M, hM, e⟩ := h cdv A outer s H E hr ns
  refine ⟨t, ht, ?_⟩
  have hw := (hml ns h63).symm.trans e
  have hw : wp (retF M) (fun r => r = .bl true) (fun _ => False) := by rw [← hw]; exact rfl
  have R : Rel K cl [] [] (.fz (.fls (ns.map PV.int)) :: uns (N.length - 1)) (some (V.ref a) :: List.replicate (N.length - 1) none) H := by
    have ea : adr (.fz (.fls (ns.map PV.int)) :: uns (N.length - 1)) (some (V.ref a) :: List.replicate (N.length - 1) none) = [] := uns_adr _ _
    refine ⟨?_, by rw [ea]; exact List.nodup_nil, fun _ z => (nomatch z), fun _ _ z => nomatch z⟩
    rw [ea]
    refine .cons ⟨_, rfl, .fls (Sub.sqL (F := H) (F' := frz H ([] ++ [])) (fun x o e => frz_some.mpr ⟨(fun z => nomatch z), e⟩) hS) (IsL.of_ints ns)⟩ ?_
    exact fz_rel (vs := []) (qs := []) _ .nil
  refine hM [] [] _ H _ R (fun _ z => nomatch z) (wp_mono (wp_bind.mp hw) (fun fl q => ?_) fun c q => q.elim)
  cases fl with
  | nx s => exact absurd (show PV.non = .bl true from q) (fun z => nomatch z)
  | rt v r =>
    have q : v = .bl true := q
    subst q
    exact fun w' H' g i _ => by cases i; exact k H'
  | ro mo r => exact q.elim
  | bk l => exact nomatch l
  | ct l => exact nomatch l
end
section
open PySem.Spec PyProof.Rows
end
section
variable {K : PySem.W.Frag} {cl : Str → Option Addr}
end
section
open PySem.Spec PyProof.Rows
end
section
variable {K : PySem.W.Frag} {cl : Str → Option Addr}
end
section
open PySem.Spec PyProof.Rows
variable {X : Cx} {CX : CXT} {k : Nat} {f C : Addr} {fd : FuncData} {ps : List Str} {sp : Sp} {E : L2.St → XK} {x m : Str} {p pos apos : Pos} {e o : Expr} {es : List Expr} {ta t1 t2 : TE} {t : TA}
end
def putFP (f : Str) (p : PV) : List (Str × PV) → List (Str × PV)
  | [] => [(f, p)]
  | (g, x) :: r => if g = f then (g, p) :: r else (g, x) :: putFP f p r
section
variable {K : PySem.W.Frag} {cl : Str → Option Addr} {F : Hp}
theorem IsF.len : ∀ {vs : List (Str × V)} {fs : List (Str × PV)}, IsF K cl F vs fs → vs.length = fs.length
  | _, _, .nil => rfl
  | _, _, .cons _ r => congrArg (· + 1) (IsF.len r)
theorem IsF.put {f : Str} {v : V} {p : PV} (i : Is K cl F v p) : ∀ {vs : List (Str × V)} {fs : List (Str × PV)}, IsF K cl F vs fs → IsF K cl F (putF f v vs) (putFP f p fs)
  | _, _, .nil => .cons i .nil
  | (g, _) :: _, _, .cons a r => by
    unfold putF putFP
    by_cases c : g = f
    · rw [if_pos c, if_pos c]; exact .cons i r
    · rw [if_neg c, if_neg c]; exact .cons a (IsF.put i r)
end
section
variable (K : PySem.W.Frag) (cl : Str → Option Addr)
end
section
variable {K : PySem.W.Frag} {cl : Str → Option Addr} {W : WX} {bs O A A1 B : List Addr} {F H H' H1 : Hp} {ρ ρ' ρx ρh : Ro} {σ : St} {S S1 S2 L : Type} {ρs : S → Ro} {ρn : S1 → Ro} {ρl : L → Ro} {D : Ends} {t u v tb t1 t2 : TS} {te ta tc td : TE} {m ma mb : Res PV} {tr : TA} {ml : Res (List PV)}
end
section
open PySem.Spec PyProof.Rows
theorem cells_app : ∀ (ns : List (Str × NameKind)) (n : Nat) (acc : List (Str × Addr)), cellsFrom n ns acc = cellsFrom n ns [] ++ acc
  | [], _, _ => rfl
  | (x, kd) :: r, n, acc => by
    unfold cellsFrom
    by_cases c : (kd == NameKind.cell) = true
    · rw [if_pos c, if_pos c, cells_app r (n + 1) ((x, n) :: acc), cells_app r (n + 1) [(x, n)], List.append_assoc]
      rfl
    · rw [if_neg c, if_neg c]
      exact cells_app r n acc
abbrev envS (qual : Str) (sc : Scope) (L f cc : Addr) (cd : Value) : Env := PySem.W.envX qual sc L f cd (cellsFrom (L + 1) sc.names [] ++ [(("__class__" : Str), cc)])
variable {M : Model} {A : Around} {E : Value → Shared → Prop}
theorem look_app {C D : List (Str × Addr)} {n : Str} {c : Addr} (h : C.lookup n = some c) : (C ++ D).lookup n = some c := by
  rw [List.lookup_append, h]
  rfl
section
variable {b0 st : Shared} {ml mc : Str → Option Value} {ev : Env} {C : List (Str × Addr)} {n : Str} {u : Value}
theorem put_loc {R : Unit → Shared → Prop} (x : InCallC b0 ev.locals ml C mc st) (kf : ev.scope.kind = .function) (kn : ev.kindOf n = some .local)
    (h : ∀ t, InCallC b0 ev.locals (fun y => if y = n then some u else ml y) C mc t → R () t) : wpAny M A (storeName ev n u) R E st := by
  refine wpAny_storeName_local kn x.toInCall.ns (fun g gn sb => h _ ?_) (by rw [kf]; rfl)
  refine ⟨⟨?_, gn, fun b o e => ?_, x.toInCall.fresh⟩, fun k c hc => ?_, x.apart, x.above⟩
  · obtain ⟨g0, tk, e0⟩ := x.toInCall.same
    subst e0
    exact ⟨g, _, rfl⟩
  · have lt := Heap.lt_size e
    have fr := x.toInCall.fresh
    exact sb.extBut b o (Nat.ne_of_lt (Nat.lt_of_lt_of_le lt fr)) (x.toInCall.keep b o e)
  · have ab := x.above k c (mem_of_lookup hc)
    exact (x.cell k c hc).sameBut sb (Nat.ne_of_gt ab)
theorem put_cell {R : Unit → Shared → Prop} {c : Addr} (x : InCallC b0 ev.locals ml C mc st) (kf : ev.scope.kind = .function) (kn : ev.kindOf n = some .cell) (hc : C.lookup n = some c) (he : ev.cells.lookup n = some c)
    (h : ∀ t, InCallC b0 ev.locals ml C (fun y => if y = n then some u else mc y) t → R () t) : wpAny M A (storeName ev n u) R E st := by
  have ab := x.above n c (mem_of_lookup hc)
  refine wpAny_storeName_cell kf kn he (x.cell n c hc) fun g gc sb => h _ ?_
  refine ⟨⟨?_, x.toInCall.ns.sameBut sb (Nat.ne_of_lt ab), fun b o e => ?_, x.toInCall.fresh⟩, fun k c2 hk => ?_, x.apart, x.above⟩
  · obtain ⟨g0, tk, e0⟩ := x.toInCall.same
    subst e0
    exact ⟨g, _, rfl⟩
  · have lt := Heap.lt_size e
    have fr := x.toInCall.fresh
    exact sb.extBut b o (Nat.ne_of_lt (Nat.lt_trans (Nat.lt_of_lt_of_le lt fr) ab)) (x.toInCall.keep b o e)
  · by_cases q : k = n
    · subst q
      rw [hc] at hk
      cases hk
      simpa using gc
    · rw [if_neg q]
      exact (x.cell k c2 hk).sameBut sb fun z => q (name_of_addr x.apart (mem_of_lookup hk) (z ▸ mem_of_lookup hc))
theorem put_all (f : Str × Value → PUnit → Sem (ForInStep PUnit)) (hf : ∀ y v u, f (y, v) u = (do storeName ev y v; pure (.yield ⟨⟩))) (kf : ev.scope.kind = .function) (sub : ∀ y c, C.lookup y = some c → ev.cells.lookup y = some c) :
    ∀ (bs : List (Str × Value)) (ml mc : Str → Option Value) (st : Shared) (R : PUnit → Shared → Prop), InCallC b0 ev.locals ml C mc st →
      (∀ y ∈ bs, ev.kindOf y.1 = some .local ∨ (ev.kindOf y.1 = some .cell ∧ ∃ c, C.lookup y.1 = some c)) →
      (∀ t, InCallC b0 ev.locals (bindL ev.kindOf bs ml) C (bindC ev.kindOf bs mc) t → R ⟨⟩ t) → wpAny M A (forIn bs ⟨⟩ f) R E st
  | [], _, _, st, _, x, _, h => by
    rw [List.forIn_nil]
    exact wpAny_pure (h st x)
  | (y, v) :: r, ml, mc, st, R, x, kd, h => by
    have kr := fun z hz => kd z (List.mem_cons_of_mem _ hz)
    rw [List.forIn_cons, hf]
    rcases kd (y, v) List.mem_cons_self with l | ⟨l, c, hc⟩
    · refine wpAny_bind (wpAny_bind (put_loc x kf l fun t xt => wpAny_pure (put_all f hf kf sub r _ _ t R xt kr fun t2 x2 => h t2 ?_)))
      unfold bindL bindC
      rw [if_pos l, if_pos l]
      exact x2
    · have nl : ¬ ev.kindOf y = some .local := by
        rw [show ev.kindOf y = some .cell from l]
        decide
      refine wpAny_bind (wpAny_bind (put_cell x kf l hc (sub y c hc) fun t xt => wpAny_pure (put_all f hf kf sub r _ _ t R xt kr fun t2 x2 => h t2 ?_)))
      unfold bindL bindC
      rw [if_neg nl, if_neg nl]
      exact x2
end
theorem env_new {st : Shared} {sc : Scope} {gl : Addr} {bs : List (Str × Value)} {qual : Str} {fu : Option Addr} {cd : Value} {bl : Addr} {R : Env → Shared → Prop} {D : List (Str × Addr)} (kf : sc.kind = .function)
    (kd : ∀ y ∈ bs, sc.names.lookup y.1 = some .local ∨ (sc.names.lookup y.1 = some .cell ∧ ∃ c, (cellsFrom (st.heap.objs.size + 1) sc.names []).lookup y.1 = some c))
    (h : ∀ ev, ev = newEnv sc st.heap.objs.size gl (cellsFrom (st.heap.objs.size + 1) sc.names [] ++ D) qual fu cd none bl →
      ∀ t, InCallC st ev.locals (bindL ev.kindOf bs fun _ => none) (cellsFrom (st.heap.objs.size + 1) sc.names []) (bindC ev.kindOf bs fun _ => none) t → R ev t) :
    wpAny M A (newFunctionEnv sc gl D bs qual fu cd none bl) R E st := by
  simp only [newFunctionEnv, Option.isSome_none, Bool.false_eq_true, if_false]
  refine wpAny_bind (wpAny_alloc ?_)
  have sz : ({ st with heap := st.heap.push { cls := .type "frame", data := .dict #[] } } : Shared).heap.objs.size = st.heap.objs.size + 1 := Heap.size_push ..
  refine wpAny_bind (wpAny_layCells _ (fun x k cs => by cases q : k == NameKind.cell <;> simp) _ _ _ _ ?_)
  have ok := cellsFrom_ok sc.names (st.heap.push { cls := .type "frame", data := .dict #[] }) (st.heap.objs.size + 1) [] ⟨fun _ _ z => (nomatch z), List.Pairwise.nil⟩ (by rw [Heap.size_push]; exact Nat.le_refl _)
  rw [Heap.size_push] at ok
  rw [sz, cells_app]
  refine wpAny_bind (put_all (b0 := st) (C := cellsFrom (st.heap.objs.size + 1) sc.names []) (ev := newEnv sc st.heap.objs.size gl (cellsFrom (st.heap.objs.size + 1) sc.names [] ++ D) qual fu cd none bl)
    _ (fun _ _ _ => rfl) kf (fun y c z => look_app z) bs (fun _ => none) (fun _ => none) _ _ ?_ kd fun t x => wpAny_pure (h _ rfl t x))
  have keep := fun b o (e : st.heap.get? b = some o) => pushCells_keeps sc.names _ b o (Heap.get?_push_of_some { cls := .type "frame", data := .dict #[] } e)
  exact ⟨⟨⟨_, _, rfl⟩, (Heap.Ns.new st.heap (.type "frame")).keeps (pushCells_keeps _ _), keep, Nat.le_refl _⟩, fun y c z => (ok.empty y c (mem_of_lookup z)).1, ok.apart, fun y c z => (ok.empty y c z).2⟩
structure ScopeS (N P : List Str) (sc : Scope) : Prop where
  kind : sc.kind = .function
  co : sc.isCoroutine = false
  gen : sc.isGenerator = false
  nd : N.Nodup
  pre : N.take P.length = P
  par : ∀ x ∈ P, sc.names.lookup x = some .local ∨ sc.names.lookup x = some .cell
  fr : ∀ y ∈ sc.names, y.2 = .free → y.1 = ("__class__" : Str)
def cxS (CX : CXT) (P : Program) (w : World) (K : PySem.W.Frag) (mg : Str → Option Value) (base : Heap) (N : List Str) (qual : Str) (sc : Scope) (f cc : Addr) (cd : Value) (A : Around) (outer : List Env) (s : Shared) (H : Hp) (E : XK) : Cx where
  prog := P
  w := w
  K := K
  mg := mg
  base := base
  A := A.deeper (envS qual sc s.heap.objs.size f cc cd)
  N := N
  s_0 := s
  H_0 := H
  env := envS qual sc s.heap.objs.size f cc cd
  outer := outer
  stack := envS qual sc s.heap.objs.size f cc cd :: outer
  ex := []
  calm := true
  fn := fun y => !(y == ("__class__" : Str))
  pn := []
  xe := fun e t => wpAny (model P w) (A.deeper (envS qual sc s.heap.objs.size f cc cd)) (leaving (envS qual sc s.heap.objs.size f cc cd) e) (fun _ t2 => CX outer H s E e t2) (fun e2 t2 => CX outer H s E e2 t2) t
theorem look_two {C : List (Str × Addr)} {x y : Str} {c d : Addr} (h : (C ++ [(x, d)]).lookup y = some c) : C.lookup y = some c ∨ (y = x ∧ c = d) := by
  rw [List.lookup_append] at h
  cases e : C.lookup y with
  | some z =>
    rw [e] at h
    exact .inl h
  | none =>
    rw [e] at h
    have h : List.lookup y [(x, d)] = some c := h
    have m := mem_of_lookup h
    have m := List.mem_singleton.mp m
    cases m
    exact .inr ⟨rfl, rfl⟩
section
variable {CX : CXT} {P : Program} {w : World} {K : PySem.W.Frag} {mg : Str → Option Value} {base : Heap} {N ps : List Str} {qual : Str} {sc : Scope} {f cc D : Addr} {cd : Value} {A : Around} {outer : List Env} {s s1 : Shared} {H : Hp} {E : XK} {us : List Value} {vs : List V}
theorem inv_startS {cl : Value} {cld : Option Addr} {csl : Array (Option Value)} (S : ScopeS N ps sc) (hd : A.handled = none) (e0 : Env0 P w K mg base A outer s H) (kc : K.lookup cc = some ⟨cl, cld, .cell (some (.ref D)), csl⟩) (hl : vs.length = ps.length) (r : Vals vs us)
    (x : InCallC s s.heap.objs.size (bindL (envS qual sc s.heap.objs.size f cc cd).kindOf (ps.zip us) fun _ => none) (cellsFrom (s.heap.objs.size + 1) sc.names []) (bindC (envS qual sc s.heap.objs.size f cc cd).kindOf (ps.zip us) fun _ => none) s1) :
    Inv (cxS CX P w K mg base N qual sc f cc cd A outer s H E) [] (start N vs) H s1 := by
  have pn : ps.length ≤ N.length := by
    have q := congrArg List.length S.pre
    rw [List.length_take] at q
    omega
  obtain ⟨h1, tk, rfl, hk⟩ := x.done
  have none' : ∀ b : Addr, b ∉ (cxS CX P w K mg base N qual sc f cc cd A outer s H E).ex := fun b z => absurd (show b ∈ ([] : List Addr) from z) (by simp)
  have kb := e0.mod.kin _ _ kc
  have cb := (e0.bs _ _ kb).1
  have clt : cc < s.heap.objs.size := Heap.lt_size cb
  have two : ∀ y c, (cxS CX P w K mg base N qual sc f cc cd A outer s H E).env.cells.lookup y = some c → (cellsFrom (s.heap.objs.size + 1) sc.names []).lookup y = some c ∨ (y = ("__class__" : Str) ∧ c = cc) := fun y c h => look_two h
  refine ⟨⟨e0.mod, S.kind, rfl, rfl, Nat.le_refl _, fun y z c q1 q2 => ?_, fun y hy => ?_, fun y c hf h => ?_, fun _ => hd, Around.frames_deeper e0.frames, .inr ⟨rfl, rfl⟩, fun b z => absurd z (none' b), e0.bs, e0.bsz, fun b _ _ => none' b, fun b z => absurd z (none' b), e0.funs, e0.frf⟩,
    rfl, e0.bare, Un.kept hk, ⟨_, x.toInCall.ns, fun i y v q1 q2 q3 => ?_⟩, fun y c h => ?_, e0.hok.fresh (Nat.le_refl _), fun y c h => ?_, fun p hp => absurd (show p ∈ ([] : List (Addr × Obj)) from hp) (by simp), e0.hok.kept hk, ?_⟩
  · rcases two y c q1 with a1 | ⟨a1, a2⟩
    · rcases two z c q2 with b1 | ⟨b1, b2⟩
      · exact name_of_addr x.apart (mem_of_lookup a1) (mem_of_lookup b1)
      · have ab := x.above y c (mem_of_lookup a1)
        rw [b2] at ab
        exact absurd (Nat.lt_trans clt ab) (Nat.lt_irrefl _)
    · rcases two z c q2 with b1 | ⟨b1, b2⟩
      · have ab := x.above z c (mem_of_lookup b1)
        rw [a2] at ab
        exact absurd (Nat.lt_trans clt ab) (Nat.lt_irrefl _)
      · rw [a1, b1]
  · have hy : sc.names.lookup y = some .cell ∨ sc.names.lookup y = some .free := hy
    rcases hy with hy | hy
    · obtain ⟨c, e⟩ := cell_has (n := s.heap.objs.size + 1) hy
      exact ⟨c, look_app e⟩
    · have e := S.fr _ (mem_of_lookup hy) rfl
      have e : y = ("__class__" : Str) := e
      subst e
      show ∃ c, (cellsFrom (s.heap.objs.size + 1) sc.names [] ++ [(("__class__" : Str), cc)]).lookup ("__class__" : Str) = some c
      rw [List.lookup_append]
      cases q : (cellsFrom (s.heap.objs.size + 1) sc.names []).lookup ("__class__" : Str) with
      | some c => exact ⟨c, rfl⟩
      | none => exact ⟨cc, by simp [List.lookup]⟩
  · rcases two y c h with a1 | ⟨a1, a2⟩
    · exact Nat.le_of_lt (x.above y c (mem_of_lookup a1))
    · subst a1
      have hf : (!(("__class__" : Str) == ("__class__" : Str))) = true := hf
      rw [beq_self_eq_true] at hf
      cases hf
  · have hi : i < vs.length := by
      refine Classical.byContradiction fun hi => ?_
      unfold L2.start at q2
      rw [List.getElem?_append_right (by rw [List.length_map]; omega), List.getElem?_replicate] at q2
      split at q2 <;> cases q2
    have ha : vs[i]? = some v := by
      unfold L2.start at q2
      rw [List.getElem?_append_left (by rw [List.length_map]; exact hi), List.getElem?_map, List.getElem?_eq_getElem hi] at q2
      rw [List.getElem?_eq_getElem hi]
      exact Option.some.inj q2
    obtain ⟨u, hu, rv⟩ := r.get ha
    have hp : ps[i]? = some y := by
      rw [← S.pre, List.getElem?_take_of_lt (by omega)]
      exact q1
    have ndP : ps.Nodup := by
      rw [← S.pre]
      exact S.nd.sublist (List.take_sublist _ _)
    refine ⟨u, rv, ?_⟩
    rcases S.par y (List.mem_of_getElem? hp) with k | k
    · exact .inl ⟨k, bindL_get ndP hp hu k⟩
    · obtain ⟨c, e⟩ := cell_has (n := s.heap.objs.size + 1) k
      have q := x.cell y c e
      rw [bindC_get ndP hp hu (by show sc.names.lookup y ≠ _; rw [k]; decide)] at q
      exact .inr ⟨.inl k, c, look_app e, q⟩
  · rcases two y c h with a1 | ⟨_, a2⟩
    · exact ⟨_, x.cell y c a1⟩
    · rw [a2]
      exact ⟨_, _, hk _ _ cb, rfl⟩
  · rcases two y c h with a1 | ⟨_, a2⟩
    · exact e0.hok.fresh (Nat.le_of_lt (x.above y c (mem_of_lookup a1)))
    · rw [a2]
      exact (e0.bs _ _ kb).2
  · unfold L2.start
    show _ = N.length
    rw [List.length_append, List.length_map, List.length_replicate]
    omega
end
structure PAt (X : Cx) (c : Code) (ss : List Stmt) (t : TS) : Prop where
  run : ∀ (pins : List (Addr × Obj)) (s : Shared) (σ : L2.St) (H : Hp) (D : Ends), Inv X pins σ H s → t D σ H → _root_.PySem.wpAt (model X.prog X.w) X.A c (execs ss X.env) (SP X pins D) X.xe s
structure FunS (K : PySem.W.Frag) (x qual : Str) (st : Stmt) (f D cc cda : Addr) (fd : FuncData) : Prop where
  ex : ∃ (oc : Value) (od : Option Addr) (kV doc pm : Value) (an : Option Addr) (ct : Value) (osl : Array (Option Value)),
    fd = PySem.W.fnX x qual (defArgs st) (defBody st) (defScope st) [(("__class__" : Str), cc)] .none kV doc pm an (.ref cda) ct ∧ K.lookup f = some ⟨oc, od, .func fd, osl⟩
  rec' : PySem.W.codeIn K (.ref cda) qual = true
  cell : ∃ (cl : Value) (cld : Option Addr) (csl : Array (Option Value)), K.lookup cc = some ⟨cl, cld, .cell (some (.ref D)), csl⟩
  kp : PySem.W.keepIn K (.ref f) = true
section
variable {CX : CXT} {P : Program} {w : World} {K : PySem.W.Frag} {mg : Str → Option Value} {base : Heap}
theorem FunS.ok {x qual : Str} {st : Stmt} {f D cc cda : Addr} {fd : FuncData} {N ps : List Str} {k : Nat} {sp : Sp} (F : FunS K x qual st f D cc cda fd) (S : ScopeS N ps (defScope st)) (len : ∀ vs H Q E, sp vs H Q E → vs.length = ps.length)
    (hb : ∀ (A : Around) (outer : List Env) (s : Shared) (H : Hp) (vs : List V) (Q : VK) (E : XK), Room k (A.deeper (envS qual (defScope st) s.heap.objs.size f cc (.ref cda))) → sp vs H Q E →
      ∃ t, PAt (cxS CX P w K mg base N qual (defScope st) f cc (.ref cda) A outer s H E) (.func (defBody st) (envS qual (defScope st) s.heap.objs.size f cc (.ref cda))) (defBody st) t ∧ t { nx := fun _ H2 => Q .non H2, rt := Q } (L2.start N vs) H) :
    FnOk P w K mg base CX (k + 1) f fd ps sp := by
  obtain ⟨oc, od, kV, doc, pm, an, ct, osl, rfl, lk⟩ := F.ex
  obtain ⟨cl, cld, csl, kc⟩ := F.cell
  refine ⟨len, fun A outer s H args us vs Q E hr e0 bd r hsp => ?_⟩
  have hl := len _ _ _ _ hsp
  have KX : K.In s.heap := e0.mod.kin.keeps fun b o e => (e0.bs b o e).1
  have lim : s.heap.NoLimit := e0.mod.nolimit.keeps fun b o e => (e0.bs b o e).1
  refine codeAny_call_function hr.depth (KX _ _ lk) rfl S.co S.gen rfl (PySem.W.codeRec_of KX F.rec') (bd _ _ _ _ ?_)
  refine env_new (D := [(("__class__" : Str), cc)]) S.kind (fun ⟨n, v⟩ hy => ?_) fun env he s1 x => ?_
  · rcases S.par n (List.of_mem_zip hy).1 with q | q
    · exact .inl q
    · exact .inr ⟨q, cell_has q⟩
  subst he
  refine ⟨lim.keeps x.toInCall.keep, PySem.ks_codeAny_funcAt ?_⟩
  obtain ⟨t, ht, hq⟩ := hb A outer s H vs Q E (hr.deeper _) hsp
  have I : Inv (cxS CX P w K mg base N qual (defScope st) f cc (.ref cda) A outer s H E) [] (L2.start N vs) H s1 := inv_startS S hr.hd e0 kc hl r x
  refine PySem.ks_wpAt_mono (ht.run [] s1 (L2.start N vs) H _ I hq) (fun fl s2 z => ?_) fun e s2 z => z
  have fin : ∀ {σ2 : L2.St} {H2 : Hp} {v : V} {u : Value}, Inv (cxS CX P w K mg base N qual (defScope st) f cc (.ref cda) A outer s H E) [] σ2 H2 s2 → RelV v u → Q v H2 → CE outer P w H s Q u s2 :=
    fun {σ2 H2 v u} J rv q => ⟨v, H2, J.os, J.bare, J.base, J.hok, rv, q⟩
  cases fl with
  | ret u =>
    obtain ⟨v, σ2, H2, J, rv, q⟩ := z
    exact fin J rv q
  | next =>
    obtain ⟨σ2, H2, J, q⟩ := z
    exact fin (v := V.non) (u := Value.none) J rfl q
  | brk =>
    obtain ⟨_, _, _, q⟩ := z
    exact False.elim q
  | cont =>
    obtain ⟨_, _, _, q⟩ := z
    exact False.elim q
end
structure Sup (K : PySem.W.Frag) (f D cc cda g : Addr) (fd : FuncData) (x m file : Str) : Prop where
  fn : ∃ (oc : Value) (od : Option Addr) (osl : Array (Option Value)), K.lookup f = some ⟨oc, od, .func fd, osl⟩
  hd : ∃ ar : Arg, (fd.params.posonlyargs ++ fd.params.args).head? = some ar ∧ ar.arg = x
  code : ∃ (a : Value) (b : Option Addr) (vs : Array Value) (c : Array (Option Value)) (tf : Tok), K.lookup cda = some ⟨a, b, .fields vs, c⟩ ∧ vs[2]? = some (.str file tf)
  cell : ∃ (cl : Value) (cld : Option Addr) (csl : Array (Option Value)), K.lookup cc = some ⟨cl, cld, .cell (some (.ref D)), csl⟩
  cls : PySem.W.isClsIn K D = true
  sub : PySem.W.mroIn K D (.ref D) = some true
  nxt : PySem.W.ks_superIn K D D m = some (some (.ref g))
  ty : PySem.W.typeIn K (.ref g) = some (.type "function")
  tp : PySem.W.nsIn K cStatics "thirdparty.any" = some none
section
variable {X : Cx} {CX : CXT} {body : List Stmt} {f D cc cda g : Addr} {fd gd : FuncData} {x m file : Str} {k : Nat} {ps : List Str} {sp : Sp} {E : XK} {e : Expr} {es : List Expr} {t : TA} {p0 p1 apos pos pos2 : Pos} {pl : Sem Bool}
end
end
section
variable {P : Program} {w : World} {K : PySem.W.Frag} {mg : Str → Option Value} {base : Heap} {cl : Str → Option Addr}
open PySem.Spec PyProof.Rows in
end
section
variable {K : PySem.W.Frag} {cl : Str → Option Addr} {F G : Hp}
end
section
variable {K : PySem.W.Frag} {cl : Str → Option Addr} {W : WX} {bs O A A1 B : List Addr} {F H H' H1 : Hp} {ρ ρ' ρx ρh : Ro} {σ : St} {S S1 S2 L : Type} {ρs : S → Ro} {ρn : S1 → Ro} {ρl : L → Ro} {D : Ends} {t u v tb t1 t2 : TS} {te ta tc td : TE} {m ma mb : Res PV} {tr : TA} {ml : Res (List PV)}
end
section
variable {K : PySem.W.Frag} {cl : Str → Option Addr} {W : WX} {bs O A A1 : List Addr} {F H H' H1 : Hp} {ρ ρ' ρx : Ro} {σ : St} {S S1 L : Type} {ρn : S → Ro} {ρj : S1 → Ro} {ρl : L → Ro} {D : Ends} {t u v tb : TS} {te ta tc : TE} {m ma mb : Res PV} {tr : TA} {ml : Res (List PV)} {md : Res (List (Key × PV))}
end
section
open PySem.Spec PyProof.Rows
variable {X : Cx} {CX : CXT} {k : Nat} {f C : Addr} {fd : FuncData} {ps ks : List Str} {sp : Sp} {E : L2.St → XK} {x m : Str} {p pos apos : Pos} {e o : Expr} {es : List Expr} {kws : List Keyword} {ta : TE} {t tk : TA} {g : List Value → List Value → List Value} {gV : List V → List V → List V}
theorem run_fnkS {pins : List (Addr × Obj)} {σ : L2.St} {H : Hp} {s : Shared} {Q : VK} {us ws : List Value} {vs zs : List V} (F : FnOk X.prog X.w X.K X.mg X.base CX k f fd ps sp) (hr : Room k X.A) (hb : KBinds X.K fd ps ks g gV) (hx : PassesAt CX X σ (E σ))
    (I : Inv X pins σ H s) (r : Vals vs us) (rz : Vals zs ws) (h : sp (gV vs zs) H Q (E σ)) : wpAny (model X.prog X.w) X.A (call (.ref f) us (ks.zip ws)) (EP X pins σ Q) X.xe s := by
  have r2 := hb.rel r rz
  have hl : (g us ws).length = ps.length := by rw [← r2.length]; exact F.len _ _ _ _ h
  refine wpAny_call (codeAny_mono (F.run X.A X.stack s H ⟨us, ks.zip ws⟩ (g us ws) (gV vs zs) Q (E σ) hr I.env0 (hb.to s us ws I.kIn hl) r2 h) fun r s' hq => ?_)
  cases r with
  | error e => exact hx pins H s e s' I hq
  | ok fl =>
    cases fl with
    | ret u => exact I.after hq
    | next => exact False.elim hq
    | brk => exact False.elim hq
    | cont => exact False.elim hq
def tCallKS (sp : Sp) (gV : List V → List V → List V) (E : L2.St → XK) (t tk : TA) : TE := fun σ H Q => t σ H fun vs H1 => tk σ H1 fun zs H2 => sp (gV vs zs) H2 Q (E σ)
theorem pe_callKS0 (F : FnOk X.prog X.w X.K X.mg X.base CX k f fd ps sp) (hr : Room k X.A) (hg : Gl X x) (hm : X.mg x = some (.ref f)) (hk : PySem.W.keepIn X.K (.ref f) = true) (hb : KBinds X.K fd ps ks g gV) (hx : ∀ σ, PassesAt CX X σ (E σ))
    (hkw : PK X kws tk) (hall : (backToKw pos (keywordEach kws X.env)).all (·.1.isSome) = true := by rfl) (hks : (backToKw pos (keywordEach kws X.env)).filterMap (·.1) = ks := by rfl)
    (hdb : (x == ("__debug__" : Str)) = false := by decide)
    (hpl : ((backTo pos (starEach [] X.env)).any (·.1) || (backToKw pos (keywordEach kws X.env)).any (·.1.isNone)) = false := by rfl) :
    PE X (.Call (.Name x p) [] kws pos) (tCallKS sp gV E tNil tk) := by
  refine ⟨fun pins s σ H Q I h => ?_⟩
  refine wpAny_Call_Name_kw (ld_glob I hg hm ?_ hdb)
  refine PySem.W.callWith_KW0 (h₀ := X.base) I.ok.mod.kin hk hall ?_ hpl
  refine thn (hkw.run pos pins s σ H _ I h) fun ws s2 ⟨zs, H2, I2, rz, q2⟩ => ⟨I2.kIn, ?_⟩
  rw [hks]
  exact run_fnkS (us := []) (vs := []) F hr hb (hx σ) I2 .nil rz q2
end
section
variable {K : PySem.W.Frag} {cl : Str → Option Addr} {W : WX} {bs O A A1 B : List Addr} {F H H' H1 : Hp} {ρ ρ' ρx ρh : Ro} {σ : St} {te ta tc td : TE} {m ma mb : Res PV} {tr tk : TA} {ml mk : Res (List PV)} {mf : List PV → Res PV}
theorem pu_callKS {gV : List V → List V → List V} {gP : List PV → List PV → List PV} (hg : ∀ {F : Hp} {vs : List V} {ps : List PV} {ws : List V} {qs : List PV}, IsL K cl F vs ps → IsL K cl F ws qs → IsL K cl F (gV vs ws) (gP ps qs))
    (hl : PurL K cl W tr ρ ml) (hk : PurL K cl W tk ρ mk) : Pur K cl W (tCallKS (spP K cl mf) gV (WE W) tr tk) ρ (ml >>= fun ps => mk >>= fun qs => mf (gP ps qs)) := fun O bs σ H Q R q => by
  refine hl O bs σ H _ R (wp_mono (wp_bind.mp q) (fun ps q1 vs H1 s1 i1 => ?_) fun _ z => z)
  refine hk O bs σ H1 _ (R.same s1) (wp_mono (wp_bind.mp q1) (fun qs q2 ws H2 s2 i2 => ?_) fun _ z => z.mono s1)
  have s12 := s1.trans s2
  exact ⟨O ++ adr ρ σ, gP ps qs, fun a h => (R.same s12).got h, hg (i1.mono (frz_same s2)) i2, wp_mono q2 (fun r qr v H' s i => qr v H' (s12.trans s) i) fun c qc C H' e s => qc C H' e (s12.trans s)⟩
end
section
variable {K : PySem.W.Frag} {cl : Str → Option Addr} {W : WX} {S : Type} {ρs : S → Ro} {ta tc : TE} {ma mb : S → Res (PV × S)}
end
theorem kit_ownC {K : PySem.W.Frag} {C D : Addr} (hdct : PySem.W.hasDictIn K D = true) (ht : PySem.W.typeIn K (.ref D) = some (.type "type")) (h4 : PySem.W.subIn K (.ref C) (.ref D) = some true) : PySem.W.kitOne K (.ref C) (.ref D) = some true := by
  obtain ⟨cd, hc, _⟩ := PySem.W.any_some hdct
  have e2 : ((PySem.W.clsIn K D).isSome && PySem.W.typeIn K (.ref D) == some (.type "type")) = true := by rw [hc, ht] <;> rfl
  show (if (Value.ref C == .ref D) = true then some true else (if ((PySem.W.clsIn K D).isSome && PySem.W.typeIn K (.ref D) == some (.type "type")) = true then PySem.W.subIn K (.ref C) (.ref D) else none)) = some true
  rw [if_pos e2, h4]
  split <;> rfl
theorem kit_notC {K : PySem.W.Frag} {C D : Addr} (hne : (Value.ref C == Value.ref D) = false) (hdct : PySem.W.hasDictIn K D = true) (ht : PySem.W.typeIn K (.ref D) = some (.type "type")) (h4 : PySem.W.subIn K (.ref C) (.ref D) = some false) : PySem.W.kitOne K (.ref C) (.ref D) = some false := by
  obtain ⟨cd, hc, _⟩ := PySem.W.any_some hdct
  have e2 : ((PySem.W.clsIn K D).isSome && PySem.W.typeIn K (.ref D) == some (.type "type")) = true := by rw [hc, ht] <;> rfl
  show (if (Value.ref C == .ref D) = true then some true else (if ((PySem.W.clsIn K D).isSome && PySem.W.typeIn K (.ref D) == some (.type "type")) = true then PySem.W.subIn K (.ref C) (.ref D) else none)) = some false
  rw [hne, if_neg (by decide), if_pos e2, h4]
structure InsK (K : PySem.W.Frag) (C : Addr) : Prop where
  cl : Cls K C
  ha : PySem.W.findIn K (.ref C) "__class__" = some (some (.builtin "object.__class__"))
  hn : PySem.W.specialIn K (.builtin "object.__class__") "__get__" = some (some (.builtin "getset_descriptor.__get__"))
  htk : PySem.W.takesIn K (.builtin "object.__class__") = some true
  hm : PySem.W.mroIn K C (.type "object") = some true
section
variable {K : PySem.W.Frag} {cl : Str → Option Addr} {W : WX} {ρ : Ro} {ta : TE} {m : Res PV}
end
open PySem.Spec PyProof.Rows in
section
open PySem.Spec PyProof.Rows
variable {X : Cx}
end
section
variable {K : PySem.W.Frag} {cl : Str → Option Addr} {W : WX} {ρ : Ro} {ta : TE} {m : Res PV}
end
section
variable {K : PySem.W.Frag} {cl : Str → Option Addr} {W : WX} {ρ : Ro} {ta : TE} {ma : Res PV}
end
def sortI (l : List Int) : List Int := l.mergeSort fun a b => decide (a ≤ b)
theorem sortI_perm (l : List Int) : (sortI l).Perm l := List.mergeSort_perm _ _
theorem sortI_sorted (l : List Int) : (sortI l).Pairwise (· ≤ ·) := by
  have := List.pairwise_mergeSort (le := fun a b : Int => decide (a ≤ b)) (fun a b c h1 h2 => decide_eq_true (Int.le_trans (of_decide_eq_true h1) (of_decide_eq_true h2)))
    (fun a b => by rcases Int.le_total a b with h | h <;> simp [h]) l
  exact this.imp fun h => of_decide_eq_true h
theorem sortI_unique {l m : List Int} (h1 : m.Perm l) (h2 : m.Pairwise (· ≤ ·)) : m = sortI l :=
  List.Perm.eq_of_pairwise (fun a b _ _ x y => Int.le_antisymm x y) h2 (sortI_sorted l) (h1.trans (sortI_perm l).symm)
section
variable {K : PySem.W.Frag} {cl : Str → Option Addr}
theorem isL_of_ints {F : Hp} : ∀ (is : List Int), IsL K cl F (is.map V.int) (is.map PV.int)
  | [] => .nil
  | i :: is => .cons (.int i) (isL_of_ints is)
end
section
variable {K : PySem.W.Frag} {cl : Str → Option Addr} {W : WX} {S : Type} {ρs : S → Ro} {ta tc : TE} {ma mb : S → Res (PV × S)}
end
section
variable {K : PySem.W.Frag} {cl : Str → Option Addr} {W : WX} {ρ : Ro} {ta te : TE} {ma m : Res PV}
def idxQ (ps : List PV) (k : PV) : Res PV := match flatP k, flatsP ps with
  | some y, some ys => match ys.findIdx? (fun z => eqV z y) with
    | some j => .val (.int (j : Nat))
    | none => .stuck
  | _, _ => .stuck
end
open PySem.Spec PyProof.Rows in
section
variable {K : PySem.W.Frag} {cl : Str → Option Addr} {W : WX} {ρ : Ro} {ta tb tc : TE} {ma mb mc : Res PV}
end
section
variable {K : PySem.W.Frag} {cl : Str → Option Addr} {W : WX} {ρ : Ro} {ta : TE} {m : Res PV}
end
section
variable (K : PySem.W.Frag) (cl : Str → Option Addr)
inductive ArgG (F : Hp) : List Bool → List V → List Addr → List PV → Prop
  | nil : ArgG F [] [] [] []
  | pv {sg : List Bool} {vs : List V} {cs : List Addr} {ps : List PV} {v : V} {p : PV} : Is K cl F v p → ArgG F sg vs cs ps → ArgG F (false :: sg) (v :: vs) cs (p :: ps)
  | bx {sg : List Bool} {vs : List V} {cs : List Addr} {ps : List PV} {a : Addr} : ArgG F sg vs cs ps → ArgG F (true :: sg) (.ref a :: vs) (a :: cs) ps
inductive MosIs (F H : Hp) : List Addr → List MO → Prop
  | nil : MosIs F H [] []
  | cons {a : Addr} {m : MO} {as : List Addr} {ms : List MO} : MoIs K cl F H a m → MosIs F H as ms → MosIs F H (a :: as) (m :: ms)
end
inductive AtL (σ : St) : List Nat → List Addr → Prop
  | nil : AtL σ [] []
  | cons {i : Nat} {a : Addr} {is : List Nat} {as : List Addr} : σ[i]? = some (some (.ref a)) → AtL σ is as → AtL σ (i :: is) (a :: as)
inductive BoxL (ρ : Ro) : List Nat → List MO → Prop
  | nil : BoxL ρ [] []
  | cons {i : Nat} {s : Slot} {m : MO} {is : List Nat} {ms : List MO} : ρ[i]? = some s → (s = .ow m ∨ ∃ k, s = .rf k m) → BoxL ρ is ms → BoxL ρ (i :: is) (m :: ms)
section
variable {K : PySem.W.Frag} {cl : Str → Option Addr} {W : WX} {bs O A A1 B : List Addr} {F F' H H' H1 H2 : Hp} {ρ ρ' ρx ρh : Ro} {σ : St}
theorem ArgG.mono (s : Sub F F') : ∀ {sg : List Bool} {vs : List V} {cs : List Addr} {ps : List PV}, ArgG K cl F sg vs cs ps → ArgG K cl F' sg vs cs ps
  | _, _, _, _, .nil => .nil
  | _, _, _, _, .pv a r => .pv (a.mono s) (r.mono s)
  | _, _, _, _, .bx r => .bx (r.mono s)
theorem ArgG.len : ∀ {sg : List Bool} {vs : List V} {cs : List Addr} {ps : List PV}, ArgG K cl F sg vs cs ps → vs.length = sg.length
  | _, _, _, _, .nil => rfl
  | _, _, _, _, .pv _ r => congrArg (· + 1) r.len
  | _, _, _, _, .bx r => congrArg (· + 1) r.len
theorem MosIs.len : ∀ {cs : List Addr} {ms : List MO}, MosIs K cl F H cs ms → cs.length = ms.length
  | _, _, .nil => rfl
  | _, _, .cons _ r => congrArg (· + 1) r.len
theorem MosIs.mono (s : Sub F F') : ∀ {cs : List Addr} {ms : List MO}, MosIs K cl F H cs ms → (∀ c, c ∈ cs → ∀ o, H c = some o → H' c = some o) → MosIs K cl F' H' cs ms
  | _, _, .nil, _ => .nil
  | _, _, .cons a r, e => .cons (a.mono s fun o => e _ List.mem_cons_self o) (r.mono s fun c h => e c (List.mem_cons_of_mem _ h))
theorem MosIs.of : ∀ {cs : List Addr} {ms : List MO}, cs.length = ms.length → (∀ (k : Nat) (b : Addr) (m : MO), cs[k]? = some b → ms[k]? = some m → MoIs K cl F H b m) → MosIs K cl F H cs ms
  | [], [], _, _ => .nil
  | _ :: _, [], e, _ => by cases e
  | [], _ :: _, e, _ => by cases e
  | c :: cs, m :: ms, e, h => .cons (h 0 c m rfl rfl) (MosIs.of (Nat.succ.inj e) fun k b x h1 h2 => h (k + 1) b x (by simpa using h1) (by simpa using h2))
theorem AtL.mem : ∀ {is : List Nat} {cs : List Addr} {c : Addr}, AtL σ is cs → c ∈ cs → ∃ i, i ∈ is ∧ σ[i]? = some (some (.ref c))
  | _, _, _, .nil, h => nomatch h
  | _, _, c, .cons a r, h => by
    rcases List.mem_cons.mp h with e | e
    · subst e; exact ⟨_, List.mem_cons_self, a⟩
    · obtain ⟨i, h1, h2⟩ := r.mem e
      exact ⟨i, List.mem_cons_of_mem _ h1, h2⟩
theorem BoxL.at_ : ∀ {is : List Nat} {ms : List MO} {i : Nat}, BoxL ρ is ms → i ∈ is → ∃ s, ρ[i]? = some s ∧ ((∃ mo, s = .ow mo) ∨ ∃ k mo, s = .rf k mo)
  | _, _, _, .nil, h => nomatch h
  | _, _, i, .cons a z r, h => by
    rcases List.mem_cons.mp h with e | e
    · subst e; exact ⟨_, a, z.imp (fun e => ⟨_, e⟩) fun ⟨k, e⟩ => ⟨k, _, e⟩⟩
    · exact r.at_ e
theorem Rel.add {p : Addr} (R : Rel K cl O bs ρ σ H) (hp : H p = none) (o : HO) : Rel K cl (p :: O) bs ρ σ (upd H p o) := by
  refine ⟨R.sl.mono (fun x u e => ?_) fun x u _ e => sub_new hp o x u e, R.nd, fun x hx => ?_, fun x hx z => ?_⟩
  · obtain ⟨n, e⟩ := frz_some.mp e
    refine frz_some.mpr ⟨fun z => ?_, sub_new hp o x u e⟩
    rcases List.mem_cons.mp z with c | c
    · rw [c, hp] at e; cases e
    · exact n c
  · rcases List.mem_cons.mp hx with c | c
    · subst c; exact ⟨o, upd_same⟩
    · obtain ⟨u, e⟩ := R.al x c; exact ⟨u, sub_new hp o x u e⟩
  · rcases List.mem_cons.mp z with c | c
    · subst c
      obtain ⟨u, e⟩ := R.got (List.mem_append_right _ (owa_sub hx))
      rw [hp] at e; cases e
    · exact R.ow x hx c
end
section
variable (K : PySem.W.Frag) (cl : Str → Option Addr)
end
section
variable {K : PySem.W.Frag} {cl : Str → Option Addr} {W : WX} {bs O A A1 B : List Addr} {F H H' H1 : Hp} {ρ ρ' ρx ρh : Ro} {σ : St} {S S1 S2 L : Type} {ρs : S → Ro} {ρn : S1 → Ro} {ρj : S2 → Ro} {ρl : L → Ro} {D : Ends} {t u v tb : TS} {te ta tc td : TE} {m : S → Res PV} {ma mb mc md : S → Res (PV × S)} {tr : TA} {ml mk : S → Res (List PV × S)} {sg : List Bool} {is : List Nat}
theorem BoxL.all (h : BoxL ρ is ms) : ∀ i, i ∈ is → ∃ s, ρ[i]? = some s ∧ ((∃ mo, s = .ow mo) ∨ ∃ k mo, s = .rf k mo) := fun _ hi => h.at_ hi
end
section
variable {P : Program} {w : World} {K : PySem.W.Frag} {mg : Str → Option Value} {base : Heap} {cl : Str → Option Addr}
open PySem.Spec PyProof.Rows in
open PySem.Spec PyProof.Rows in
end
section
variable (K : PySem.W.Frag) (cl : Str → Option Addr) (W : WX)
inductive VsV (F H : Hp) : List V → List PV → Prop
  | nil : VsV F H [] []
  | cons {v : V} {p : PV} {vs : List V} {ps : List PV} : IsV K cl F H v p → VsV F H vs ps → VsV F H (v :: vs) (p :: ps)
def PurP (t : List (TE × TE)) (ρ : Ro) (m : Res (List (Key × PV))) : Prop := ∀ (O bs : List Addr) (σ : St) (H : Hp) (Q : List (V × V) → Hp → Prop), Rel K cl O bs ρ σ H →
  wp m (fun r => ∀ kvs H', Sub H H' → IsK K cl (frz H' (O ++ adr ρ σ)) kvs r → Q (kvs.map fun kv => (kV kv.1, kv.2)) H') (XW cl W σ H) → tPairs t σ H Q
end
def mergeP (kvs more : List (Key × PV)) : List (Key × PV) := more.foldl (fun acc kv => putP acc kv.1 kv.2) kvs
def upto15 (n : Nat) : Res Unit := if n ≤ 15 then .val () else .stuck
section
variable {K : PySem.W.Frag} {cl : Str → Option Addr} {W : WX} {bs O A A1 B : List Addr} {F F' G H H' H1 : Hp} {ρ ρ' ρx ρh : Ro} {σ : St} {S S1 L : Type} {ρn : S → Ro} {ρl : L → Ro} {D : Ends} {t u v tb tk tv : TS} {te ta tc td : TE} {m ma mb : Res PV} {tr : TA} {ml : Res (List PV)} {md : Res (List (Key × PV))}
theorem VsV.mono (s : Sub F F') (s2 : Sub H H') : ∀ {vs : List V} {ps : List PV}, VsV K cl F H vs ps → VsV K cl F' H' vs ps
  | _, _, .nil => .nil
  | _, _, .cons a r => .cons (a.mono s s2) (r.mono s s2)
open Classical in
open Classical in
theorem pp_nil : PurP K cl W [] ρ (.val []) := fun O bs σ H Q R q => q [] H .refl .nil
theorem pp_cons {trs : List (TE × TE)} (hk : Pur K cl W ta ρ ma) (hv : Pur K cl W te ρ m) (hr : PurP K cl W trs ρ md) : PurP K cl W ((ta, te) :: trs) ρ (ma >>= fun k => m >>= fun v => keyP k >>= fun k => md >>= fun r => .val ((k, v) :: r)) := fun O bs σ H Q R q => by
  refine hk O bs σ H _ R (wp_mono (wp_bind.mp q) (fun x qx v1 H1 s1 i1 => ?_) fun _ z => z)
  refine hv O bs σ H1 _ (R.same s1) (wp_mono (wp_bind.mp qx) (fun y qy v2 H2 s2 i2 => ?_) fun _ z => z.mono s1)
  obtain ⟨k, rfl, qk⟩ := wp_key (H := H1) (wp_bind.mp qy) (i1.view frz_sub)
  refine hr O bs σ H2 _ ((R.same s1).same s2) (wp_mono (wp_bind.mp qk) (fun r qr kvs H3 s3 i3 => ?_) fun _ z => (z.mono s1).mono s2)
  exact qr ((k, v2) :: kvs) H3 ((s1.trans s2).trans s3) (.cons (i2.mono (frz_same s3)) i3)
theorem IsK.merge : ∀ {ws : List (Key × V)} {qs : List (Key × PV)} {vs : List (Key × V)} {ps : List (Key × PV)}, IsK K cl F ws qs → IsK K cl F vs ps → IsK K cl F (mergeK vs ws) (mergeP ps qs)
  | _, _, _, _, .nil, h => h
  | _, _, _, _, .cons (f := g) a r, h => by
    have q := IsK.merge r (IsK.put (k := g) a h)
    exact q
theorem nd_disp {trs : List (TE × TE)} (h : PurP K cl W trs ρ md) : NewD K cl W (tDisp trs) ρ (md >>= fun kvs => upto15 kvs.length >>= fun _ => .val (mergeP [] kvs)) := fun O bs σ H Q R q p hp => by
  have s0 := sub_new hp (.dK [])
  refine h (p :: O) bs σ _ _ (R.add hp (.dK [])) (wp_mono (wp_bind.mp q) (fun r qr kvs H2 s2 i2 => ?_) fun _ z => z.mono s0)
  have e2 : H2 p = some (.dK []) := s2 _ _ upd_same
  unfold upto15 at qr
  by_cases c : r.length ≤ 15
  · rw [if_pos c] at qr
    have qr' : ∀ p vs H', Sub H H' → H p = none → H' p = some (.dK vs) → IsK K cl (frz H' (p :: (O ++ adr ρ σ))) vs (mergeP [] r) → Q (.ref p) H' := qr
    refine ⟨e2, kvs, rfl, by rw [i2.len]; exact c, qr' p _ _ (fun x o e => ?_) hp upd_same ?_⟩
    · have ne : x ≠ p := fun z => by rw [z, hp] at e; cases e
      rw [upd_ne ne]
      exact s2 _ _ (s0 _ _ e)
    · refine (IsK.merge i2 .nil).mono fun x o e => ?_
      obtain ⟨n, e⟩ := frz_some.mp e
      exact frz_some.mpr ⟨n, by rw [upd_ne fun z => n (by rw [z]; exact List.mem_cons_self)]; exact e⟩
  · rw [if_neg c] at qr; exact qr.elim
theorem run_retNewD {r : List MO} (he : NewD K cl W te ρ md) (hr : rfB 0 ρ = true) (e : brs ρ = r) (w : Wk ρ ρx) : Runs (S := S) K cl W (tSeq (tRet te) u) ρ (md >>= fun l => .val (.ro (.dct l) r)) ρn ρl ρx := fun O bs σ H D R hb q => by
  subst e
  refine he O bs σ H _ R (wp_mono (wp_bind.mp q) (fun l ql p vs H' s hp hv hl => ?_) fun _ z => z.xw R w)
  refine ql p H' ⟨fun x o _ h => s _ _ h, fun x hx => ?_⟩ (fun z => ?_) ⟨vs, hv, hl.mono (frz_less fun b hb => ?_)⟩ fun k b m h1 h2 => (R.byref0 hr h1 h2).mono (frz_gone s hp) fun o e => s _ _ e
  · have : x = p := by simpa using hx
    rw [this]; exact .inr hp
  · obtain ⟨o, e⟩ := R.al p z
    rw [hp] at e; cases e
  · rcases List.mem_cons.mp hb with c | c
    · rw [c]; exact List.mem_cons_self
    · exact List.mem_cons_of_mem _ (List.mem_append_left _ c)
end
section
variable {K : PySem.W.Frag} {cl : Str → Option Addr} {W : WX} {ρ : Ro} {ta : TE} {ma : Res PV}
end
section
variable {K : PySem.W.Frag} {cl : Str → Option Addr} {W : WX} {bs O A A1 B : List Addr} {F H H' H1 : Hp} {ρ ρ' ρx ρh : Ro} {σ : St} {S S1 S2 L : Type} {ρs : S → Ro} {ρn : S1 → Ro} {ρl : L → Ro} {D : Ends} {t u v tb : TS} {te ta tc td : TE} {m : S → Res PV} {ma mb mc md : S → Res (PV × S)} {s0 : S} {mn : S → Res (MO × S)}
end
section
variable {K : PySem.W.Frag} {cl : Str → Option Addr}
end
section
variable {K : PySem.W.Frag} {cl : Str → Option Addr} {W : WX} {F : Hp} {ρ : Ro} {te : TE} {m : Res PV}
end
section
variable {K : PySem.W.Frag} {cl : Str → Option Addr} {W : WX} {bs O A A1 B : List Addr} {F H H' H1 : Hp} {ρ ρ' ρx ρh : Ro} {σ : St} {S S1 S2 L : Type} {ρs : S → Ro} {ρn : S1 → Ro} {ρj : S2 → Ro} {ρl : L → Ro} {D : Ends} {t u v tb : TS} {te ta tc td : TE} {m : S → Res PV} {ma mb mc md : S → Res (PV × S)} {tr : TA} {ml mk : S → Res (List PV × S)}
end
section
variable {K : PySem.W.Frag} {cl : Str → Option Addr} {W : WX} {bs O A A1 B : List Addr} {F H H' H1 : Hp} {ρ ρ' ρx ρh : Ro} {σ : St} {S S1 S2 L : Type} {ρs : S → Ro} {ρn : S1 → Ro} {ρl : L → Ro} {D : Ends} {t u v tb : TS} {tr : TA} {ml : S → Res (List PV × S)} {s0 : S}
end
def rIsX (K : PySem.W.Frag) (cls : Value) (d : Option Addr) (a : Addr) : List V → Hp → VK → Prop := fun xs H Q => ∃ D, cls = .ref D ∧ d = none ∧ ExcC K D ∧ rIsE K D a xs H Q
theorem call_isX {X : Cx} {K : PySem.W.Frag} {a : Addr} {cls : Value} {d : Option Addr} {oe : Obj} {pn : List (Addr × Obj)} (eK : X.K = K) (hz : Zc cls d oe) (hf : ∃ vs, oe.data = .fields vs) : CallR (X.suite a ((a, oe) :: pn)) (.builtin "isinstance") (rIsX K cls d a) := by
  subst eK
  intro pins s σ H xs us Q I r h
  obtain ⟨D, rfl, rfl, C, h⟩ := h
  exact call_isE C hz hf pins s σ H xs us Q I r h
def isX (tab : List (Str × Bool)) (c : Str) : Res PV := match tab.lookup c with
  | some b => .val (.bl b)
  | none => .stuck
section
variable {K : PySem.W.Frag} {cl : Str → Option Addr} {W : WX} {ρ ρh ρx : Ro} {ta : TE} {S L : Type} {ρn : S → Ro} {ρl : L → Ro}
theorem pu_isX {a : Addr} {c' : Str} {C : Addr} {v : V} {cv : Value} {tab : List (Str × Bool)} (ht : ∀ c b, tab.lookup c = some b → ∀ D, cl c = some D → ExcC K D ∧ PySem.W.kitOne K (.ref D) cv = some b) (hcl : cl c' = some C) (hv : ∀ u, RelV v u → u = cv)
    (ha : Pur K cl W ta ρ (.val (.er a))) : Pur K cl W (tCB (rIsX K (.ref C) none a) (tCons ta (tCons (tC v) tNil))) ρ (isX tab c') := fun O bs σ H Q R q => by
  refine ha O bs σ H _ R (fun v1 H1 s1 i1 => ?_)
  cases i1
  unfold isX at q
  split at q
  · next b e =>
    obtain ⟨k1, k2⟩ := ht _ _ e _ hcl
    exact ⟨C, rfl, rfl, k1, v, cv, b, rfl, hv, k2, q _ H1 s1 (.bl b)⟩
  · exact q.elim
def tryAsF {α : Type} (M : Res α) (hit : Str → Option Bool) (h : Str → Res α) : Res α := match M with
  | .exc c => match hit c with
    | some true => noX (h c)
    | some false => .exc c
    | none => .stuck
  | x => x
theorem FlOk.unset {i : Nat} {O bs A : List Addr} {H : Hp} {D : Ends} {f : Fl S L} (hn : ∀ s, unB (ρn s) i = true) (hl : ∀ s, unB (ρl s) i = true) (h : FlOk K cl O bs ρn ρl D A H f) :
    FlOk K cl O bs ρn ρl { nx := fun σ' H' => D.nx (σ'.set i none) H', rt := D.rt, bk := fun σ' H' => D.bk (σ'.set i none) H', ct := fun σ' H' => D.ct (σ'.set i none) H' } A H f := by
  cases f with
  | nx s => exact fun σ' H' g R => h _ H' (by rw [(adr_un (hn s)).1]; exact g) ((Rel.un1 (hn s)).mpr R)
  | bk s => exact fun σ' H' g R => h _ H' (by rw [(adr_un (hl s)).1]; exact g) ((Rel.un1 (hl s)).mpr R)
  | ct s => exact fun σ' H' g R => h _ H' (by rw [(adr_un (hl s)).1]; exact g) ((Rel.un1 (hl s)).mpr R)
  | rt v r => exact h
  | ro mo r => exact h
theorem run_tryAs {c : Value} {i : Nat} {ts : Addr → Value → Option Addr → TS} {tb : WX → TS} {M : Res (Fl S L)} {Mh : Str → Res (Fl S L)} {hit : Str → Option Bool} (hm : ∀ c' C b, cl c' = some C → hit c' = some b → PySem.W.exmOne K (.ref C) c = some b) (w : Wk ρh ρx) (hi : nad ρh i = true)
    (hn : ∀ s, unB (ρn s) i = true) (hl : ∀ s, unB (ρl s) i = true) (hb : ∀ W', Runs K cl W' (tb W') ρ M ρn ρl ρh)
    (hh : ∀ a c' C, cl c' = some C → Runs K cl (fun _ _ _ _ => False) (ts a (.ref C) none) (ρh.set i (.fz (.er a))) (Mh c') ρn ρl ρx) : Runs K cl W (fun D σ H => tb (wAs K c i ts W D) D σ H) ρ (tryAsF M hit Mh) ρn ρl ρx := fun O bs σ H D R hbs q => by
  refine hb _ O bs σ H D R hbs ?_
  cases M with
  | val f => exact q
  | stuck => exact q
  | exc c' =>
    intro C σ' H' e g R'
    replace q : wp (match hit c' with | some true => noX (Mh c') | some false => Res.exc c' | none => .stuck) (FlOk K cl O bs ρn ρl D (adr ρ σ) H) (ExOk K cl W O bs ρx (adr ρ σ) H) := q
    cases hc : hit c' with
    | none => rw [hc] at q; exact q.elim
    | some b =>
      rw [hc] at q
      refine ⟨b, hm c' C b e hc, fun hy a na => ?_, fun hn => ?_⟩
      · subst hy
        refine hh a c' C e O bs _ H' _ (R'.setfz hi (.er a)) hbs (wp_mono (wp_noX (E' := fun _ => False) q) (fun f z => ?_) fun _ z => z.elim)
        refine FlOk.unset hn hl (z.step ?_)
        rw [adr_setn hi]
        exact g
      · subst hn
        have q' : ExOk K cl W O bs ρx (adr ρ σ) H c' := q
        exact q' C σ' H' e (g.trans (Gr.wk w)) (R'.wk w)
end
section
variable {K : PySem.W.Frag} {cl : Str → Option Addr} {W : WX} {ρ : Ro} {ta tb tc : TE} {ma mb mc : Res PV}
instance (i j c : Int) : Decidable (c ≠ 0 ∧ c.natAbs < 1073741824 ∧ Builtin.Range.small i j c = true) := by infer_instance
def stepP (i j c : Int) : List PV := (List.range (Builtin.Range.rangeSize i j c).toNat).map fun k => .int (i + (k : Nat) * c)
def rng3 : PV → PV → PV → Res (List PV)
  | .int i, .int j, .int c => if c ≠ 0 ∧ c.natAbs < 1073741824 ∧ Builtin.Range.small i j c = true then .val (stepP i j c) else .stuck
  | _, _, _ => .stuck
theorem rangeSize_nn (i j c : Int) : ((Builtin.Range.rangeSize i j c).toNat : Int) = Builtin.Range.rangeSize i j c := by
  have : 0 ≤ Builtin.Range.rangeSize i j c := by
    unfold Builtin.Range.rangeSize
    split
    · split
      · have := Int.ediv_nonneg (a := j - i - 1) (b := c) (by omega) (by omega); omega
      · decide
    · split
      · have := Int.ediv_nonneg (a := i - j - 1) (b := -c) (by omega) (by omega); omega
      · decide
  omega
theorem itOk_stepP {P : Hp → Prop} {F : Hp} {i j c : Int} : ItOk K cl P F (Itc i c (Builtin.Range.rangeSize i j c).toNat) (stepP i j c) := fun H B _ _ hB => by
  have hl : (stepP i j c).length = (Builtin.Range.rangeSize i j c).toNat := by unfold stepP; rw [List.length_map, List.length_range]
  refine ⟨by rw [hl]; exact Nat.le_refl _, fun k p hk => ?_⟩
  unfold stepP at hk
  rw [List.getElem?_map] at hk
  obtain ⟨k', e, rfl⟩ := Option.map_eq_some_iff.mp hk
  obtain ⟨h1, h2⟩ := List.getElem?_eq_some_iff.mp e
  rw [List.length_range] at h1
  rw [List.getElem_range] at h2
  subst h2
  refine ⟨h1, fun x H' hy => ?_⟩
  obtain ⟨rfl, rfl⟩ := hy
  exact ⟨.refl, .int _⟩
theorem it_rng3 (ha : Vw K cl W ta ρ ma) (hb : Vw K cl W tb ρ mb) (hc : Vw K cl W tc ρ mc) : Iter K cl W (iRng3 (tCons ta (tCons tb (tCons tc tNil)))) ρ (ma >>= fun x => mb >>= fun y => mc >>= fun z => rng3 x y z) := fun O bs σ H R r q => by
  refine ha O bs σ H _ r (wp_mono (wp_bind.mp q) (fun x qx v1 H1 s1 i1 => ?_) fun _ z => z)
  refine hb O bs σ H1 _ (r.same s1) (wp_mono (wp_bind.mp qx) (fun y qy v2 H2 s2 i2 => ?_) fun _ z => z.mono s1)
  have s12 := s1.trans s2
  refine hc O bs σ H2 _ (r.same s12) (wp_mono (wp_bind.mp qy) (fun z w v3 H3 s3 i3 => ?_) fun _ z => z.mono s12)
  unfold rng3 at w
  split at w
  · next i j c =>
    cases isV_int i1
    cases isV_int i2
    cases isV_int i3
    split at w
    · next cc => exact ⟨i, j, c, _, rfl, ⟨cc.1, cc.2.1, cc.2.2, (rangeSize_nn i j c).symm⟩, w _ H3 (s12.trans s3) itOk_stepP⟩
    · exact w.elim
  · exact w.elim
def tTupRg3 (ta tb tc : TE) : TE := fun σ H Q => ta σ H fun x H1 => tb σ H1 fun y H2 => tc σ H2 fun z H3 => ∃ (i j c : Int) (n : Nat), x = .int i ∧ y = .int j ∧ z = .int c ∧ RgC i j c n ∧ n ≤ 10000000 ∧ ∀ q, H3 q = none → Q (.ref q) (upd H3 q (.tup ((List.range n).map fun k => .int (i + (k : Nat) * c))))
end
section
open PySem.Spec PyProof.Rows
variable {X : Cx} {a b c : Expr} {ta tb tc : TE}
theorem vals_of {f : Nat → Int} {acc : Array Value} {n : Nat} (h : ItemsOf (fun i v => ∃ t, v = .int (f i) t) acc n) : Vals ((List.range n).map fun k => V.int (f k)) acc.toList := by
  have e : acc.toList.length = n := by rw [Array.length_toList]; exact h.1
  rw [← e]
  refine vals_of_get acc.toList _ fun j u hj => ?_
  obtain ⟨t, rfl⟩ := h.2 j u (by rw [← hj, Array.getElem?_toList])
  exact ⟨t, rfl⟩
theorem prg_3 {p2 pos2 : Pos} {pins : List (Addr × Obj)} {s : Shared} {σ : L2.St} {H : Hp} {Q : Int → Int → Int → Nat → Hp → Prop} (hg2 : Gl X "range") (hm2 : X.mg "range" = none) (ha : PE X a ta) (hb : PE X b tb) (hcc : PE X c tc)
    (na : starEach [a, b, c] X.env = (false, eval a X.env) :: starEach [b, c] X.env) (nb : starEach [b, c] X.env = (false, eval b X.env) :: starEach [c] X.env) (nc : starEach [c] X.env = (false, eval c X.env) :: starEach [] X.env)
    (hp : (backTo pos2 (starEach [b, c] X.env)).any (·.1) = false) (I : L2.Inv X pins σ H s)
    (h : ta σ H fun x H1 => tb σ H1 fun y H2 => tc σ H2 fun z H3 => ∃ (i j c : Int) (n : Nat), x = .int i ∧ y = .int j ∧ z = .int c ∧ RgC i j c n ∧ Q i j c n H3) :
    wpAny (model X.prog X.w) X.A (eval (.Call (.Name "range" p2) [a, b, c] [] pos2) X.env) (fun x s' => ∃ r i j c n t u v H', x = .ref r ∧ IsRange s'.heap r i j c t u v ∧ Inv X pins σ H' s' ∧ RgC i j c n ∧ Q i j c n H') X.xe s := by
  refine Call_ (ld_blt I hg2 hm2 boot_range (PyProof.Rows.callWith_type1 (args_cons (thn (ha.run pins s σ H _ I h) fun v1 s1 ⟨x, H1, I1, r1, q1⟩ => args_cons (thn (hb.run pins s1 σ H1 _ I1 q1) fun v2 s2 ⟨y, H2, I2, r2, q2⟩ => one_arg hcc I2 q2 (fun v3 s3 z H3 I3 r3 q => ?_) nc) nb) na) na hp))
  obtain ⟨i, j, k, n, rfl, rfl, rfl, rc, q⟩ := q
  obtain ⟨t, rfl⟩ := r1
  obtain ⟨u, rfl⟩ := r2
  obtain ⟨v, rfl⟩ := r3
  exact call_range_3 rc.1 ⟨_, i, j, k, n, _, _, _, H3, rfl, IsRange.new _ _ _ _ _ _ _, I3.kept fun b u e => Heap.get?_push_of_some _ e, rc, q⟩ (.inl (PyProof.noPylong_small rc.2.1))
theorem pe_tupRg3 {p p2 pos pos2 : Pos} (hc : X.calm = true) (hg : Gl X "tuple") (hm : X.mg "tuple" = none) (hg2 : Gl X "range") (hm2 : X.mg "range" = none) (ha : PE X a ta) (hb : PE X b tb) (hcc : PE X c tc)
    (na : starEach [a, b, c] X.env = (false, eval a X.env) :: starEach [b, c] X.env := by rfl) (nb : starEach [b, c] X.env = (false, eval b X.env) :: starEach [c] X.env := by rfl) (nc : starEach [c] X.env = (false, eval c X.env) :: starEach [] X.env := by rfl)
    (hp : (backTo pos2 (starEach [b, c] X.env)).any (·.1) = false := by rfl)
    (nr : starEach [Expr.Call (.Name "range" p2) [a, b, c] [] pos2] X.env = (false, eval (.Call (.Name "range" p2) [a, b, c] [] pos2) X.env) :: starEach [] X.env := by rfl) :
    PE X (.Call (.Name "tuple" p) [.Call (.Name "range" p2) [a, b, c] [] pos2] [] pos) (tTupRg3 ta tb tc) := by
  refine ⟨fun pins s σ H Q I h => ?_⟩
  refine Call_ (ld_blt I hg hm boot_tuple (PyProof.Rows.callWith_type1 (args_cons (thn (prg_3 hg2 hm2 ha hb hcc na nb nc hp I (Q := fun i j c n H3 => n ≤ 10000000 ∧ ∀ q, H3 q = none → Q (.ref q) (upd H3 q (.tup ((List.range n).map fun k => .int (i + (k : Nat) * c)))) ) h) fun x s1 ⟨r, i, j, k, n, t, u, v, H1, ex, hr, I1, rc, hn, q⟩ => args_nil ?_) nr) nr))
  subst ex
  refine call_tuple_range (n := n) (I1.ok.hd hc) hr rc.2.2.1 rc.2.2.2 (Nat.le_trans hn (by decide)) fun h' tk acc hk hi => ?_
  have I2 : Inv X pins σ H1 { s1 with heap := h', toks := tk } := I1.kept hk
  refine ⟨.ref h'.objs.size, upd H1 h'.objs.size (.tup _), I2.laid (t' := tk) (fun c o e => Heap.get?_push_of_some _ e) (Nat.le_refl _) (show ObjOk X.prog X.w _ _ _ (.tup ((List.range n).map fun k' => .int (i + (k' : Nat) * k))) from ⟨?_, acc.toList, vals_of (f := fun k' => i + (k' : Nat) * k) hi, ?_⟩), rfl, q _ (I2.hok.fresh (Nat.le_refl _))⟩
  · rw [List.length_map, List.length_range, sizeLine_eq]; omega
  · rw [Array.toArray_toList]; exact IsTup.new _ _
end
section
variable {K : PySem.W.Frag} {cl : Str → Option Addr} {W : WX} {ρ : Ro} {ta tb tc : TE} {ma mb mc : Res PV}
def tupRg3 : PV → PV → PV → Res PV
  | .int i, .int j, .int c => if (c ≠ 0 ∧ c.natAbs < 1073741824 ∧ Builtin.Range.small i j c = true) ∧ (stepP i j c).length ≤ 10000000 then .val (.tup (stepP i j c)) else .stuck
  | _, _, _ => .stuck
theorem pu_tupRg3 (ha : Pur K cl W ta ρ ma) (hb : Pur K cl W tb ρ mb) (hc : Pur K cl W tc ρ mc) : Pur K cl W (tTupRg3 ta tb tc) ρ (ma >>= fun x => mb >>= fun y => mc >>= fun z => tupRg3 x y z) := fun O bs σ H Q R q => by
  refine ha O bs σ H _ R (wp_mono (wp_bind.mp q) (fun x qx v1 H1 s1 i1 => ?_) fun _ z => z)
  refine hb O bs σ H1 _ (R.same s1) (wp_mono (wp_bind.mp qx) (fun y qy v2 H2 s2 i2 => ?_) fun _ z => z.mono s1)
  have s12 := s1.trans s2
  refine hc O bs σ H2 _ (R.same s12) (wp_mono (wp_bind.mp qy) (fun z w v3 H3 s3 i3 => ?_) fun _ z => z.mono s12)
  have s13 := s12.trans s3
  unfold tupRg3 at w
  split at w
  · next i j c =>
    cases i1
    cases i2
    cases i3
    split at w
    · next cc =>
      refine ⟨i, j, c, _, rfl, rfl, rfl, ⟨cc.1.1, cc.1.2.1, cc.1.2.2, (rangeSize_nn i j c).symm⟩, ?_, fun p hp => w _ _ (s13.trans (sub_new hp _)) (new_tup (fun a h => (R.same s13).got h) hp ?_)⟩
      · have := cc.2
        unfold stepP at this
        rwa [List.length_map, List.length_range] at this
      · have := IsL.of_ints (K := K) (cl := cl) (F := frz (fun a => H3 a) (O ++ adr ρ σ)) ((List.range (Builtin.Range.rangeSize i j c).toNat).map fun k => i + (k : Nat) * c)
        rw [List.map_map, List.map_map] at this
        exact this
    · exact w.elim
  · exact w.elim
end
section
open PySem.Spec PyProof.Rows
variable {X : Cx}
end
section
variable {K : PySem.W.Frag} {cl : Str → Option Addr} {W : WX} {ρ : Ro} {ta : TE} {m : Res PV}
end
section
open PySem.Spec PyProof.Rows
structure Cp where
  b : Bool
  i : Addr
  l : Addr
  xs : Array Value
def Cp.it (c : Cp) (h : Heap) (k : Nat) : Prop := if c.b = true then h.IsListIter c.i c.l k else h.IsTupleIter c.i c.l k
def Cp.sq (c : Cp) (h : Heap) : Prop := if c.b = true then h.IsList c.l c.xs else h.IsTuple c.l c.xs
section
variable {prog : Program} {w : World} {A : Around} {E : Value → Shared → Prop} {s : Shared}
theorem Cp.stop {c : Cp} {k : Nat} {Q : Value → Shared → Prop} (hh : A.handled = none) (hit : c.it s.heap k) (hl : c.sq s.heap) (hx : c.xs[k]? = none)
    (hE : ∀ h' e, Heap.ExtBut c.i s.heap h' → (∃ o, h'.get? e = some o ∧ o.cls = .type "StopIteration") → E (.ref e) { s with heap := h' }) : wpAny (model prog w) A (Builtin.SmallTypes.nextOf (.ref c.i)) Q E s := by
  unfold Cp.it at hit
  unfold Cp.sq at hl
  by_cases hb : c.b = true
  · rw [if_pos hb] at hit hl
    exact wpAny_nextOf_list_end hh hit hl hx hE
  · rw [if_neg hb] at hit hl
    exact RZ.nextOf_tuple_end hh hit hl hx hE
structure Ap3 (z TI TO : Addr) (c1 c2 c3 : Cp) : Prop where
  tz : TI ≠ z
  oz : TO ≠ z
  to : TI ≠ TO
  z1 : c1.i ≠ z
  z2 : c2.i ≠ z
  z3 : c3.i ≠ z
  t1 : c1.i ≠ TI
  t2 : c2.i ≠ TI
  t3 : c3.i ≠ TI
  o1 : c1.i ≠ TO
  o2 : c2.i ≠ TO
  o3 : c3.i ≠ TO
  n12 : c1.i ≠ c2.i
  n13 : c1.i ≠ c3.i
  n23 : c2.i ≠ c3.i
  ls : ∀ l, l = c1.l ∨ l = c2.l ∨ l = c3.l → l ≠ z ∧ l ≠ TO ∧ l ≠ c1.i ∧ l ≠ c2.i ∧ l ≠ c3.i
def Kb (S : List Addr) (h h' : Heap) : Prop := h'.objs.size = h.objs.size ∧ ∀ a, a ∉ S → h'.get? a = h.get? a
theorem Kb.of {i : Addr} {h h' : Heap} (x : Heap.SameBut i h h') : Kb [i] h h' := ⟨x.1, fun a ha => x.2 a fun e => ha (e ▸ List.mem_cons_self)⟩
theorem Kb.step {S : List Addr} {i : Addr} {h h1 h' : Heap} (x : Kb S h h1) (y : Heap.SameBut i h1 h') : Kb (i :: S) h h' := ⟨y.1.trans x.1, fun a ha => (y.2 a fun e => ha (e ▸ List.mem_cons_self)).trans (x.2 a fun e => ha (List.mem_cons_of_mem _ e))⟩
theorem Kb.ext {S : List Addr} {i : Addr} {h h1 h' : Heap} (x : Kb S h h1) (y : Heap.ExtBut i h1 h') : ∀ c o, c ∉ i :: S → h.get? c = some o → h'.get? c = some o := fun c o n e =>
  y c o (fun z => n (z ▸ List.mem_cons_self)) ((x.2 c fun z => n (List.mem_cons_of_mem _ z)).trans e)
end
section
variable {prog : Program} {w : World} {A : Around} {E : Value → Shared → Prop} {s : Shared}
end
end
section
open PySem.Spec PyProof.Rows
def SqB (b : Bool) (K : PySem.W.Frag) (H : Hp) (a : Addr) (xs : List V) : Prop := if b = true then SqL K H a xs else SqT K H a xs
theorem SqB.inj {b : Bool} {X : Cx} {pins : List (Addr × Obj)} {σ : L2.St} {H : Hp} {s : Shared} {a : Addr} {xs ys : List V} (I : L2.Inv X pins σ H s) (h : SqB b X.K H a xs) (h' : SqB b X.K H a ys) : xs = ys := by
  unfold SqB at h h'
  split at h
  · next hb => rw [if_pos hb] at h'; exact I.list_inj h h'
  · next hb => rw [if_neg hb] at h'; exact I.tuple_inj h h'
end
section
open PySem.Spec PyProof.Rows
section
variable {prog : Program} {w : World} {A : Around} {E : Value → Shared → Prop} {s : Shared}
structure Ap2 (z TI TO : Addr) (c1 c2 : Cp) : Prop where
  tz : TI ≠ z
  oz : TO ≠ z
  to : TI ≠ TO
  z1 : c1.i ≠ z
  z2 : c2.i ≠ z
  t1 : c1.i ≠ TI
  t2 : c2.i ≠ TI
  o1 : c1.i ≠ TO
  o2 : c2.i ≠ TO
  n12 : c1.i ≠ c2.i
  ls : ∀ l, l = c1.l ∨ l = c2.l → l ≠ z ∧ l ≠ TO ∧ l ≠ c1.i ∧ l ≠ c2.i
end
section
variable {prog : Program} {w : World} {A : Around} {E : Value → Shared → Prop} {s : Shared}
end
end
def seqB : PV → Option (Bool × List PV)
  | .tup ps => some (false, ps)
  | .lst ps => some (true, ps)
  | .fls ps => some (true, ps)
  | _ => none
section
variable {K : PySem.W.Frag} {cl : Str → Option Addr} {W : WX} {bs O A : List Addr} {F H H' : Hp} {ρ : Ro} {σ : St} {te ta tb tc : TE} {m ma mb mc : Res PV} {P : Hp → Prop}
theorem Is.seq {v : V} {p : PV} {b : Bool} {ps : List PV} (h : Is K cl F v p) (e : seqB p = some (b, ps)) : ∃ a vs, v = .ref a ∧ IsL K cl F vs ps ∧ ∀ H2, Sub F H2 → SqB b K H2 a vs := by
  cases h with
  | tup h r => cases e; exact ⟨_, _, rfl, r, fun H2 s => by unfold SqB; rw [if_neg (by decide)]; exact s.sqT h⟩
  | lst h r => cases e; exact ⟨_, _, rfl, r, fun H2 s => by unfold SqB; rw [if_pos rfl]; exact .inl (.inl (s _ _ h))⟩
  | fls h r => cases e; exact ⟨_, _, rfl, r, fun H2 s => by unfold SqB; rw [if_pos rfl]; exact s.sqL h⟩
  | _ => cases e
theorem IsV.seq {v : V} {p : PV} {b : Bool} {ps : List PV} (h : IsV K cl F H v p) (s : Sub F H) (e : seqB p = some (b, ps)) : ∃ a vs, v = .ref a ∧ IsL K cl F vs ps ∧ ∀ H2, Sub H H2 → SqB b K H2 a vs := by
  cases p with
  | tup qs =>
    have h : Is K cl F v (.tup qs) := h
    obtain ⟨a, vs, e1, r, k⟩ := h.seq e
    exact ⟨a, vs, e1, r, fun H2 s2 => k H2 (s.trans s2)⟩
  | lst qs =>
    obtain ⟨a, vs, rfl, h, r⟩ := h
    cases e
    exact ⟨a, vs, rfl, r, fun H2 s2 => by unfold SqB; rw [if_pos rfl]; exact .inl (.inl (s2 _ _ h))⟩
  | fls qs =>
    have h : Is K cl F v (.fls qs) := h
    obtain ⟨a, vs, e1, r, k⟩ := h.seq e
    exact ⟨a, vs, e1, r, fun H2 s2 => k H2 (s.trans s2)⟩
  | _ => cases e
end
namespace KT
section
open PySem.Spec PyProof.Rows
variable {X : Cx}
def FrT (H : Hp) (a : Addr) (ys : List V) : Prop := ∃ ob : Obj, H a = some (.frz ob (.tup ys)) ∧ ob.cls = .type "tuple" ∧ ob.dict = none
def rIndexT (K : PySem.W.Frag) : V → List V → Hp → VK → Prop := fun t args H Q => ∃ (a : Addr) (ys : List V) (y : V) (n : Nat) (z : V), t = V.ref a ∧ args = [y] ∧ SqT K H a ys ∧ flatV y = true ∧ ys.all flatV = true ∧ ys[n]? = some z ∧ eqV z y = true ∧
  (∀ (i : Nat) (o : V), i < n → ys[i]? = some o → eqV o y = false) ∧ Q (.int (n : Nat)) H
theorem item_at {ys : List V} {its : List Value} (r : Vals ys its) {i : Nat} {z : V} (h : ys[i]? = some z) : ∃ hi : i < its.toArray.size, RelV z its.toArray[i] := by
  obtain ⟨u, e, rel⟩ := r.get h
  obtain ⟨hi, e⟩ := List.getElem?_eq_some_iff.mp e
  refine ⟨by rw [List.size_toArray]; exact hi, ?_⟩
  rw [List.getElem_toArray, e]
  exact rel
theorem mt_indexT : MtR X "tuple.index" (rIndexT X.K) := by
  intro pins s σ H t args v us Q I rt ra w
  obtain ⟨a, ys, y, n, z, et, ea, tup, f1, f2, at1, hit, ahead, q⟩ := w
  subst et ea
  cases rt
  obtain ⟨u, eu, r1⟩ := vals1 ra
  subst eu
  obtain ⟨its, r, ⟨⟨c1, d1, dat, slo⟩, got, ec, m, ed⟩, _⟩ := I.tuple tup
  replace ec : c1 = .type "tuple" := ec
  replace ed : dat = .seq its.toArray m := ed
  subst ec ed
  obtain ⟨hn, rn⟩ := item_at r at1
  refine call_meets PySem.F.slot_tuple_index ⟨_, got, rfl⟩ PySem.F.entry_tuple_index (PySem.F.args_tuple_index_2 _ _) (TI.tuple_indexAt a its.toArray m d1 slo u (eqU y) n hn ?_ ?_)
    ⟨got, fun k hk => mem_eqAt r1 f1 r f2 k (by simpa using hk), .int (n : Nat), H, I.tok _, ⟨_, rfl⟩, q⟩
  · exact (eqU_of rn (flat_at f2 at1)).trans hit
  · intro i hi hin
    have hy : i < ys.length := by
      have := r.length
      rw [List.size_toArray] at hi
      omega
    obtain ⟨_, ri⟩ := item_at r (List.getElem?_eq_getElem hy)
    exact (eqU_of ri (flat_at f2 (List.getElem?_eq_getElem hy))).trans (ahead i _ hin (List.getElem?_eq_getElem hy))
def tTI (K : PySem.W.Frag) (to : TE) (t : TA) : TE := fun σ H Q => to σ H fun x H1 => (∃ a ys, x = .ref a ∧ KT.FrT H1 a ys) ∧ t σ H1 fun xs H2 => rIndexT K x xs H2 Q
theorem pe_tindex (K : PySem.W.Frag) (eK : X.K = K) {o e1 : Expr} {es : List Expr} {apos cpos : Pos} {to : TE} {t : TA} (ho : PE X o to) (ha : PA X (e1 :: es) t)
    (hbase : attributeBase o "index" X.env (eval o X.env) = eval o X.env := by rfl)
    (hfew : ((backTo cpos (starEach (e1 :: es) X.env)).all (fun x => !x.1) && (backToKw cpos (keywordEach [] X.env)).all (fun x => x.1.isSome)
      && decide ((e1 :: es).length + ([] : List Keyword).length + (if ([] : List Keyword).isEmpty then 0 else 1) < 30)) = true := by rfl)
    (hline : (apos.endLine == cpos.line) = true := by rfl) (hs : starEach (e1 :: es) X.env = (false, eval e1 X.env) :: starEach es X.env := by rfl) (hplain : (backTo cpos (starEach es X.env)).any (·.1) = false := by rfl) :
    PE X (.Call (.Attribute o "index" apos) (e1 :: es) [] cpos) (tTI K to t) := by
  subst eK
  constructor
  intro pins s σ H Q I h
  refine wpAny_Call_method_late hbase hfew hline rfl (thn (ho.run pins s σ H _ I h) fun v s1 ⟨x, H1, I1, r1, ⟨a, ys, ex, ob, hob, hc, hd⟩, q1⟩ => ?_)
  subst ex
  cases r1
  have hg := (show ObjOk X.prog X.w H1 s1.heap a (.frz ob (.tup ys)) from I1.hok a _ hob).1
  refine ⟨"tuple", "tuple.index", PySem.F.plainAttrs_tuple, PySem.F.slot_tuple_index, PySem.F.type_tuple_index, ⟨ob, hg, hc⟩, fun b eb => ?_, ?_⟩
  · cases eb
    exact ⟨ob, hg, hd⟩
  have run := ha.run cpos pins s1 σ H1 _ I1 q1
  rw [hs] at run ⊢
  have pl : (false || (backTo cpos (starEach es X.env)).any (·.1)) = false := by
    rw [hplain]
    rfl
  refine Calls.callWith_builtin pl (Calls.evalArgs_plain ?_)
  exact thn run fun us s2 ⟨vs, H2, I2, r2, q2⟩ => mt_indexT pins s2 σ H2 _ vs _ us _ I2 (by exact rfl) r2 q2
theorem call_tuple_ofF (K : PySem.W.Frag) (eK : X.K = K) : CallR X (.type "tuple") (fun args H Q => ∃ p ys, args = [.ref p] ∧ SqL K H p ys ∧ ∀ (l : Addr) (ob : Obj), H l = none → ob.cls = .type "tuple" → ob.dict = none → Q (.ref l) (upd H l (.frz ob (.tup ys)))) := by
  subst eK
  intro pins s σ H args us Q I rv w
  obtain ⟨p, ys, ea, lst, q⟩ := w
  subst ea
  obtain ⟨u, eu, ru⟩ := vals1 rv
  subst eu
  cases ru
  obtain ⟨its, r, pl, hz⟩ := I.list lst
  have len := r.length
  refine call_tuple_list pl.isList (fun g kp => ?_) (by rw [List.size_toArray]; omega)
  have I1 : Inv X pins σ H { s with heap := g } := I.kept (t' := s.toks) kp
  have ok : ObjOk X.prog X.w (upd H g.objs.size (.frz { cls := .type "tuple", data := .seq its.toArray } (.tup ys))) (g.push { cls := .type "tuple", data := .seq its.toArray }) g.objs.size (.frz { cls := .type "tuple", data := .seq its.toArray } (.tup ys)) :=
    ⟨Heap.get?_push_size _ rfl, hz, its, r, IsTup.new _ _⟩
  exact ⟨.ref g.objs.size, _, I1.laid (t' := s.toks) (fun b o e => Heap.get?_push_of_some _ e) (Nat.le_refl _) ok, rfl, q _ _ (I1.hok.fresh (Nat.le_refl _)) rfl rfl⟩
end
section
variable {K : PySem.W.Frag} {cl : Str → Option Addr} {W : WX} {ρ : Ro} {ta te : TE} {ma m : Res PV} {F H : Hp}
def asKt : PV → Res (List PV)
  | .ktp ps => .val ps
  | _ => .stuck
theorem wp_asKt {p : PV} {v : V} {Q : List PV → Prop} {E : Str → Prop} (h : wp (asKt p) Q E) (i : IsV K cl F H v p) (s : Sub F H := by exact frz_sub) : ∃ a vs ps, v = .ref a ∧ FrT H a vs ∧ IsL K cl F vs ps ∧ Q ps := by
  cases p with
  | ktp ps => cases i with | ktp h1 c d r => exact ⟨_, _, ps, rfl, ⟨_, s _ _ h1, c, d⟩, r, h⟩
  | _ => exact h.elim
theorem FrT.sub {H H' : Hp} {a : Addr} {ys : List V} (h : FrT H a ys) (s : Sub H H') : FrT H' a ys := by
  obtain ⟨ob, h, c⟩ := h
  exact ⟨ob, s _ _ h, c⟩
theorem FrT.sqT {K : PySem.W.Frag} {H : Hp} {a : Addr} {ys : List V} (h : FrT H a ys) : SqT K H a ys := by
  obtain ⟨ob, h, _⟩ := h
  exact .inl (.inr ⟨ob, h⟩)
theorem pu_tindex (ha : Vw K cl W ta ρ ma) (hk : Pur K cl W te ρ m) : Pur K cl W (tTI K ta (tCons te tNil)) ρ (ma >>= asKt >>= fun ps => m >>= fun k => idxQ ps k) := fun O bs σ H Q R q => by
  rw [wp_bind, wp_bind] at q
  refine ha O bs σ H _ R (wp_mono q (fun x qx v1 H1 s1 i1 => ?_) fun _ z => z)
  obtain ⟨a, vs, ps, rfl, hs, hl, w⟩ := wp_asKt qx i1
  refine ⟨⟨a, vs, rfl, hs⟩, ?_⟩
  refine hk O bs σ H1 _ (R.same s1) (wp_mono (wp_bind.mp w) (fun k qk v2 H2 s2 i2 => ?_) fun _ z => z.mono s1)
  unfold idxQ at qk
  split at qk
  · next y ys ey eys =>
    split at qk
    · next j ej =>
      obtain ⟨rfl, fy⟩ := flatP_is i2 ey
      obtain ⟨rfl, fys⟩ := flatsP_is hl eys
      obtain ⟨h1, h2, h3⟩ := List.findIdx?_eq_some_iff_getElem.mp ej
      exact ⟨a, vs, v2, j, _, rfl, rfl, (hs.sub s2).sqT, fy, fys, List.getElem?_eq_getElem h1, h2, fun n z hn hz => by
        have hn' : n < vs.length := Nat.lt_trans hn h1
        rw [List.getElem?_eq_getElem hn'] at hz
        cases hz
        exact Bool.eq_false_iff.mpr (h3 n hn), qk _ H2 (s1.trans s2) (.int _)⟩
    · exact qk.elim
  · exact qk.elim
def tupleK (p : PV) : Res PV := asLi p >>= fun ps => .val (.ktp ps)
def rTupleK (K : PySem.W.Frag) : List V → Hp → VK → Prop := fun args H Q => ∃ p ys, args = [.ref p] ∧ SqL K H p ys ∧ ∀ (l : Addr) (ob : Obj), H l = none → ob.cls = .type "tuple" → ob.dict = none → Q (.ref l) (upd H l (.frz ob (.tup ys)))
theorem call_tupleK (K : PySem.W.Frag) {X : Cx} (e : X.K = K) : CallR X (.type "tuple") (rTupleK K) := call_tuple_ofF K e
theorem b1_tupleK : Bi1 K cl (rTupleK K) tupleK := fun A H x p Q E hA ix w => by
  obtain ⟨a, vs, ps, rfl, hs, hl, w⟩ := wp_asLi (wp_bind.mp w) ix
  exact ⟨a, vs, rfl, hs, fun l ob hl' c d => w _ _ (sub_new hl' _) (.ktp (new_frz hA hl' _) c d (hl.mono (frz_same (sub_new hl' _))))⟩
end
end KT
section
variable (K : PySem.W.Frag) (cl : Str → Option Addr)
end
section
variable {K : PySem.W.Frag} {cl : Str → Option Addr} {W : WX} {bs O : List Addr} {F H H' H1 : Hp} {ρ : Ro} {σ : St} {S : Type} {ρs : S → Ro} {te ta : TE} {ma : S → Res (PV × S)} {tr : TA} {sg : List Bool} {is : List Nat} {mt : S → Res (List PV × List PV × S)}
open Classical in
open Classical in
end
section
open PySem.Spec PyProof.Rows
variable {X : Cx}
end
section
variable {X : Cx}
end
section
variable {K : PySem.W.Frag} {cl : Str → Option Addr}
end
section
variable {K : PySem.W.Frag} {cl : Str → Option Addr} {W : WX} {ρ : Ro} {ta tb : TE} {ma mb : Res PV}
end
@[reducible] def optS : Option PV → Slot
  | none => .un
  | some p => .fz p
section
variable {K : PySem.W.Frag} {cl : Str → Option Addr} {W : WX} {ρx : Ro} {S L : Type} {ρn : S → Ro} {ρl : L → Ro} {u : TS}
end
namespace TR
open PySem PySem.Spec PyProof.Rows HT
section
variable {prog : Program} {w : World} {A : Around} {E : Value → Shared → Prop} {s : Shared}
end
end TR
section
open PySem PySem.Spec PyProof.Rows
variable {X : Cx} {e k : Expr} {te : TE} {tk : TO} {pos p2 : Pos}
end
section
variable {K : PySem.W.Frag} {cl : Str → Option Addr} {W : WX} {ρ : Ro} {ta : TE} {tk : TO} {ma : Res PV} {mk : Res (Option Int)}
end
section
open PySem.Spec PyProof.Rows
abbrev lsO (ys : Array Value) (k : Nat) : Obj := { cls := .type "list", dict := none, data := .seq ys k, slots := #[] }
def Mdt (XX : Nat → Array Value → Prop) (lim : Addr) (ys : Array Value) (g : Heap) : Prop :=
  ∃ as : List Addr, ys.toList = as.map Value.ref ∧ as.Pairwise (· < ·) ∧ (∀ a, a ∈ as → lim < a) ∧ ∀ (j : Nat) (a : Addr), as[j]? = some a → ∃ its, XX j its ∧ g.get? a = some { cls := .type "tuple", data := .seq its }
theorem Mdt.keep {XX : Nat → Array Value → Prop} {lim : Addr} {ys : Array Value} {g g2 : Heap} (h : Mdt XX lim ys g) (k : ∀ b o, lim < b → g.get? b = some o → g2.get? b = some o) : Mdt XX lim ys g2 := by
  obtain ⟨as, h1, h2, h3, h4⟩ := h
  exact ⟨as, h1, h2, h3, fun j a e => let ⟨its, x, y⟩ := h4 j a e; ⟨its, x, k a _ (h3 a (List.mem_of_getElem? e)) y⟩⟩
structure Gvr (prog : Program) (w : World) (A : Around) (I : Addr) (T : String) (wr : List Addr) (lim : Addr) (n : Nat) (XX : Nat → Array Value → Prop) (st : Nat → Array Value → Heap → Prop) : Prop where
  low : ∀ b, b ∈ wr → b < lim
  ty : ∀ i ys g, st i ys g → ∃ o, g.get? I = some o ∧ o.cls = .type T
  lI : I < lim
  made : ∀ i ys g, st i ys g → ys.size = i ∧ Mdt XX lim ys g
  frame : ∀ i ys g g2, st i ys g → (∀ b o, b ≠ lim → g.get? b = some o → g2.get? b = some o) → st i ys g2
  self : ∀ i ys (z : Shared) (Q : Value → Shared → Prop) (E : Value → Shared → Prop), st i ys z.heap → Q (.ref I) z → wpAny (model prog w) A (pyIter (.ref I)) Q E z
  item : ∀ i ys (z : Shared) (Q : Option Value → Shared → Prop) (E : Value → Shared → Prop), i < n → st i ys z.heap → lim < z.heap.objs.size →
    (∀ v g tk, st (i + 1) (ys.push v) g → (∀ b o, b ∉ wr → z.heap.get? b = some o → g.get? b = some o) → Q (some v) { z with heap := g, toks := tk }) → wpAny (model prog w) A (pyNext (.ref I)) Q E z
  done : ∀ ys (z : Shared) (Q : Option Value → Shared → Prop) (E : Value → Shared → Prop), st n ys z.heap → (∀ g tk, (∀ b o, b ∉ wr → z.heap.get? b = some o → g.get? b = some o) → Q none { z with heap := g, toks := tk }) → wpAny (model prog w) A (pyNext (.ref I)) Q E z
section
variable {prog : Program} {w : World} {A : Around} {I lim : Addr} {T : String} {wr : List Addr} {n : Nat} {XX : Nat → Array Value → Prop} {st : Nat → Array Value → Heap → Prop} {R : Result → Shared → Prop}
theorem gv_loop (W : Gvr prog w A.in1 I T wr lim n XX st) (hn : n ≤ sizeLine) (res : Value) : ∀ (k i : Nat) (z : Shared) (ys : Array Value) (m : Nat), n - i = k → i ≤ n → st i ys z.heap → z.heap.get? lim = some (lsO ys m) →
    (∀ g tk ys2 m2, (∀ b o, b ∉ lim :: wr → z.heap.get? b = some o → g.get? b = some o) → g.get? lim = some (lsO ys2 m2) → ys2.size = n → Mdt XX lim ys2 g → R (.ok (.ret res)) { z with heap := g, toks := tk }) →
    codeAny (model prog w) A (.builtin "list.extend.loop" ⟨[.ref lim, .ref I, res], []⟩) R z := by
  have nw : lim ∉ wr := fun y => Nat.lt_irrefl _ (W.low _ y)
  intro k
  induction k with
  | zero =>
    intro i z ys m hk hi hs hL hR
    obtain rfl : i = n := by omega
    obtain ⟨y1, y2⟩ := W.made _ _ _ hs
    refine codeAny_builtin F.entry_extend_loop ?_
    rw [Around.under_plainId F.plain_extend_loop _]
    refine wpAny_bind (W.done ys z _ _ hs fun g tk kp => wpAny_pure (hR g tk ys m (fun b o nb e => kp b o (fun y => nb (List.mem_cons_of_mem _ y)) e) (kp _ _ nw hL) y1 (y2.keep fun b o lb e => kp b o (fun y => absurd (W.low _ y) (Nat.not_lt.mpr (Nat.le_of_lt lb))) e)))
  | succ k ih =>
    intro i z ys m hk hi hs hL hR
    have lt : i < n := by omega
    have sy : ys.size = i := (W.made _ _ _ hs).1
    refine codeAny_builtin F.entry_extend_loop ?_
    rw [Around.under_plainId F.plain_extend_loop _]
    refine wpAny_bind (W.item i ys z _ _ lt hs (Heap.lt_size hL) fun v g tk hs2 kp => ?_)
    have hL2 : g.get? lim = some (lsO ys m) := kp _ _ nw hL
    show wpAny _ A.in1 (updateSeq lim (·.push v) >>= _) _ _ _
    refine wpAny_bind (wpAny_updateSeq (s := { z with heap := g, toks := tk }) hL2 rfl (wpAny_pure ⟨plainId_quiet F.plain_extend_loop _, ih (i + 1) _ (ys.push v) _ (by omega) lt (W.frame _ _ g _ hs2 fun b o nb e => (Heap.get?_update_other _ _ (Ne.symm nb)).trans e) (Heap.get?_update_self _ hL2 rfl) fun g2 tk2 ys2 m2 kp2 hL3 e1 e2 => ?_⟩) (by rw [sy]; omega) (by show (ys.push v).size ≤ sizeLine + 1; rw [Array.size_push, sy]; omega))
    refine hR g2 tk2 ys2 m2 (fun b o nb e => kp2 b o nb ?_) hL3 e1 e2
    exact (Heap.get?_update_other _ _ (fun y : lim = b => nb (by rw [y]; exact List.mem_cons_self))).trans (kp b o (fun y => nb (List.mem_cons_of_mem _ y)) e)
theorem gv_extend (W : Gvr prog w A.in1 I T wr lim n XX st) (hl : typeLookup (.type T) "__len__" = pure none) (hh : typeLookup (.type T) "__length_hint__" = pure none) (nl : (Value.type T == Value.type "list") = false) (nt : (Value.type T == Value.type "tuple") = false) (hn : n ≤ sizeLine) (res : Value)
    {z : Shared} {m : Nat} (hs : st 0 #[] z.heap) (hL : z.heap.get? lim = some (lsO #[] m))
    (hR : ∀ g tk ys2 m2, (∀ b o, b ∉ lim :: wr → z.heap.get? b = some o → g.get? b = some o) → g.get? lim = some (lsO ys2 m2) → ys2.size = n → Mdt XX lim ys2 g → R (.ok (.ret res)) { z with heap := g, toks := tk }) :
    wpAny (model prog w) A.in1 (Builtin.List.listExtendWith (.ref lim) (.ref I) res) (fun fin s2 => match fin with | .done f => R (.ok f) s2 | .again c => c.quiet = true ∧ codeAny (model prog w) A c R s2) (fun e s2 => R (.error e) s2) z := by
  have ne : lim ≠ I := fun y => Nat.lt_irrefl _ (y ▸ W.lI)
  have tI : z.TypeIs (.ref I) T := W.ty _ _ _ hs
  have q1 : Builtin.List.listSameRef (.ref lim) (.ref I) = false := by simp [Builtin.List.listSameRef, ne]
  unfold Builtin.List.listExtendWith
  refine wpAny_bind (wpAny_typeOf tI ?_)
  simp only [q1, nl, nt, Bool.or_false, Bool.false_eq_true, if_false]
  refine wpAny_bind (W.self 0 _ _ _ _ hs (wpAny_bind (wpAny_holding ?_)))
  unfold Builtin.List.listLengthHint
  refine wpAny_bind (wpAny_specialOf tI hl ?_)
  show wpAny _ A.in1 (specialOf (Value.ref I) (Str.ofString "__length_hint__") >>= _) _ _ _
  refine wpAny_bind (wpAny_specialOf tI hh (wpAny_pure ?_))
  show wpAny _ A.in1 (rule "list.extend.makes-room" >>= fun _ => Builtin.List.listTouch (.ref lim) >>= fun _ => again (.builtin "list.extend.loop" ⟨[.ref lim, .ref I, res], []⟩)) _ _ _
  refine wpAny_bind (wpAny_rule (wpAny_bind ?_))
  show wpAny _ A.in1 (updateSeq lim (·.push .none) >>= fun _ => updateSeq lim (·.pop)) _ _ _
  refine wpAny_bind (wpAny_updateSeq hL rfl ?_)
  have hL2 := Heap.get?_update_self (Obj.mapSeq (·.push Value.none)) hL rfl
  refine wpAny_updateSeq (hz := by seq_fits) hL2 rfl ?_
  have hL3 := Heap.get?_update_self (Obj.mapSeq (·.pop)) hL2 rfl
  have off : ∀ b o, b ≠ lim → z.heap.get? b = some o → ((z.heap.update lim (Obj.mapSeq (·.push Value.none))).update lim (Obj.mapSeq (·.pop))).get? b = some o := fun b o nb e => (Heap.get?_update_other _ _ (Ne.symm nb)).trans ((Heap.get?_update_other _ _ (Ne.symm nb)).trans e)
  refine wpAny_pure ⟨plainId_quiet F.plain_extend_loop _, gv_loop W hn res n 0 _ #[] _ rfl (Nat.zero_le _) (W.frame _ _ _ _ hs off) hL3 fun g tk ys2 m2 kp e1 e2 e3 => hR g tk ys2 m2 (fun b o nb e => kp b o nb (off b o (fun y => nb (by rw [y]; exact List.mem_cons_self)) e)) e1 e2 e3⟩
end
end
section
variable {prog : Program} {w : World} {A : Around} {E : Value → Shared → Prop} {I lim : Addr} {T : String} {wr : List Addr} {n : Nat} {XX : Nat → Array Value → Prop} {st : Nat → Array Value → Heap → Prop} {z : Shared}
theorem gv_collect {Q : List Value → Shared → Prop} (W : Gvr prog w A.in1 I T wr lim n XX st) (hl : typeLookup (.type T) "__len__" = pure none) (hh : typeLookup (.type T) "__length_hint__" = pure none) (nl : (Value.type T == Value.type "list") = false) (nt : (Value.type T == Value.type "tuple") = false) (hn : n ≤ sizeLine)
    (el : lim = z.heap.objs.size) (hs : st 0 #[] z.heap)
    (hQ : ∀ g tk ys, (∀ b o, b ∉ wr → z.heap.get? b = some o → g.get? b = some o) → lim < g.objs.size → ys.size = n → Mdt XX lim ys g → Q ys.toList { z with heap := g, toks := tk }) : wpAny (model prog w) A (collect (.ref I)) Q E z := by
  subst el
  unfold collect
  refine wpAny_bind (wpAny_runValue (codeAny_builtin F.entry_proto_collect ?_))
  rw [Around.under_plainId F.plain_proto_collect _]
  show wpAny _ A.in1 (newList [] >>= fun y => again (.builtin "list.__iadd__" ⟨[y, .ref I], []⟩)) _ _ z
  refine wpAny_bind (wpAny_newObj_type (wpAny_pure ⟨plainId_quiet F.plain_list_iadd _, codeAny_builtin F.entry_list_iadd ?_⟩))
  rw [Around.under_plainId F.plain_list_iadd _]
  show wpAny _ A.in1 (Builtin.List.listExtendWith (.ref z.heap.objs.size) (.ref I) (.ref z.heap.objs.size)) _ _ _
  have g1 : (z.heap.push { cls := .type "list", data := .seq ([] : List Value).toArray }).get? z.heap.objs.size = some (lsO #[] 0) := Heap.get?_push_size _ rfl
  have off : ∀ b o, b ≠ z.heap.objs.size → z.heap.get? b = some o → (z.heap.push { cls := .type "list", data := .seq ([] : List Value).toArray }).get? b = some o := fun b o _ e => Heap.get?_push_of_some _ e
  refine gv_extend (R := wants _ E) (z := { z with heap := z.heap.push { cls := .type "list", data := .seq ([] : List Value).toArray } }) W hl hh nl nt hn _ (W.frame _ _ _ _ hs off) g1 fun g tk ys m kp e1 e2 e3 => ?_
  show wpAny _ A (load z.heap.objs.size >>= _) _ _ _
  refine wpAny_bind (wpAny_load e1 (wpAny_pure (hQ g tk ys (fun b o nb e => kp b o (fun y => ?_) (off b o (Nat.ne_of_lt (Heap.lt_size e)) e)) (Heap.lt_size e1) e2 e3)))
  rcases List.mem_cons.mp y with rfl | y
  · exact Nat.lt_irrefl _ (Heap.lt_size e)
  · exact nb y
theorem gv_tuple {Q : Value → Shared → Prop} (W : Gvr prog w A.in1.in1.in1 I T wr lim n XX st) (hl : typeLookup (.type T) "__len__" = pure none) (hh : typeLookup (.type T) "__length_hint__" = pure none) (nl : (Value.type T == Value.type "list") = false) (nt : (Value.type T == Value.type "tuple") = false) (hn : n ≤ sizeLine)
    (el : lim = z.heap.objs.size) (hs : st 0 #[] z.heap) (hTI : z.TypeIs (.ref I) T) (hT9 : (Value.type T == Value.type "tuple") = false)
    (hQ : ∀ g tk ys, (∀ b o, b ∉ wr → z.heap.get? b = some o → g.get? b = some o) → lim < g.objs.size → ys.size = n → Mdt XX lim ys g → Q (.ref g.objs.size) { z with heap := g.push { cls := .type "tuple", data := .seq ys }, toks := tk }) : wpAny (model prog w) A (call (.type "tuple") [.ref I]) Q E z := by
  refine callType_codes (Q₁ := fun ob z1 => z1.TypeIs ob "tuple" ∧ Q ob z1) F.called_tuple (F.typeCall_tuple_1 _) F.entry_object_init (codeAny_of_tree ?_) fun ob z1 y => ⟨y.1, F.args_object_init_2 ob _, object_init_meets F.called_tuple.init.lookup F.called_tuple.made (by decide) prog w A.in1 _ z1 ⟨y.1, rfl, y.2⟩⟩
  show wpAny _ A.in1.in1 (do checkBuiltinCall "tuple.__new__" ⟨[.type "tuple", .ref I], []⟩; again (.builtin "tuple.__new__" ⟨[.type "tuple", .ref I], []⟩)) _ _ z
  refine wpAny_bind (wpAny_of_eq (F.newCall_tuple_1 _) (wpAny_pure ⟨plainId_quiet F.plain_tuple_new _, codeAny_builtin F.entry_tuple_new ?_⟩))
  rw [Around.under_plainId F.plain_tuple_new _]
  have sub := sub_tuple_self
  have ini := init_tuple_lookup
  have mh := madeHere_tuple
  wp_walk using wpAny_typeOf hTI, gv_collect (A := A.in1.in1) W hl hh nl nt hn el hs
  intro g tk ys kp lg sz md
  show wpAny _ _ (Builtin.Tuple.tupleExact ys.toList.toArray >>= fun y => ret y) _ _ _
  unfold Builtin.Tuple.tupleExact
  have e : ys.toList.toArray = ys := by simp
  rw [e]
  refine wpAny_bind (wpAny_newObj_type (wpAny_pure ⟨⟨_, Heap.get?_push_size _ rfl, rfl⟩, hQ g tk ys kp lg sz md⟩) (by show ys.size ≤ sizeLine; rw [sz]; exact hn))
end
section
open PySem.Spec PyProof.Rows
variable {prog : Program} {w : World} {A : Around} {E : Value → Shared → Prop} {z0 : Shared} {z TI TO T i1 i2 i3 : Addr} {fp1 fp2 fp3 : List Addr} {n1 n2 n3 i : Nat} {P1 P2 P3 : Nat → Value → Prop} {St1 St2 St3 : Nat → Heap → Prop} {b : Bool} {oT : Obj}
theorem zh2_item {Q : Value → Shared → Prop} (S : ZipSep2 z TI TO i1 i2 fp1 fp2) (D1 : Draws prog w A i1 fp1 n1 P1 St1) (D2 : Draws prog w A i2 fp2 n2 P2 St2) (hz : IsZipHeld z0.heap z TI TO T b) (hT : z0.heap.get? T = some oT) (hI : IsTupOf2 z0.heap TI (.ref i1) (.ref i2))
    (t1 : St1 i z0.heap) (t2 : St2 i z0.heap) (l1 : i < n1) (l2 : i < n2)
    (hQ : ∀ x1 x2 g tk, P1 i x1 → P2 i x2 → IsZipHeld g z TI TO T true → St1 (i + 1) g → St2 (i + 1) g → IsTupOf2 g z0.heap.objs.size x1 x2 → (∀ c o, c ≠ z → c ≠ i1 → c ≠ i2 → z0.heap.get? c = some o → g.get? c = some o) → Q (.ref z0.heap.objs.size) { z0 with heap := g, toks := tk }) :
    wpAny (model prog w) A (Builtin.«zip.__next__» ⟨[.ref z], []⟩) (fun fin z1 => ∃ v, fin = .done (.ret v) ∧ Q v z1) E z0 := by
  obtain ⟨hp, gs, dr, tk0, os⟩ := z0
  show wpAny _ _ (field (.ref z) 2 >>= _) _ _ _
  refine wpAny_bind (wpAny_field hz rfl (x := .bool false) rfl ?_)
  show wpAny _ _ (field (.ref z) 3 >>= _) _ _ _
  refine wpAny_bind (wpAny_field hz rfl (x := .ref TI) rfl (wpAny_bind (wpAny_seqItems hI rfl ?_)))
  show wpAny _ _ (Builtin.SmallTypes.ownedTupleIsFree (.ref z) >>= _) _ _ _
  refine wpAny_bind (wpAny_tupleHeld_zip hz hT fun g0 hz0 s0 => ?_)
  replace s0 : Heap.SameBut z hp g0 := s0
  simp only [Bool.false_eq_true, if_false]
  refine wpAny_bind ?_
  rw [← Array.forIn_toList]
  simp only [List.forIn_cons, List.forIn_nil]
  refine wpAny_bind (wpAny_bind (wpAny_holding ?_))
  show wpAny _ _ (Builtin.SmallTypes.nextOf (.ref i1) >>= _) _ _ ⟨g0, gs, dr, tk0, os⟩
  refine wpAny_bind (D1.item i _ _ _ l1 (D1.over t1 s0 S.zf1) fun x1 p1 k1 y1 u1 s1 => wpAny_pure (wpAny_pure ?_))
  replace s1 : Heap.SameBut i1 g0 p1 := s1
  refine wpAny_bind (wpAny_bind (wpAny_holding ?_))
  show wpAny _ _ (Builtin.SmallTypes.nextOf (.ref i2) >>= _) _ _ ⟨p1, gs, dr, k1, os⟩
  refine wpAny_bind (D2.item i _ _ _ l2 (D2.over (D2.over t2 s0 S.zf2) s1 S.sep1_2) fun x2 p2 k2 y2 u2 s2 => wpAny_pure (wpAny_pure (wpAny_pure ?_)))
  replace s2 : Heap.SameBut i2 p1 p2 := s2
  show wpAny _ _ (newTuple [x1, x2] >>= _) _ _ _
  refine wpAny_bind (wpAny_newTuple ?_)
  have sz : p2.objs.size = hp.objs.size := by rw [s2.1, s1.1, s0.1]
  have kp : ∀ c o, c ≠ z → c ≠ i1 → c ≠ i2 → hp.get? c = some o → p2.get? c = some o := fun c o c1 c2 c3 e => s2.extBut _ _ c3 (s1.extBut _ _ c2 (s0.extBut _ _ c1 e))
  have zz : IsZipHeld p2 z TI TO T true := s2.extBut _ _ S.zi2 (s1.extBut _ _ S.zi1 hz0)
  refine wpAny_pure ⟨_, rfl, ?_⟩
  show Q (.ref p2.objs.size) _
  have ht : IsTupOf2 (p2.push { cls := .type "tuple", data := .seq #[x1, x2] }) p2.objs.size x1 x2 := Heap.get?_push_size _ rfl
  rw [sz] at ht ⊢
  exact hQ x1 x2 _ k2 y1 y2 (Heap.get?_push_of_some _ zz) (D1.frame _ _ _ (D1.over u1 s2 S.sep2_1) fun _ _ o e => Heap.get?_push_of_some _ e) (D2.frame _ _ _ u2 fun _ _ o e => Heap.get?_push_of_some _ e) ht fun c o c1 c2 c3 e => Heap.get?_push_of_some _ (kp c o c1 c2 c3 e)
theorem zh2_end {Q : Fin → Shared → Prop} (S : ZipSep2 z TI TO i1 i2 fp1 fp2) (D1 : Draws prog w A i1 fp1 n1 P1 St1) (D2 : Draws prog w A i2 fp2 n2 P2 St2) (hz : IsZipHeld z0.heap z TI TO T b) (hT : z0.heap.get? T = some oT) (hI : IsTupOf2 z0.heap TI (.ref i1) (.ref i2))
    (t1 : St1 i z0.heap) (t2 : St2 i z0.heap) (l1 : i ≤ n1) (l2 : i ≤ n2) (he : i = n1 ∨ i = n2)
    (hE : ∀ g tk e, (∀ c o, c ≠ z → c ≠ i1 → c ≠ i2 → z0.heap.get? c = some o → g.get? c = some o) → (∃ o, g.get? e = some o ∧ o.cls = .type "StopIteration") → E (.ref e) { z0 with heap := g, toks := tk }) :
    wpAny (model prog w) A (Builtin.«zip.__next__» ⟨[.ref z], []⟩) Q E z0 := by
  obtain ⟨hp, gs, dr, tk0, os⟩ := z0
  show wpAny _ _ (field (.ref z) 2 >>= _) _ _ _
  refine wpAny_bind (wpAny_field hz rfl (x := .bool false) rfl ?_)
  show wpAny _ _ (field (.ref z) 3 >>= _) _ _ _
  refine wpAny_bind (wpAny_field hz rfl (x := .ref TI) rfl (wpAny_bind (wpAny_seqItems hI rfl ?_)))
  show wpAny _ _ (Builtin.SmallTypes.ownedTupleIsFree (.ref z) >>= _) _ _ _
  refine wpAny_bind (wpAny_tupleHeld_zip hz hT fun g0 hz0 s0 => ?_)
  replace s0 : Heap.SameBut z hp g0 := s0
  simp only [Bool.false_eq_true, if_false]
  refine wpAny_bind ?_
  rw [← Array.forIn_toList]
  simp only [List.forIn_cons, List.forIn_nil]
  refine wpAny_bind (wpAny_bind (wpAny_holding ?_))
  show wpAny _ _ (Builtin.SmallTypes.nextOf (.ref i1) >>= _) _ _ ⟨g0, gs, dr, tk0, os⟩
  by_cases c1 : i < n1
  · refine wpAny_bind (D1.item i _ _ _ c1 (D1.over t1 s0 S.zf1) fun x1 p1 k1 y1 u1 s1 => wpAny_pure (wpAny_pure ?_))
    replace s1 : Heap.SameBut i1 g0 p1 := s1
    have e2 : i = n2 := by omega
    refine wpAny_bind (wpAny_bind (wpAny_holding ?_))
    show wpAny _ _ (Builtin.SmallTypes.nextOf (.ref i2) >>= _) _ _ ⟨p1, gs, dr, k1, os⟩
    refine wpAny_bind (D2.done ⟨p1, gs, dr, k1, os⟩ _ _ (e2 ▸ D2.over (D2.over t2 s0 S.zf2) s1 S.sep1_2) fun q e hq hx => ?_)
    exact hE q k1 e (fun c o c1 c2 c3 y => hq _ _ c3 (s1.extBut _ _ c2 (s0.extBut _ _ c1 y))) hx
  · have e1 : i = n1 := by omega
    refine wpAny_bind (D1.done ⟨g0, gs, dr, tk0, os⟩ _ _ (e1 ▸ D1.over t1 s0 S.zf1) fun q e hq hx => ?_)
    exact hE q tk0 e (fun c o c1 c2 c3 y => hq _ _ c2 (s0.extBut _ _ c1 y)) hx
end
section
open PySem.Spec PyProof.Rows
theorem Mdt.push {XX : Nat → Array Value → Prop} {lim T : Addr} {ys : Array Value} {g g2 : Heap} {i : Nat} {its : Array Value} (h : Mdt XX lim ys g) (sz : ys.size = i) (k : ∀ b o, lim < b → g.get? b = some o → g2.get? b = some o) (hx : XX i its) (hT : g2.get? T = some { cls := .type "tuple", data := .seq its }) (lt : g.objs.size ≤ T) (lT : lim < T) : Mdt XX lim (ys.push (.ref T)) g2 := by
  obtain ⟨as, h1, h2, h3, h4⟩ := h
  have al : as.length = i := by rw [← List.length_map (f := Value.ref) (as := as), ← h1, Array.length_toList]; exact sz
  refine ⟨as ++ [T], by rw [Array.toList_push, h1, List.map_append]; rfl, List.pairwise_append.mpr ⟨h2, List.pairwise_singleton _ _, fun a ha b hb => ?_⟩, fun a ha => ?_, fun j a e => ?_⟩
  · rw [List.mem_singleton.mp hb]
    obtain ⟨j, hj⟩ := List.getElem?_of_mem ha
    obtain ⟨_, _, y⟩ := h4 j a hj
    exact Nat.lt_of_lt_of_le (Heap.lt_size y) lt
  · rcases List.mem_append.mp ha with ha | ha
    · exact h3 a ha
    · rw [List.mem_singleton.mp ha]; exact lT
  · by_cases c : j < as.length
    · rw [List.getElem?_append_left c] at e
      obtain ⟨its2, x, y⟩ := h4 j a e
      exact ⟨its2, x, k a _ (h3 a (List.mem_of_getElem? e)) y⟩
    · rw [List.getElem?_append_right (by omega)] at e
      have j0 : j - as.length = 0 := by
        have := (List.getElem?_eq_some_iff.mp e).1
        rw [List.length_singleton] at this
        omega
      rw [j0] at e
      cases e
      have : j = i := by omega
      rw [this]
      exact ⟨its, hx, hT⟩
theorem Mdt.nil {XX : Nat → Array Value → Prop} {lim : Addr} {g : Heap} : Mdt XX lim #[] g := by
  refine ⟨[], rfl, .nil, fun a h => ?_, fun j a h => ?_⟩
  · cases h
  · rw [List.getElem?_nil] at h
    cases h
variable {prog : Program} {w : World} {A : Around} {z TI TO i1 i2 i3 lim : Addr} {fp1 fp2 fp3 : List Addr} {n1 n2 n3 : Nat} {P1 P2 P3 : Nat → Value → Prop} {St1 St2 St3 : Nat → Heap → Prop}
def zs2 (z TI TO i1 i2 lim : Addr) (XX : Nat → Array Value → Prop) (St1 St2 : Nat → Heap → Prop) (i : Nat) (ys : Array Value) (g : Heap) : Prop :=
  (ys.size = i ∧ Mdt XX lim ys g) ∧ IsTupOf2 g TI (.ref i1) (.ref i2) ∧ (∃ a1 a2, IsTupOf2 g TO a1 a2) ∧ St1 i g ∧ St2 i g ∧ ((i = 0 ∧ IsZip g z TI TO .none) ∨ ∃ T f, (∃ oT, g.get? T = some oT) ∧ lim < T ∧ IsZipHeld g z TI TO T f)
theorem gvr_zip2 (hh : A.handled = none) (S : ZipSep2 z TI TO i1 i2 fp1 fp2) (D1 : ∀ A : Around, A.handled = none → Draws prog w A i1 fp1 n1 P1 St1) (D2 : ∀ A : Around, A.handled = none → Draws prog w A i2 fp2 n2 P2 St2)
    (lz : z < lim) (lI : TI < lim) (lO : TO < lim) (lf1 : ∀ b, b ∈ fp1 → b < lim) (lf2 : ∀ b, b ∈ fp2 → b < lim) :
    Gvr prog w A z "zip" [z, TO, i1, i2] lim (min n1 n2) (fun i its => ∃ x1 x2, P1 i x1 ∧ P2 i x2 ∧ its = #[x1, x2]) (zs2 z TI TO i1 i2 lim (fun i its => ∃ x1 x2, P1 i x1 ∧ P2 i x2 ∧ its = #[x1, x2]) St1 St2) where
  low := fun b hb => by
    have e : b = z ∨ b = TO ∨ b = i1 ∨ b = i2 := by simpa using hb
    rcases e with rfl | rfl | rfl | rfl
    · exact lz
    · exact lO
    · exact lf1 _ S.mem1
    · exact lf2 _ S.mem2
  ty := fun i ys g h => by
    rcases h.2.2.2.2.2 with ⟨_, h⟩ | ⟨_, _, _, _, h⟩
    · exact ⟨_, h, rfl⟩
    · exact ⟨_, h, rfl⟩
  lI := lz
  made := fun i ys g h => h.1
  frame := fun i ys g g2 h k => by
    have kl : ∀ b, b < lim → ∀ o, g.get? b = some o → g2.get? b = some o := fun b l o e => k b o (Nat.ne_of_lt l) e
    obtain ⟨⟨h1, h2⟩, h3, ⟨a1, a2, h4⟩, h5, h6, h7⟩ := h
    refine ⟨⟨h1, h2.keep fun b o l e => k b o (Nat.ne_of_gt l) e⟩, kl _ lI _ h3, ⟨a1, a2, kl _ lO _ h4⟩, (D1 A hh).frame _ _ _ h5 fun b hb o e => kl b (lf1 b hb) o e, (D2 A hh).frame _ _ _ h6 fun b hb o e => kl b (lf2 b hb) o e, ?_⟩
    rcases h7 with ⟨e, h7⟩ | ⟨T, f, ⟨oT, h8⟩, lT, h9⟩
    · exact .inl ⟨e, kl _ lz _ h7⟩
    · exact .inr ⟨T, f, ⟨oT, k _ _ (Nat.ne_of_gt lT) h8⟩, lT, kl _ lz _ h9⟩
  self := fun i ys z0 Q E h q => by
    rcases h.2.2.2.2.2 with ⟨_, h⟩ | ⟨T, f, _, _, h⟩
    · exact wpAny_pyIter_zip h q
    · have hT : z0.TypeIs (.ref z) "zip" := ⟨_, h, rfl⟩
      refine wpAny_pyIter_slot hT F.slot_zip_iter (wpAny_call_entry F.slot_zip_iter hT F.entry_zip_iter ?_ (F.args_zip_iter_1 _))
      show wpAny _ _ (ret (.ref z)) _ _ z0
      exact wpAny_pure ⟨_, rfl, "zip", _, hT, F.slot_zip_next.lookup, q⟩
  item := fun i ys z0 Q E hi h hl hQ => by
    obtain ⟨⟨h1, h2⟩, h3, ⟨a1, a2, h4⟩, h5, h6, h7⟩ := h
    have q1 : i < n1 := by omega
    have q2 : i < n2 := by omega
    have kk : ∀ {g : Heap}, (∀ c o, c ≠ z → c ≠ TO → c ≠ i1 → c ≠ i2 → z0.heap.get? c = some o → g.get? c = some o) → (∀ b o, lim < b → z0.heap.get? b = some o → g.get? b = some o) ∧ ∀ b o, b ∉ [z, TO, i1, i2] → z0.heap.get? b = some o → g.get? b = some o := fun k => ⟨fun b o l e => k b o (fun y => absurd l (by rw [y]; exact Nat.not_lt.mpr (Nat.le_of_lt lz))) (fun y => absurd l (by rw [y]; exact Nat.not_lt.mpr (Nat.le_of_lt lO))) (fun y => absurd l (by rw [y]; exact Nat.not_lt.mpr (Nat.le_of_lt (lf1 _ S.mem1)))) (fun y => absurd l (by rw [y]; exact Nat.not_lt.mpr (Nat.le_of_lt (lf2 _ S.mem2)))) e, fun b o nb e => k b o (fun y => nb (by simp [y])) (fun y => nb (by simp [y])) (fun y => nb (by simp [y])) (fun y => nb (by simp [y])) e⟩
    rcases h7 with ⟨e, h7⟩ | ⟨T, f, ⟨oT, h8⟩, lT, h9⟩
    · refine wpAny_pyNext_zipD2_item S (D1 A.in1 hh) (D2 A.in1 hh) h7 h3 h4 h5 h6 q1 q2 fun x1 x2 g tk y1 y2 b1 b2 d1 d2 b5 b6 b7 => ?_
      have ke := kk b7
      have tI : IsTupOf2 g TI (.ref i1) (.ref i2) := b7 _ _ S.TIz S.TITO S.TIi1 S.TIi2 h3
      exact hQ _ g tk ⟨⟨by rw [Array.size_push, h1], h2.push h1 ke.1 ⟨x1, x2, y1, y2, rfl⟩ b5 (Nat.le_refl _) hl⟩, tI, ⟨_, _, b2⟩, d1, d2, .inr ⟨_, false, ⟨_, b5⟩, hl, b1⟩⟩ ke.2
    · have hT : z0.TypeIs (.ref z) "zip" := ⟨_, h9, rfl⟩
      unfold pyNext
      refine wpAny_bind (wpAny_attempt (wpAny_callSpecial?_slot (name := Str.ofString "__next__") hT F.slot_zip_next (wpAny_call_entry F.slot_zip_next hT F.entry_zip_next (zh2_item S (D1 A.in1 hh) (D2 A.in1 hh) h9 h8 h3 h5 h6 q1 q2 fun x1 x2 g tk y1 y2 b1 d1 d2 b5 b7 => wpAny_pure ?_) (F.args_zip_next_1 _))))
      have ke := kk (g := g) fun c o c1 c2 c3 c4 e => b7 c o c1 c3 c4 e
      exact hQ _ g tk ⟨⟨by rw [Array.size_push, h1], h2.push h1 ke.1 ⟨x1, x2, y1, y2, rfl⟩ b5 (Nat.le_refl _) hl⟩, b7 _ _ S.TIz S.TIi1 S.TIi2 h3, ⟨_, _, b7 _ _ S.TOz S.Ti1 S.Ti2 h4⟩, d1, d2, .inr ⟨T, true, ⟨oT, ke.1 _ _ lT h8⟩, lT, b1⟩⟩ ke.2
  done := fun ys z0 Q E h hQ => by
    obtain ⟨⟨h1, h2⟩, h3, ⟨a1, a2, h4⟩, h5, h6, h7⟩ := h
    have kk : ∀ {g : Heap}, (∀ c o, c ≠ z → c ≠ TO → c ≠ i1 → c ≠ i2 → z0.heap.get? c = some o → g.get? c = some o) → ∀ b o, b ∉ [z, TO, i1, i2] → z0.heap.get? b = some o → g.get? b = some o := fun k b o nb e => k b o (fun y => nb (by simp [y])) (fun y => nb (by simp [y])) (fun y => nb (by simp [y])) (fun y => nb (by simp [y])) e
    rcases h7 with ⟨e, h7⟩ | ⟨T, f, ⟨oT, h8⟩, lT, h9⟩
    · exact wpAny_pyNext_zipD2_end S (D1 A.in1 hh) (D2 A.in1 hh) h7 h3 h4 h5 h6 (by omega) (by omega) (by omega) fun g tk k => hQ g tk (kk k)
    · have hT : z0.TypeIs (.ref z) "zip" := ⟨_, h9, rfl⟩
      unfold pyNext
      refine wpAny_bind (wpAny_attempt (wpAny_callSpecial?_slot (name := Str.ofString "__next__") hT F.slot_zip_next (wpAny_call_entry F.slot_zip_next hT F.entry_zip_next (zh2_end S (D1 A.in1 hh) (D2 A.in1 hh) h9 h8 h3 h5 h6 (by omega) (by omega) (by omega) fun g tk e k he => ?_) (F.args_zip_next_1 _))))
      obtain ⟨o, ho, hc⟩ := he
      exact wpAny_bind (wpAny_isInstance (T := "StopIteration") (b := true) ⟨o, ho, hc⟩ isSubtype_stop (wpAny_pure (hQ g tk (kk fun c o c1 c2 c3 c4 e => k c o c1 c3 c4 e))))
end
section
open PySem.Spec PyProof.Rows
variable {prog : Program} {w : World} {A : Around} {E : Value → Shared → Prop} {z0 : Shared} {e it T lim : Addr} {fp : List Addr} {n i : Nat} {P : Nat → Value → Prop} {St : Nat → Heap → Prop} {b : Bool} {oT : Obj} {c k0 : Int} {old : Value}
end
section
open PySem.Spec PyProof.Rows
def putR : Hp → List Addr → List (List V) → Hp
  | H, a :: as, r :: rs => putR (upd H a (.tup r)) as rs
  | H, _, _ => H
theorem putR_off {b : Addr} : ∀ (as : List Addr) (rs : List (List V)) (H : Hp), b ∉ as → putR H as rs b = H b
  | [], _, _, _ => rfl
  | _ :: _, [], _, _ => rfl
  | a :: as, r :: rs, H, h => by
    show putR (upd H a (.tup r)) as rs b = H b
    rw [putR_off as rs _ fun z => h (List.mem_cons_of_mem _ z), upd_ne fun z => h (by rw [z]; exact List.mem_cons_self)]
theorem putR_at : ∀ (as : List Addr) (rs : List (List V)) (H : Hp), as.length = rs.length → as.Nodup → ∀ (j : Nat) (a : Addr) (r : List V), as[j]? = some a → rs[j]? = some r → putR H as rs a = some (.tup r)
  | [], _, _, _, _, _, _, _, h, _ => by cases h
  | _ :: _, [], _, h, _, _, _, _, _, _ => by cases h
  | a :: as, r :: rs, H, h, hn, 0, b, q, h1, h2 => by
    have hn := List.nodup_cons.mp hn
    cases h1
    cases h2
    show putR (upd H a (.tup r)) as rs a = _
    rw [putR_off as rs _ hn.1, upd_same]
  | a :: as, r :: rs, H, h, hn, j + 1, b, q, h1, h2 => putR_at as rs _ (Nat.succ.inj h) (List.nodup_cons.mp hn).2 j b q h1 h2
theorem vals_rfs : ∀ as : List Addr, Vals (as.map V.ref) (as.map Value.ref)
  | [] => .nil
  | _ :: as => .cons rfl (vals_rfs as)
def NoLen (T : String) : Prop := typeLookup (.type T) "__len__" = pure none ∧ typeLookup (.type T) "__length_hint__" = pure none ∧ (Value.type T == Value.type "list") = false ∧ (Value.type T == Value.type "tuple") = false
def GvP (X : Cx) (pins : List (Addr × Obj)) (σ : L2.St) (R : List (List V) → Hp → Prop) (u : Value) (s1 : Shared) : Prop :=
  ∃ (I : Addr) (T : String) (wr : List Addr) (n : Nat) (XX : Nat → Array Value → Prop) (st : Nat → Array Value → Heap → Prop) (rows : List (List V)) (H1 : Hp) (s0 : Shared) (g : Heap) (tk : Nat),
    u = .ref I ∧ Inv X pins σ H1 s0 ∧ s1 = { s0 with heap := g, toks := tk } ∧ (∀ b o, s0.heap.get? b = some o → g.get? b = some o) ∧ s0.heap.objs.size ≤ g.objs.size ∧
    (∀ A : Around, A.handled = none → Gvr X.prog X.w A I T wr g.objs.size n XX st) ∧ st 0 #[] g ∧ (∀ b, b ∈ wr → s0.heap.objs.size ≤ b) ∧ NoLen T ∧ rows.length = n ∧ n ≤ sizeLine ∧
    (∀ j its, j < n → XX j its → ∃ r, rows[j]? = some r ∧ Vals r its.toList ∧ r.length ≤ sizeLine) ∧ R rows H1
structure PGv (X : Cx) (e : Expr) (tg : L2.St → Hp → (List (List V) → Hp → Prop) → Prop) : Prop where
  run : ∀ (pins : List (Addr × Obj)) (s : Shared) (σ : L2.St) (H : Hp) (R : List (List V) → Hp → Prop), Inv X pins σ H s → tg σ H R → wpAny (model X.prog X.w) X.A (eval e X.env) (GvP X pins σ R) X.xe s
theorem laidR {X : Cx} {pins : List (Addr × Obj)} {σ : L2.St} {H : Hp} {s : Shared} (I : Inv X pins σ H s) {g : Heap} {tk : Nat} (hk : ∀ b o, s.heap.get? b = some o → g.get? b = some o) {as : List Addr} {rows : List (List V)} (hl : as.length = rows.length) (rise : as.Pairwise (· < ·)) (above : ∀ a, a ∈ as → s.heap.objs.size ≤ a)
    (hr : ∀ (j : Nat) (a : Addr), as[j]? = some a → ∃ (r : List V) (its : Array Value), rows[j]? = some r ∧ Vals r its.toList ∧ r.length ≤ sizeLine ∧ g.get? a = some { cls := .type "tuple", data := .seq its }) {p : Addr} (hp : s.heap.objs.size ≤ p) (hn : p ∉ as) {o : HO} (ho : ∀ H' : Hp, ObjOk X.prog X.w H' g p o) :
    ∃ H' : Hp, Sub H H' ∧ H p = none ∧ (∀ t, t ∈ as → H t = none) ∧ H' p = some o ∧ (∀ (j : Nat) (a : Addr) (r : List V), as[j]? = some a → rows[j]? = some r → H' a = some (.tup r)) ∧ Inv X pins σ H' { s with heap := g, toks := tk } := by
  have nd : as.Nodup := List.Pairwise.imp (fun {a b} (h : a < b) => Nat.ne_of_lt h) rise
  have new : ∀ t, t ∈ as → H t = none := fun t ht => I.hok.fresh (above t ht)
  have newp : H p = none := I.hok.fresh hp
  have atP := putR_at as rows (upd H p o) hl nd
  have off : ∀ b, b ∉ as → b ≠ p → putR (upd H p o) as rows b = H b := fun b h1 h2 => by rw [putR_off as rows _ h1, upd_ne h2]
  have low : ∀ b ob, s.heap.get? b = some ob → b ∉ as ∧ b ≠ p := fun b ob e => ⟨fun z => absurd (Heap.lt_size e) (Nat.not_lt.mpr (above b z)), fun z => absurd (Heap.lt_size e) (Nat.not_lt.mpr (z ▸ hp))⟩
  have kp : ∀ b u, H b = some u → putR (upd H p o) as rows b = some u := fun b u e => by
    rw [off b (fun z => by rw [new b z] at e; cases e) (fun z => by rw [z, newp] at e; cases e)]
    exact e
  have ep : putR (upd H p o) as rows p = some o := by rw [putR_off as rows _ hn, upd_same]
  refine ⟨putR (upd H p o) as rows, kp, newp, new, ep, atP, ?_⟩
  refine I.call' (ch := []) rfl ⟨fun b ob q _ _ _ => hk b ob q, fun b ob q _ _ _ => ⟨ob.slots, hk b ob q⟩, fun b ob q n _ => ?_, fun b ob q _ => ⟨ob, hk b ob q⟩, fun b xs q => kp b _ q, fun b ob u q => kp b _ q, fun b ps q => ⟨#[], by rw [kp b _ q]; simp⟩⟩ (fun b u q => ?_) I.bare fun b z => by simp at z
  · obtain ⟨z1, z2⟩ := low b ob q
    rw [off b z1 z2]
    exact n
  · by_cases hb : b ∈ as
    · obtain ⟨j, hj⟩ := List.getElem?_of_mem hb
      obtain ⟨r, its, e1, e2, e3, e4⟩ := hr j b hj
      rw [atP j b r hj e1] at q
      cases q
      exact ⟨e3, its.toList, e2, ⟨_, e4, rfl, _, rfl⟩⟩
    · by_cases hb2 : b = p
      · rw [hb2] at q ⊢
        rw [ep] at q
        cases q
        exact ho _
      · rw [off b hb hb2] at q
        exact (I.hok b u q).stay (fun d v _ y => hk d v y) (fun d y => kp d _ y) fun d xs y => kp d _ y
def tTupGv (tg : L2.St → Hp → (List (List V) → Hp → Prop) → Prop) : TE := fun σ H Q => tg σ H fun rows H1 => ∀ (H' : Hp) (p : Addr) (ts : List Addr), Sub H1 H' → H1 p = none → (∀ t, t ∈ ts → H1 t = none) → p ∉ ts → ts.length = rows.length → H' p = some (.tup (ts.map V.ref)) → (∀ (j : Nat) (a : Addr) (r : List V), ts[j]? = some a → rows[j]? = some r → H' a = some (.tup r)) → Q (.ref p) H'
section
variable {X : Cx} {e : Expr} {tg : L2.St → Hp → (List (List V) → Hp → Prop) → Prop} {p pos : Pos}
theorem pe_tupGv (hc : X.calm = true) (he : PGv X e tg) (hg : Gl X "tuple") (hm : X.mg "tuple" = none) (hv : bootBuiltins "tuple" = some (.type "tuple"))
    (hs : starEach [e] X.env = (false, eval e X.env) :: starEach [] X.env := by rfl) : PE X (.Call (.Name "tuple" p) [e] [] pos) (tTupGv tg) := by
  refine ⟨fun pins s σ H Q I hq => ?_⟩
  refine wpAny_Call_Name_kw (ld_blt I hg hm hv (PyProof.Rows.callWith_type1 ?_ hs rfl))
  rw [hs]
  show wpAny _ _ (spliced ((false, eval e X.env) :: backTo pos (starEach [] X.env))) _ _ s
  refine Calls.spliced_cons (thn (he.run pins s σ H _ I hq) fun u s1 y => ?_)
  obtain ⟨J, T, wr, n, XX, st, rows, H1, s0, g, tk, rfl, I1, rfl, hk, hz, W, h0, hw, ⟨nl1, nl2, nl3, nl4⟩, hr, hn, hX, q⟩ := y
  refine Calls.spliced_nil ?_
  have hh : X.A.handled = none := I1.ok.hd hc
  refine gv_tuple (z := { s0 with heap := g, toks := tk }) (W X.A.in1.in1.in1 hh) nl1 nl2 nl3 nl4 hn rfl h0 ((W X.A hh).ty _ _ _ h0) nl4 fun g2 tk2 ys kp lg sz md => ?_
  obtain ⟨as, h1, h2, h3, h4⟩ := md
  have al : as.length = rows.length := by rw [hr, ← sz, ← Array.length_toList, h1, List.length_map]
  have lt : ∀ a, a ∈ as → a < g2.objs.size := fun a ha => by
    obtain ⟨j, hj⟩ := List.getElem?_of_mem ha
    obtain ⟨_, _, y⟩ := h4 j a hj
    exact Heap.lt_size y
  have eT : (g2.push { cls := .type "tuple", data := .seq ys }).get? g2.objs.size = some { cls := .type "tuple", data := .seq ys } := Heap.get?_push_size _ rfl
  obtain ⟨H', k1, k2, k3, k4, k5, J2⟩ := laidR (tk := tk2) (o := .tup (as.map V.ref)) I1 (g := g2.push { cls := .type "tuple", data := .seq ys }) (fun b o e => Heap.get?_push_of_some _ (kp b o (fun z => absurd (Heap.lt_size e) (Nat.not_lt.mpr (hw b z))) (hk b o e))) al h2 (fun a ha => Nat.le_trans hz (Nat.le_of_lt (h3 a ha))) (fun j a e => by
    obtain ⟨its, x, y⟩ := h4 j a e
    have lj : j < n := by rw [← hr, ← al]; exact (List.getElem?_eq_some_iff.mp e).1
    obtain ⟨r, e1, e2, e3⟩ := hX j its lj x
    exact ⟨r, its, e1, e2, e3, Heap.get?_push_of_some _ y⟩) (Nat.le_trans hz (Nat.le_of_lt lg)) (fun z => Nat.lt_irrefl _ (lt _ z)) (fun H' => ⟨by rw [List.length_map, al, hr]; exact hn, ys.toList, by rw [h1]; exact vals_rfs as, ⟨_, eT, rfl, _, by rw [Array.toArray_toList]⟩⟩)
  exact ⟨.ref g2.objs.size, H', J2, rfl, q H' _ as k1 k2 k3 (fun z => Nat.lt_irrefl _ (lt _ z)) al k4 k5⟩
end
end
section
open PySem.Spec PyProof.Rows
def SqA (K : PySem.W.Frag) (H : Hp) (a : Addr) (xs : List V) : Prop := SqL K H a xs ∨ SqT K H a xs
theorem srcA {X : Cx} {pins : List (Addr × Obj)} {σ : L2.St} {H : Hp} {s : Shared} (I : Inv X pins σ H s) {a : Addr} {xs : List V} (h : SqA X.K H a xs) :
    ∃ (its : List Value) (o : Obj) (hh : Heap → Prop), Vals xs its ∧ xs.length ≤ sizeLine ∧ a < s.heap.objs.size ∧ Begins (.ref a) o hh ∧ hh s.heap ∧ ∀ it : Addr, it ≠ a → ∃ St : Nat → Heap → Prop,
      (∀ A : Around, A.handled = none → Draws X.prog X.w A it (it :: [a]) its.length (fun i x => its.toArray[i]? = some x) St) ∧ ∀ g : Heap, g.get? it = some o → (∀ b ob, s.heap.get? b = some ob → g.get? b = some ob) → St 0 g := by
  rcases h with h | h
  · obtain ⟨its, rv, p, hz⟩ := I.list h
    have p2 : s.heap.IsList a its.toArray := p.isList
    refine ⟨its, _, _, rv, hz, p.lt, begins_list a its.toArray, p2, fun it ne => ⟨fun i h => h.IsListIter it a i ∧ h.IsList a its.toArray, fun A hh => ?_, fun g e k => ⟨⟨_, e, rfl, rfl⟩, p2.at fun o q => k _ o q⟩⟩⟩
    have := Draws.list (prog := X.prog) (w := X.w) hh it a ne.symm its.toArray
    rw [List.size_toArray] at this
    exact this
  · obtain ⟨its, rv, p, hz⟩ := I.tuple h
    have p2 : s.heap.IsTuple a its.toArray := p
    have lt : a < s.heap.objs.size := by
      obtain ⟨o, o1, _⟩ := p2
      exact Heap.lt_size o1
    refine ⟨its, _, _, rv, hz, lt, begins_tuple a its.toArray, p2, fun it ne => ⟨fun i h => h.IsTupleIter it a i ∧ h.IsTuple a its.toArray, fun A hh => ?_, fun g e k => ⟨⟨_, e, rfl, rfl⟩, p2.at fun o q => k _ o q⟩⟩⟩
    have := Draws.tuple (prog := X.prog) (w := X.w) hh it a ne.symm its.toArray
    rw [List.size_toArray] at this
    exact this
theorem nl_zip : NoLen "zip" := ⟨am_miss_of_fast (by decide +kernel), am_miss_of_fast (by decide +kernel), by decide, by decide⟩
def zrows2 (xs ys : List V) : List (List V) := List.zipWith (fun x y => [x, y]) xs ys
def gZip2 (K : PySem.W.Frag) (ta : TA) : L2.St → Hp → (List (List V) → Hp → Prop) → Prop := fun σ H R => ta σ H fun vs H1 => ∃ a b xs ys, vs = [.ref a, .ref b] ∧ SqA K H1 a xs ∧ SqA K H1 b ys ∧ R (zrows2 xs ys) H1
theorem vals_at {xs : List V} {its : List Value} (rv : Vals xs its) {j : Nat} {x : Value} (h : its.toArray[j]? = some x) : ∃ v, xs[j]? = some v ∧ RelV v x := by
  have h : its[j]? = some x := by simpa using h
  obtain ⟨v, e⟩ : ∃ v, xs[j]? = some v := by
    have := (List.getElem?_eq_some_iff.mp h).1
    rw [← rv.length] at this
    exact ⟨_, List.getElem?_eq_getElem this⟩
  obtain ⟨u, hu, ru⟩ := rv.get e
  rw [h] at hu
  cases hu
  exact ⟨v, e, ru⟩
section
variable {X : Cx} {e e2 e3 : Expr} {ta : TA} {p pos kp : Pos} {k0 : Int}
theorem pg_zip2 (hc : X.calm = true) (hg : Gl X "zip") (hm : X.mg "zip" = none) (ha : PA X [e, e2] ta)
    (hs : starEach [e, e2] X.env = (false, eval e X.env) :: starEach [e2] X.env := by rfl) (hpl : (backTo pos (starEach [e2] X.env)).any (·.1) = false := by rfl) :
    PGv X (.Call (.Name "zip" p) [e, e2] [] pos) (gZip2 X.K ta) := by
  refine ⟨fun pins s σ H R I h => ?_⟩
  refine Call_ (ld_blt I hg hm PyProof.Rows.boot_zip (PyProof.Rows.callWith_type1 (thn (ha.run pos pins s σ H _ I h) fun us s1 ⟨vs, H1, I1, r1, q1⟩ => ?_) hs hpl))
  obtain ⟨a, b, xs, ys, rfl, ha1, hb1, q⟩ := q1
  obtain ⟨u, us, rfl, ru, r1⟩ : ∃ u us', us = u :: us' ∧ RelV (.ref a) u ∧ Vals [V.ref b] us' := by cases r1 with | cons r rr => exact ⟨_, _, rfl, r, rr⟩
  obtain ⟨u2, rfl, ru2⟩ := vals1 r1
  cases ru
  cases ru2
  obtain ⟨t1, o1, f1, rv1, z1, l1, B1, g1, D1⟩ := srcA I1 ha1
  obtain ⟨t2, o2, f2, rv2, z2, l2, B2, g2, D2⟩ := srcA I1 hb1
  refine zip_begins2 B1 B2 g1 g2 fun g y1 y2 y3 y4 y5 sz kp => ?_
  obtain ⟨S1, d1, e1⟩ := D1 s1.heap.objs.size (Nat.ne_of_gt l1)
  obtain ⟨S2, d2, e2⟩ := D2 (s1.heap.objs.size + 1) (Nat.ne_of_gt (Nat.lt_succ_of_lt l2))
  have lt : ∀ k, k < 5 → s1.heap.objs.size + k < g.objs.size := fun k hk => by rw [sz]; exact Nat.add_lt_add_left hk _
  have low : ∀ b, b < s1.heap.objs.size → b < g.objs.size := fun b hb => Nat.lt_trans hb (lt 0 (by decide))
  refine ⟨s1.heap.objs.size + 4, "zip", _, min t1.length t2.length, _, _, zrows2 xs ys, H1, s1, g, s1.toks, rfl, I1, rfl, kp, Nat.le_of_lt (lt 0 (by decide)), fun A hh => gvr_zip2 hh (zip_sep2 (fun b hb => by rw [List.mem_singleton.mp hb]; exact l1) fun b hb => by rw [List.mem_singleton.mp hb]; exact l2) d1 d2 (lt 4 (by decide)) (lt 2 (by decide)) (lt 3 (by decide)) (fun b hb => ?_) (fun b hb => ?_),
    ⟨⟨rfl, Mdt.nil⟩, y2, ⟨_, _, y3⟩, e1 g y4 kp, e2 g y5 kp, .inl ⟨rfl, y1⟩⟩, fun b hb => ?_, nl_zip, ?_, ?_, fun j its hj hX => ?_, q⟩
  · rcases List.mem_cons.mp hb with rfl | hb
    · exact lt 0 (by decide)
    · rw [List.mem_singleton.mp hb]; exact low _ l1
  · rcases List.mem_cons.mp hb with rfl | hb
    · exact lt 1 (by decide)
    · rw [List.mem_singleton.mp hb]; exact low _ l2
  · have q : b = s1.heap.objs.size + 4 ∨ b = s1.heap.objs.size + 3 ∨ b = s1.heap.objs.size ∨ b = s1.heap.objs.size + 1 := by simpa using hb
    rcases q with rfl | rfl | rfl | rfl
    · exact Nat.le_add_right _ _
    · exact Nat.le_add_right _ _
    · exact Nat.le_refl _
    · exact Nat.le_add_right _ _
  · unfold zrows2
    rw [List.length_zipWith, rv1.length, rv2.length]
  · rw [← rv1.length]
    exact Nat.le_trans (Nat.min_le_left _ _) z1
  · obtain ⟨x1, x2, q1, q2, rfl⟩ := hX
    obtain ⟨v1, h1, w1⟩ := vals_at rv1 q1
    obtain ⟨v2, h2, w2⟩ := vals_at rv2 q2
    refine ⟨[v1, v2], ?_, .cons w1 (.cons w2 .nil), by show 2 ≤ sizeLine; decide⟩
    unfold zrows2
    rw [List.getElem?_zipWith, h1, h2]
end
end
section
open PySem.Spec PyProof.Rows
section
variable {M : Model} {A : Around} {E : Value → Shared → Prop} {z0 : Shared} {env : Env}
end
variable {X : Cx} {e : Expr} {ta : TA} {p pos kp kp2 : Pos}
end
section
variable {K : PySem.W.Frag} {cl : Str → Option Addr} {W : WX} {O bs : List Addr} {F H H' H1 : Hp} {ρ : Ro} {σ : L2.St} {ta tb tc : TE} {ma mb mc : Res PV} {tg : L2.St → Hp → (List (List V) → Hp → Prop) → Prop} {ml : Res (List PV)}
theorem isL_of : ∀ {vs : List V} {ps : List PV}, vs.length = ps.length → (∀ (j : Nat) (v : V) (p : PV), vs[j]? = some v → ps[j]? = some p → Is K cl F v p) → IsL K cl F vs ps
  | [], [], _, _ => .nil
  | [], _ :: _, h, _ => by cases h
  | _ :: _, [], h, _ => by cases h
  | v :: vs, p :: ps, h, hj => .cons (hj 0 v p rfl rfl) (isL_of (Nat.succ.inj h) fun j v p e1 e2 => hj (j + 1) v p e1 e2)
def RowsR (K : PySem.W.Frag) (cl : Str → Option Addr) (F : Hp) (rows : List (List V)) (ps : List PV) : Prop := rows.length = ps.length ∧ ∀ (j : Nat) (r : List V), rows[j]? = some r → ∃ q : List PV, ps[j]? = some (.tup q) ∧ IsL K cl F r q
def PGm (K : PySem.W.Frag) (cl : Str → Option Addr) (W : WX) (tg : L2.St → Hp → (List (List V) → Hp → Prop) → Prop) (ρ : Ro) (m : Res (List PV)) : Prop := ∀ (O bs : List Addr) (σ : L2.St) (H : Hp) (R : List (List V) → Hp → Prop), Rel K cl O bs ρ σ H →
  wp m (fun ps => ∀ rows H', Sub H H' → RowsR K cl (frz H' (O ++ adr ρ σ)) rows ps → R rows H') (XW cl W σ H) → tg σ H R
theorem rows_is {rows : List (List V)} {ps : List PV} {A B : List Addr} (hA : ∀ a, a ∈ A → ∃ o, H1 a = some o) (hr : RowsR K cl (frz H1 A) rows ps) (s : Sub H1 H') {ts : List Addr} (hl : ts.length = rows.length) (hn : ∀ t, t ∈ ts → H1 t = none) (hB : ∀ a, a ∈ B → a ∈ A ∨ (H1 a = none ∧ a ∉ ts))
    (hat : ∀ (j : Nat) (a : Addr) (r : List V), ts[j]? = some a → rows[j]? = some r → H' a = some (.tup r)) : IsL K cl (frz H' B) (ts.map V.ref) ps := by
  refine isL_of (by rw [List.length_map, hl, hr.1]) fun j v p e1 e2 => ?_
  rw [List.getElem?_map] at e1
  obtain ⟨t, et, rfl⟩ := Option.map_eq_some_iff.mp e1
  have lj : j < rows.length := by rw [← hl]; exact (List.getElem?_eq_some_iff.mp et).1
  obtain ⟨q, eq, il⟩ := hr.2 j rows[j] (List.getElem?_eq_getElem lj)
  rw [e2] at eq
  cases eq
  have tm := List.mem_of_getElem? et
  have nB : t ∉ B := fun z => by
    rcases hB t z with c | c
    · obtain ⟨o, e⟩ := hA t c
      rw [hn t tm] at e
      cases e
    · exact c.2 tm
  refine .tup (.inl (.inl (frz_some.mpr ⟨nB, hat j t _ et (List.getElem?_eq_getElem lj)⟩))) (il.mono fun a o e => ?_)
  obtain ⟨n1, e⟩ := frz_some.mp e
  refine frz_some.mpr ⟨fun z => ?_, s _ _ e⟩
  rcases hB a z with c | c
  · exact n1 c
  · rw [c.1] at e
    cases e
theorem pu_tupGv (h : PGm K cl W tg ρ ml) : Pur K cl W (tTupGv tg) ρ (ml >>= fun ps => .val (.tup ps)) := fun O bs σ H Q R q => by
  refine h O bs σ H _ R (wp_mono (wp_bind.mp q) (fun ps qs rows H1 s1 rr H' p ts s2 hp hn hpn hl hv hat => ?_) fun _ z => z)
  have np : p ∉ O ++ adr ρ σ := fun z => by
    obtain ⟨o, e⟩ := (R.same s1).got z
    rw [hp] at e
    cases e
  exact qs _ H' (s1.trans s2) (.tup (.inl (.inl (frz_some.mpr ⟨np, hv⟩))) (rows_is (fun a h => (R.same s1).got h) rr s2 hl hn (fun a ha => .inl ha) hat))
theorem wp_asSqA {x : PV} {v : V} {A : List Addr} {Qq : List PV → Prop} {E : Str → Prop} (w : wp (asSq x) Qq E) (i : IsV K cl (frz H A) H v x) : ∃ (a : Addr) (vs : List V) (ps : List PV), v = .ref a ∧ SqA K H a vs ∧ IsL K cl (frz H A) vs ps ∧ Qq ps := by
  cases x with
  | tup ps => cases i with
    | tup h l => exact ⟨_, _, _, rfl, .inr (frz_sub.sqT h), l, w⟩
  | lst ps =>
    obtain ⟨a, vs, rfl, h, l⟩ := i
    exact ⟨_, _, _, rfl, .inl (.inl (.inl h)), l, w⟩
  | fls ps => cases i with
    | fls h l => exact ⟨_, _, _, rfl, .inl (frz_sub.sqL h), l, w⟩
  | _ => exact w.elim
theorem SqA.mono {a : Addr} {vs : List V} (h : SqA K H a vs) (s : Sub H H1) : SqA K H1 a vs := h.imp (fun h => s.sqL h) fun h => s.sqT h
def zpL2 (x y : PV) : Res (List PV) := asSq x >>= fun ps => asSq y >>= fun qs => .val (zipP ps qs)
theorem isL_frz {A : List Addr} {vs : List V} {ps : List PV} (R : ∀ a, a ∈ A → ∃ o, H a = some o) (s : Sub H H1) (h : IsL K cl (frz H A) vs ps) : IsL K cl (frz H1 A) vs ps := h.mono (frz_same s)
theorem gm_zip2 (ha : Vw K cl W ta ρ ma) (hb : Vw K cl W tb ρ mb) : PGm K cl W (gZip2 K (tCons ta (tCons tb tNil))) ρ (ma >>= fun x => mb >>= fun y => zpL2 x y) := fun O bs σ H R Rl q => by
  refine ha O bs σ H _ Rl (wp_mono (wp_bind.mp q) (fun x qx v1 H1 s1 i1 => ?_) fun _ z => z)
  refine hb O bs σ H1 _ (Rl.same s1) (wp_mono (wp_bind.mp qx) (fun y qy v2 H2 s2 i2 => ?_) fun _ z => z.mono s1)
  unfold zpL2 at qy
  rw [wp_bind] at qy
  obtain ⟨a, vs, ps, rfl, sa, la, w⟩ := wp_asSqA qy i1
  rw [wp_bind] at w
  obtain ⟨b, ws, qs, rfl, sb, lb, w⟩ := wp_asSqA w i2
  have la2 := isL_frz (fun a h => (Rl.same s1).got h) s2 la
  refine ⟨a, b, vs, ws, rfl, sa.mono s2, sb, w _ H2 (s1.trans s2) ⟨?_, fun j r e => ?_⟩⟩
  · unfold zrows2 zipP
    rw [List.length_zipWith, List.length_zipWith, la2.len, lb.len]
  · unfold zrows2 at e
    rw [List.getElem?_zipWith] at e
    split at e
    · next x y e1 e2 =>
      cases e
      obtain ⟨p1, f1, k1⟩ := la2.get' e1
      obtain ⟨p2, f2, k2⟩ := lb.get' e2
      refine ⟨[p1, p2], ?_, .cons k1 (.cons k2 .nil)⟩
      unfold zipP
      rw [List.getElem?_zipWith, f1, f2]
    · cases e
end
section
variable {X : Cx} {e e2 e3 : Expr} {ta : TA} {p pos kp kp2 : Pos} {k0 : Int} {jj : Nat}
theorem pg_zip2V (K : PySem.W.Frag) (eK : X.K = K) (hc : X.calm = true) (hg : Gl X "zip") (hm : X.mg "zip" = none) (ha : PA X [e, e2] ta)
    (hs : starEach [e, e2] X.env = (false, eval e X.env) :: starEach [e2] X.env := by rfl) (hpl : (backTo pos (starEach [e2] X.env)).any (·.1) = false := by rfl) : PGv X (.Call (.Name "zip" p) [e, e2] [] pos) (gZip2 K ta) := by
  subst eK
  exact pg_zip2 hc hg hm ha hs hpl
end
section
open PySem.Spec PyProof.Rows
def rExtA (K : PySem.W.Frag) : V → List V → Hp → VK → Prop := fun x vs H Q => ∃ l b xs zs, x = .ref l ∧ vs = [.ref b] ∧ H l = some (.lst xs) ∧ SqA K H b zs ∧ xs.length + zs.length ≤ sizeLine ∧ Q .non (upd H l (.lst (xs ++ zs)))
theorem ext_any {v : Value} {T : String} {l b : Addr} {ys zs : Array Value} {n n2 : Nat} {ob : Obj} (hT : T = "list" ∨ T = "tuple") (door : ¬(!ys.isEmpty && Builtin.List.listTooLong (ys.size + zs.size)) = true) (h1 : ys.size ≤ sizeLine) (h2 : ys.size + zs.size ≤ sizeLine) :
    Meets (Builtin.«list.extend» ⟨[.ref l, .ref b], []⟩) (fun _ R s => s.heap.get? l = some { cls := .type "list", dict := none, data := .seq ys n, slots := #[] } ∧ (s.heap.get? b = some ob ∧ ob.cls = .type T ∧ ob.data = .seq zs n2) ∧ R (.ok (.ret Value.none)) { s with heap := s.heap.update l (Obj.mapSeq fun x => x ++ zs) }) :=
  .of_wp fun prog w A R s h => by
    obtain ⟨hl, ⟨hb, hc, hd⟩, h⟩ := h
    have tb : s.TypeIs (.ref b) T := ⟨ob, hb, hc⟩
    show wpAny _ _ (Builtin.List.listExtendWith (.ref l) (.ref b) .none) _ _ _
    unfold Builtin.List.listExtendWith
    refine wpAny_bind (wpAny_typeOf tb ?_)
    have e : (Builtin.List.listSameRef (.ref l) (.ref b) || Value.type T == Value.type "list" || Value.type T == Value.type "tuple") = true := by
      rcases hT with rfl | rfl
      · rw [show (Value.type "list" == Value.type "list") = true by decide, Bool.or_true, Bool.true_or]
      · rw [show (Value.type "tuple" == Value.type "tuple") = true by decide, Bool.or_true]
    rw [if_pos e]
    refine wpAny_bind ?_
    unfold Builtin.List.listItems
    refine wpAny_bind (wpAny_seqItems hb hd (wpAny_pure ?_))
    refine wpAny_bind (wpAny_bind (wpAny_seqItems hl rfl (wpAny_pure ?_)))
    rw [if_neg door]
    show wpAny _ _ (updateSeq l (· ++ zs) >>= _) _ _ _
    refine wpAny_bind (wpAny_updateSeq hl rfl ?_ h1 (by show (ys ++ zs).size ≤ sizeLine + 1; rw [Array.size_append]; omega))
    exact wpAny_pure ⟨_, rfl, h⟩
theorem mt_extA (K : PySem.W.Frag) {X : Cx} (eK : X.K = K) : MtM X "list.extend" (rExtA K) := by
  subst eK
  intro pins s σ H x vs v us Q I rx rv h
  obtain ⟨l, b, xs, zs, rfl, rfl, hH, hB, hz, q⟩ := h
  cases rx
  obtain ⟨u, rfl, ru⟩ := rv.one
  cases ru
  obtain ⟨z, its, n, r, hl, e⟩ := I.lstM hH
  have src : ∃ (T : String) (ts : List Value) (ob : Obj) (n2 : Nat), (T = "list" ∨ T = "tuple") ∧ Vals zs ts ∧ s.heap.get? b = some ob ∧ ob.cls = .type T ∧ ob.data = .seq ts.toArray n2 := by
    rcases hB with hB | hB
    · obtain ⟨ts, rv2, p, _⟩ := I.list hB
      obtain ⟨ob, e1, e2, n2, e3⟩ := p.isList
      exact ⟨"list", ts, ob, n2, .inl rfl, rv2, e1, e2, e3⟩
    · obtain ⟨ts, rv2, p, _⟩ := I.tuple hB
      obtain ⟨ob, e1, e2, n2, e3⟩ := (show s.heap.IsTuple b ts.toArray from p)
      exact ⟨"tuple", ts, ob, n2, .inr rfl, rv2, e1, e2, e3⟩
  obtain ⟨T, ts, ob, n2, hT, rv2, e1, e2, e3⟩ := src
  have l2 := rv2.length
  have hsz : its.toArray.size + ts.toArray.size ≤ sizeLine := by rw [List.size_toArray, List.size_toArray]; omega
  have door : ¬(!its.toArray.isEmpty && Builtin.List.listTooLong (its.toArray.size + ts.toArray.size)) = true := by
    rw [notLongL hsz, Bool.and_false]
    exact Bool.false_ne_true
  refine call_meets F.slot_list_extend ⟨_, e, rfl⟩ F.entry_list_extend (F.args_list_extend_2 _ _) (ext_any (v := .none) hT door (by omega) hsz) ⟨e, ⟨e1, e2, e3⟩, ?_⟩
  exact ⟨.non, _, I.lset (its' := its ++ ts) hH e (by simp) (r.append rv2) (by rw [List.length_append]; omega), rfl, q⟩
end
section
variable {K : PySem.W.Frag} {cl : Str → Option Addr} {W : WX} {bs O A : List Addr} {F H H' : Hp} {ρ ρx : Ro} {σ : L2.St} {S S1 L : Type} {ρn : S → Ro} {ρl : L → Ro} {D : Ends} {u : TS} {te : TE} {m : Res PV} {ρs : S1 → Ro} {s0 : S1} {ma : S1 → Res (PV × S1)}
theorem run_extend {i : Nat} {s : Slot} {ps : List PV} {n : List PV → Res (Fl S L)} (hi : ρ[i]? = some s) (hs : s = .ow (.lst ps) ∨ ∃ k, s = .rf k (.lst ps)) (he : Vw K cl W te ρ m) (w : Wk ρ ρx) (h : ∀ x, Runs K cl W u (ρ.set i (reSl s (.lst (ps ++ x)))) (n x) ρn ρl ρx) :
    Runs K cl W (tSeq (tDrop (tBM K "list" (rExtA K) (tVar i) (tCons te tNil))) u) ρ (m >>= asSq >>= fun x => sized (ps.length + x.length) >>= fun _ => n x) ρn ρl ρx := fun O bs σ H D R hb q => by
  have got : ∃ a vs, σ[i]? = some (some (.ref a)) ∧ H a = some (.lst vs) ∧ IsL K cl (frz H (O ++ adr ρ σ)) vs ps := by
    obtain ⟨x, e, q⟩ := R.sl.get hi
    rcases hs with rfl | ⟨k, rfl⟩
    · obtain ⟨a, rfl, vs, h1, h2⟩ := q; exact ⟨a, vs, e, h1, h2⟩
    · obtain ⟨a, rfl, _, vs, h1, h2⟩ := q; exact ⟨a, vs, e, h1, h2⟩
  obtain ⟨a, vs, ha, hv, hl⟩ := got
  rw [wp_bind, wp_bind] at q
  refine ⟨_, ha, .inl ⟨rfl, _, .inl (.inl hv)⟩, he O bs σ H _ R (wp_mono q (fun y qy v H' s' iy => ?_) fun _ z => z.xw R w)⟩
  obtain ⟨b, zs, xs, rfl, sb, lb, qx⟩ := wp_asSqA qy iy
  obtain ⟨hz, qx⟩ := wp_sized (wp_bind.mp qx)
  have R' := R.same s'
  have hl' := hl.mono (frz_same (A := O ++ adr ρ σ) s')
  obtain ⟨R2, g2⟩ := R'.put (m' := .lst (ps ++ xs)) (o := .lst (vs ++ zs)) hi (by rcases hs with e | ⟨k, e⟩; exact .inl e; exact .inr ⟨k, e⟩) ha ⟨_, upd_same, hl'.append lb⟩
  have g := (Gr.of (A := adr ρ σ) s').trans g2
  refine ⟨a, b, vs, zs, rfl, rfl, s' _ _ hv, sb, by rw [hl.len, lb.len]; exact hz, ?_⟩
  exact h xs O bs σ _ D R2 hb (wp_mono qx (fun _ z => z.step g) fun _ z => z.step g)
end
section
open PySem.Spec PyProof.Rows
end
section
variable {K : PySem.W.Frag} {cl : Str → Option Addr} {W : WX} {bs O A : List Addr} {F H H' : Hp} {ρ : Ro} {σ : L2.St} {te : TE} {m : Res PV} {P : Hp → Prop} {k0 : Int}
end
section
open PySem.Spec PyProof.Rows
end
section
variable {K : PySem.W.Frag} {cl : Str → Option Addr}
end
section
variable {K : PySem.W.Frag} {cl : Str → Option Addr} {S : Type} {ρs : S → Ro} {tr : TA} {ml : S → Res (List PV × S)}
end
section
open PySem.Spec PyProof.Rows
variable {X : Cx}
end
section
variable {K : PySem.W.Frag} {cl : Str → Option Addr} {W : WX} {ρ : Ro} {ta te : TE} {ma m : Res PV}
end
section
variable {K : PySem.W.Frag} {cl : Str → Option Addr} {S : Type} {ρs : S → Ro} {ta tc : TE} {ma mb : S → Res (PV × S)}
end
section
variable {K : PySem.W.Frag} {cl : Str → Option Addr} {W : WX} {O bs : List Addr} {ρ ρx : Ro} {σ : St} {H : Hp} {S L : Type} {ρn : S → Ro} {ρl : L → Ro} {u : TS} {te ta tb : TE} {m ma mb : Res PV}
theorem gsub_ok {i : Nat} {ps : List PV} {β : Type} {c : List PV → Res β} {Q : β → Prop} {E : Str → Prop} {v : V} {x : PV} {G : St → Hp → Prop} (hi : ρ[i]? = some (.ow (.lst ps))) (R : Rel K cl O bs ρ σ H) (ix : Is K cl (frz H (O ++ adr ρ σ)) v x) (hk : Vw K cl W ta ρ ma)
    (q : wp (noX ma >>= fun k => setL ps k x >>= c) Q E)
    (k : ∀ qs H', Rel K cl O bs (ρ.set i (.ow (.lst qs))) σ H' → Gr (adr ρ σ) H (adr (ρ.set i (.ow (.lst qs))) σ) H' → Sub (frz H (O ++ adr ρ σ)) (frz H' (O ++ adr (ρ.set i (.ow (.lst qs))) σ)) → wp (c qs) Q E → G σ H') : gSub (tVar i) ta rSetL v σ H G := by
  obtain ⟨y, e, a, rfl, vs, hv, hl⟩ := R.sl.get hi
  refine ⟨_, e, hk O bs σ H _ R (wp_mono (wp_noX (E' := fun c => XW cl W σ H c) (wp_bind.mp q)) (fun k2 qk v2 H2 s2 ik => ?_) fun _ z => ?_)⟩
  · have R2 := R.same s2
    have hl' := hl.mono (frz_same (A := O ++ adr ρ σ) s2)
    unfold setL at qk
    split at qk
    · next k3 =>
      cases isV_int ik
      split at qk
      · next j hj =>
        obtain ⟨R3, g3⟩ := R2.put (m' := .lst (ps.set j x)) (o := .lst (vs.set j v)) hi (.inl rfl) e ⟨_, upd_same, IsL.set (ix.mono (frz_same s2)) j hl'⟩
        have g := (Gr.of (A := adr ρ σ) s2).trans g3
        refine ⟨a, vs, k3, j, rfl, rfl, s2 _ _ hv, by rw [hl.len]; exact hj, k (ps.set j x) _ R3 g ?_ qk⟩
        exact g.sub fun b hb => R.got (List.mem_append_left _ hb)
      · exact qk.elim
    · exact qk.elim
  · exact z
theorem run_set2 {i : Nat} {ps : List PV} {n : List PV → Res (Fl S L)} (hi : ρ[i]? = some (.ow (.lst ps))) (he : Pur K cl W te ρ m) (hk : Vw K cl W ta ρ ma) (hk2 : ∀ qs, Vw K cl W tb (ρ.set i (.ow (.lst qs))) mb) (w : Wk ρ ρx) (h : ∀ qs, Runs K cl W u (ρ.set i (.ow (.lst qs))) (n qs) ρn ρl ρx) :
    Runs K cl W (tSeq (tAsg te (gTup K 2 (gCons (gSub (tVar i) ta rSetL) (gCons (gSub (tVar i) tb rSetL) gNil)))) u) ρ (m >>= fun x => un2 x >>= fun xy => noX ma >>= fun k => setL ps k xy.1 >>= fun qs => noX mb >>= fun k2 => setL qs k2 xy.2 >>= n) ρn ρl ρx := fun O bs σ H D R hb q => by
  refine he O bs σ H _ R (wp_mono (wp_bind.mp q) (fun x qx v H1 s1 ix => ?_) fun _ z => z.xw R w)
  have R1 := R.same s1
  unfold un2 at qx
  split at qx
  · next a b =>
    cases ix with
    | tup h1 l1 =>
    cases l1 with
    | cons ia l2 =>
    cases l2 with
    | cons ib l3 =>
    cases l3 with
    | nil =>
    refine ⟨_, _, rfl, frz_sub.sqT h1, rfl, _, _, rfl, gsub_ok hi R1 ia hk qx fun qs H2 R2 g2 s2 q2 => ⟨_, _, rfl, gsub_ok (ρ := ρ.set i (.ow (.lst qs))) (by rw [List.getElem?_set_self (List.getElem?_eq_some_iff.mp hi).1]) R2 (ib.mono s2) (hk2 qs) q2 fun rs H3 R3 g3 _ q3 => ⟨rfl, ?_⟩⟩⟩
    rw [List.set_set] at R3 g3
    have g := ((Gr.of (A := adr ρ σ) s1).trans g2).trans g3
    exact h rs O bs σ H3 D R3 hb (wp_mono q3 (fun _ z => z.step g) fun _ z => z.step g)
  · exact qx.elim
end
section
open PySem.Spec PyProof.Rows
theorem sorted_tupI {prog : Program} {w : World} {A : Around} {E : Value → Shared → Prop} {s : Shared} {l : Addr} {vs : List Value} {ns : List Int} {Q : Value → Shared → Prop} (hl : s.heap.IsTuple l vs.toArray) (hz : vs.length ≤ sizeLine) (hI : IntsAre vs ns)
    (h : ∀ (out : List Value) (g : Heap), SrtO.Srtd SrtO.ltIv out → SrtO.Stb SrtO.ltIv out vs → (∀ b o, s.heap.get? b = some o → g.get? b = some o) → Q (.ref g.objs.size) { s with heap := sortedHeap (g.push (seqObj "list" vs.toArray 0)) g.objs.size vs out.toArray }) :
    wpAny (model prog w) A (call (.builtin "sorted") [.ref l]) Q E s := by
  obtain ⟨o, ho, hc, n, hd⟩ := id hl
  refine Calls.call_function_entry kind_sorted plain_sorted entry_sorted (args_sorted1 _) ?_
  unfold Builtin.«sorted»; refine wpAny_bind (m := checkCount "sorted" 1 1 _) (wpAny_pure ?_)
  refine wpAny_bind (wpAny_collect_seq l (.inr rfl) ho hc hd (fun g hg => ?_) (by rw [List.size_toArray]; exact hz))
  refine wpAny_bind (wpAny_newList ?_ hz)
  have at1 : (g.push (seqObj "list" vs.toArray 0)).get? g.objs.size = some (seqObj "list" vs.toArray 0) := Heap.get?_push_size _ rfl
  show wpAny _ _ _ _ _ { s with heap := g.push (seqObj "list" vs.toArray 0) }
  refine wpAny_bind (wpAny_holding (wpAny_call_entry slot_list_sort ⟨_, at1, rfl⟩ entry_list_sort (SrtO.list_sort_ord SrtO.swo_int at1 hz (fun h2 => SrtO.ints_sortable hI h2) fun out a b => ⟨_, rfl, ?_⟩) (args_list_sort _)))
  exact wpAny_pure ⟨_, rfl, h out g a b hg⟩
def rSortedT (K : PySem.W.Frag) : List V → Hp → VK → Prop := fun vs H Q => ∃ (a : Addr) (ns : List Int), vs = [V.ref a] ∧ SqT K H a (ns.map V.int) ∧ ∀ (m : List Int) (p : Addr), m.Perm ns → m.Pairwise (· ≤ ·) → H p = none → Q (.ref p) (upd H p (.lst (m.map V.int)))
theorem cr_sortedT {X : Cx} : CallR X (.builtin "sorted") (rSortedT X.K) := by
  intro pins s σ H vs us Q I r h
  obtain ⟨a, ns, rfl, hs, q⟩ := h
  obtain ⟨its, rv, hl, hz⟩ := I.tuple hs
  rw [Vals.ref1 r]
  have hi := rv.ints
  refine sorted_tupI (show s.heap.IsTuple a its.toArray from hl) (by rw [← rv.length]; exact hz) hi fun out g h1 h2 hg => ?_
  obtain ⟨k1, k2, k3⟩ := SrtO.ints_out hi h1 h2
  have I1 : Inv X pins σ H { s with heap := g } := I.kept (t' := s.toks) hg
  obtain ⟨ep, he⟩ := sortedHeap_at (n := 0) (h := g.push (seqObj "list" its.toArray 0)) (a := g.objs.size) (vs := its) (out := out.toArray) (Heap.get?_push_size _ rfl)
  have hlen : ((out.map SrtO.iv).map V.int).length ≤ sizeLine := by
    rw [List.length_map, k2.length_eq]; rw [List.length_map] at hz; exact hz
  exact ⟨.ref _, upd H g.objs.size (.lst ((out.map SrtO.iv).map V.int)), I1.laid (t' := s.toks) (fun b o e => by
    rw [sortedHeap_old (Nat.ne_of_lt (Heap.lt_size e)) (Heap.lt_size (Heap.get?_push_of_some _ e))]; exact Heap.get?_push_of_some _ e) (Nat.le_refl _) ⟨hlen, out, ep, vals_of_ints k1, he⟩, rfl, q _ _ k2 k3 (I1.hok.fresh (Nat.le_refl _))⟩
end
section
variable {K : PySem.W.Frag} {cl : Str → Option Addr}
theorem cr_sortedIT (K : PySem.W.Frag) {X : Cx} (e : X.K = K) : CallR X (.builtin "sorted") (cOr (rSortedI K) (rSortedT K)) := by
  subst e; exact cr_sortedI.or cr_sortedT
def sortPT (p : PV) : Res PV := asSq p >>= fun ps => match allI ps with
  | some is => .val (.lst ((sortI is).map PV.int))
  | none => .stuck
theorem b1_sortT : Bi1 K cl (cOr (rSortedI K) (rSortedT K)) sortPT := fun A H x p Q E hA ix w => by
  obtain ⟨a, vs, ps, rfl, hs, hl, w⟩ := wp_asSq (wp_bind.mp w) ix
  split at w
  · next is e =>
    cases allI_eq e
    cases hl.ints
    have fin : ∀ (m : List Int) (l : Addr), m.Perm is → m.Pairwise (· ≤ ·) → H l = none → Q (.ref l) (upd H l (.lst (m.map V.int))) := fun m l h1 h2 hl' => by
      cases sortI_unique h1 h2
      exact w _ _ (sub_new hl' _) (new_lst hA hl' (isL_of_ints _))
    rcases hs with hs | hs
    · exact .inr ⟨a, is, rfl, hs, fin⟩
    · exact .inl ⟨a, is, rfl, hs, fin⟩
  · exact w.elim
end
def unK : PV → PV
  | .ktp ps => .tup ps
  | p => p
section
variable {K : PySem.W.Frag} {cl : Str → Option Addr} {W : WX} {ρ : Ro} {F : Hp}
theorem is_unk {v : V} {p : PV} (h : Is K cl F v p) : Is K cl F v (unK p) := by
  cases p with
  | ktp ps => cases h with | ktp h c d r => exact .tup (.inl (.inr ⟨_, h⟩)) r
  | _ => exact h
theorem pu_varK {i : Nat} {p : PV} (h : ρ[i]? = some (.fz p)) : Pur K cl W (tVar i) ρ (.val (unK p)) := fun O bs σ H Q R q => by
  obtain ⟨x, e, v, rfl, hv⟩ := R.sl.get h
  exact ⟨v, e, q v H .refl (is_unk hv)⟩
end
theorem scLpool : FnScope ["script", "seed", "cell", "cells"] ["script"] (defScope s_Lpool) := ⟨rfl, rfl, rfl, by decide +kernel, rfl, by decide +kernel, by decide +kernel⟩
theorem scLmixed : FnScope ["number", "turn", "many", "prime", "once", "twice"] ["number", "turn", "many"] (defScope s_Lmixed) := ⟨rfl, rfl, rfl, by decide +kernel, rfl, by decide +kernel, by decide +kernel⟩
theorem scLtake : FnScope ["pool", "many", "drawn"] ["pool", "many"] (defScope s_Ltake) := ⟨rfl, rfl, rfl, by decide +kernel, rfl, by decide +kernel, by decide +kernel⟩
theorem scLwrong_settings : FnScope ["pool", "many", "settings", "found", "at"] ["pool", "many", "settings"] (defScope s_Lwrong_settings) := ⟨rfl, rfl, rfl, by decide +kernel, rfl, by decide +kernel, by decide +kernel⟩
theorem scLsame : FnScope ["actual", "due", "k"] ["actual", "due"] (defScope s_Lsame) := ⟨rfl, rfl, rfl, by decide +kernel, rfl, by decide +kernel, by decide +kernel⟩
theorem scswitch_places : FnScope ["many", "layer"] ["many"] (defScope s_switch_places) := ⟨rfl, rfl, rfl, by decide +kernel, rfl, by decide +kernel, by decide +kernel⟩
theorem sc_exchanged : FnScope ["row", "switches", "changed", "place", "setting"] ["row", "switches"] (defScope s__exchanged) := ⟨rfl, rfl, rfl, by decide +kernel, rfl, by decide +kernel, by decide +kernel⟩
theorem scsettings_for : FnScope ["places", "many", "goals", "place", "settings", "lower_places", "layer", "at"] ["places"] (defScope s_settings_for) := ⟨rfl, rfl, rfl, by decide +kernel, rfl, by decide +kernel, by decide +kernel⟩
theorem scLwrong_orders : FnScope ["pool", "order", "many", "found", "at"] ["pool", "order"] (defScope s_Lwrong_orders) := ⟨rfl, rfl, rfl, by decide +kernel, rfl, by decide +kernel, by decide +kernel⟩
theorem scis_tuple_of : FnScope ["length", "value"] ["length", "value"] (defScope s_is_tuple_of) := ⟨rfl, rfl, rfl, by decide +kernel, rfl, by decide +kernel, by decide +kernel⟩
theorem scis_residue : FnScope ["q", "value"] ["q", "value"] (defScope s_is_residue) := ⟨rfl, rfl, rfl, by decide +kernel, rfl, by decide +kernel, by decide +kernel⟩
theorem scis_residue_row : FnScope ["q", "length", "value", "item"] ["q", "length", "value"] (defScope s_is_residue_row) := ⟨rfl, rfl, rfl, by decide +kernel, rfl, by decide +kernel, by decide +kernel⟩
theorem sc_count_switches : FnScope ["many"] ["many"] (defScope s__count_switches) := ⟨rfl, rfl, rfl, by decide +kernel, rfl, by decide +kernel, by decide +kernel⟩
theorem sc_check_settings : FnScope ["many", "settings"] ["many", "settings"] (defScope s__check_settings) := ⟨rfl, rfl, rfl, by decide +kernel, rfl, by decide +kernel, by decide +kernel⟩
theorem sc_by_layer : FnScope ["many", "items", "layers", "at", "places"] ["many", "items"] (defScope s__by_layer) := ⟨rfl, rfl, rfl, by decide +kernel, rfl, by decide +kernel, by decide +kernel⟩
theorem scsource_places : FnScope ["many", "settings", "row", "switches"] ["many", "settings"] (defScope s_source_places) := ⟨rfl, rfl, rfl, by decide +kernel, rfl, by decide +kernel, by decide +kernel⟩
theorem scLswitches : FnScope ["many", "found", "layer", "j"] ["many"] (defScope s_Lswitches) := ⟨rfl, rfl, rfl, by decide +kernel, rfl, by decide +kernel, by decide +kernel⟩
theorem scLsources : FnScope ["many", "settings", "now", "switches", "k", "j"] ["many", "settings"] (defScope s_Lsources) := ⟨rfl, rfl, rfl, by decide +kernel, rfl, by decide +kernel, by decide +kernel⟩
theorem scLrefused : FnScope ["many", "value", "which", "e"] ["many", "value", "which"] (defScope s_Lrefused) := ⟨rfl, rfl, rfl, by decide +kernel, rfl, by decide +kernel, by decide +kernel⟩
theorem scLgoals : FnScope ["sources", "many", "goals", "place", "settings", "layer", "j", "crossed"] ["sources"] (defScope s_Lgoals) := ⟨rfl, rfl, rfl, by decide +kernel, rfl, by decide +kernel, by decide +kernel⟩
theorem sclaw : FnScope ["script", "pool", "many", "layers", "layer", "pair", "settings", "switch", "wrong", "size", "rest", "order", "k", "told"] ["script"] (defScope s_law) := ⟨rfl, rfl, rfl, by decide +kernel, rfl, by decide +kernel, by decide +kernel⟩
def g_settings_for_0_places {α : Type} (us ws : List α) : List α := match us, ws with | [], [w0] => [w0] | _, _ => []
theorem g_settings_for_0_places_rel {vs : List V} {us : List Value} {zs : List V} {ws : List Value} (r : Vals vs us) (q : Vals zs ws) : Vals (g_settings_for_0_places vs zs) (g_settings_for_0_places us ws) := by
  unfold g_settings_for_0_places
  split
  · match r, q with | .nil, (.cons q0 .nil) => exact (.cons q0 .nil)
  · next h =>
    split
    · match r, q with | .nil, (.cons q0 .nil) => exact (h _ rfl rfl).elim
    · exact .nil
def g_source_places_0_many_settings {α : Type} (us ws : List α) : List α := match us, ws with | [], [w0, w1] => [w0, w1] | _, _ => []
theorem g_source_places_0_many_settings_rel {vs : List V} {us : List Value} {zs : List V} {ws : List Value} (r : Vals vs us) (q : Vals zs ws) : Vals (g_source_places_0_many_settings vs zs) (g_source_places_0_many_settings us ws) := by
  unfold g_source_places_0_many_settings
  split
  · match r, q with | .nil, (.cons q0 (.cons q1 .nil)) => exact (.cons q0 (.cons q1 .nil))
  · next h =>
    split
    · match r, q with | .nil, (.cons q0 (.cons q1 .nil)) => exact (h _ _ rfl rfl).elim
    · exact .nil
def g_switch_places_0_many {α : Type} (us ws : List α) : List α := match us, ws with | [], [w0] => [w0] | _, _ => []
theorem g_switch_places_0_many_rel {vs : List V} {us : List Value} {zs : List V} {ws : List Value} (r : Vals vs us) (q : Vals zs ws) : Vals (g_switch_places_0_many vs zs) (g_switch_places_0_many us ws) := by
  unfold g_switch_places_0_many
  split
  · match r, q with | .nil, (.cons q0 .nil) => exact (.cons q0 .nil)
  · next h =>
    split
    · match r, q with | .nil, (.cons q0 .nil) => exact (h _ rfl rfl).elim
    · exact .nil
set_option genInjectivity false in
set_option genSizeOfSpec false in
structure Top (K : PySem.W.Frag) (mg : Str → Option Value) where
  f__law_pool : Addr
  d__law_pool : FuncData
  F__law_pool : Fun K "_law_pool" "_law_pool" s_Lpool f__law_pool d__law_pool
  m__law_pool : mg "_law_pool" = some (.ref f__law_pool)
  b__law_pool : Binds K d__law_pool ["script"] []
  f__law_mixed : Addr
  d__law_mixed : FuncData
  F__law_mixed : Fun K "_law_mixed" "_law_mixed" s_Lmixed f__law_mixed d__law_mixed
  m__law_mixed : mg "_law_mixed" = some (.ref f__law_mixed)
  b__law_mixed : Binds K d__law_mixed ["number", "turn", "many"] []
  f__law_take : Addr
  d__law_take : FuncData
  F__law_take : Fun K "_law_take" "_law_take" s_Ltake f__law_take d__law_take
  m__law_take : mg "_law_take" = some (.ref f__law_take)
  b__law_take : Binds K d__law_take ["pool", "many"] []
  f__law_wrong_settings : Addr
  d__law_wrong_settings : FuncData
  F__law_wrong_settings : Fun K "_law_wrong_settings" "_law_wrong_settings" s_Lwrong_settings f__law_wrong_settings d__law_wrong_settings
  m__law_wrong_settings : mg "_law_wrong_settings" = some (.ref f__law_wrong_settings)
  b__law_wrong_settings : Binds K d__law_wrong_settings ["pool", "many", "settings"] []
  f__law_same : Addr
  d__law_same : FuncData
  F__law_same : Fun K "_law_same" "_law_same" s_Lsame f__law_same d__law_same
  m__law_same : mg "_law_same" = some (.ref f__law_same)
  b__law_same : Binds K d__law_same ["actual", "due"] []
  f_switch_places : Addr
  d_switch_places : FuncData
  F_switch_places : Fun K "switch_places" "switch_places" s_switch_places f_switch_places d_switch_places
  m_switch_places : mg "switch_places" = some (.ref f_switch_places)
  b_switch_places : Binds K d_switch_places ["many"] []
  f__exchanged : Addr
  d__exchanged : FuncData
  F__exchanged : Fun K "_exchanged" "_exchanged" s__exchanged f__exchanged d__exchanged
  m__exchanged : mg "_exchanged" = some (.ref f__exchanged)
  b__exchanged : Binds K d__exchanged ["row", "switches"] []
  f_settings_for : Addr
  d_settings_for : FuncData
  F_settings_for : Fun K "settings_for" "settings_for" s_settings_for f_settings_for d_settings_for
  m_settings_for : mg "settings_for" = some (.ref f_settings_for)
  b_settings_for : Binds K d_settings_for ["places"] []
  f__law_wrong_orders : Addr
  d__law_wrong_orders : FuncData
  F__law_wrong_orders : Fun K "_law_wrong_orders" "_law_wrong_orders" s_Lwrong_orders f__law_wrong_orders d__law_wrong_orders
  m__law_wrong_orders : mg "_law_wrong_orders" = some (.ref f__law_wrong_orders)
  b__law_wrong_orders : Binds K d__law_wrong_orders ["pool", "order"] []
  f_is_tuple_of : Addr
  d_is_tuple_of : FuncData
  F_is_tuple_of : Fun K "is_tuple_of" "is_tuple_of" s_is_tuple_of f_is_tuple_of d_is_tuple_of
  m_is_tuple_of : mg "is_tuple_of" = some (.ref f_is_tuple_of)
  b_is_tuple_of : Binds K d_is_tuple_of ["length", "value"] []
  f_is_residue : Addr
  d_is_residue : FuncData
  F_is_residue : Fun K "is_residue" "is_residue" s_is_residue f_is_residue d_is_residue
  m_is_residue : mg "is_residue" = some (.ref f_is_residue)
  b_is_residue : Binds K d_is_residue ["q", "value"] []
  f_is_residue_row : Addr
  d_is_residue_row : FuncData
  F_is_residue_row : Fun K "is_residue_row" "is_residue_row" s_is_residue_row f_is_residue_row d_is_residue_row
  m_is_residue_row : mg "is_residue_row" = some (.ref f_is_residue_row)
  b_is_residue_row : Binds K d_is_residue_row ["q", "length", "value"] []
  f__count_switches : Addr
  d__count_switches : FuncData
  F__count_switches : Fun K "_count_switches" "_count_switches" s__count_switches f__count_switches d__count_switches
  m__count_switches : mg "_count_switches" = some (.ref f__count_switches)
  b__count_switches : Binds K d__count_switches ["many"] []
  f__check_settings : Addr
  d__check_settings : FuncData
  F__check_settings : Fun K "_check_settings" "_check_settings" s__check_settings f__check_settings d__check_settings
  m__check_settings : mg "_check_settings" = some (.ref f__check_settings)
  b__check_settings : Binds K d__check_settings ["many", "settings"] []
  f__by_layer : Addr
  d__by_layer : FuncData
  F__by_layer : Fun K "_by_layer" "_by_layer" s__by_layer f__by_layer d__by_layer
  m__by_layer : mg "_by_layer" = some (.ref f__by_layer)
  b__by_layer : Binds K d__by_layer ["many", "items"] []
  f_source_places : Addr
  d_source_places : FuncData
  F_source_places : Fun K "source_places" "source_places" s_source_places f_source_places d_source_places
  m_source_places : mg "source_places" = some (.ref f_source_places)
  b_source_places : Binds K d_source_places ["many", "settings"] []
  f__law_switches : Addr
  d__law_switches : FuncData
  F__law_switches : Fun K "_law_switches" "_law_switches" s_Lswitches f__law_switches d__law_switches
  m__law_switches : mg "_law_switches" = some (.ref f__law_switches)
  b__law_switches : Binds K d__law_switches ["many"] []
  f__law_sources : Addr
  d__law_sources : FuncData
  F__law_sources : Fun K "_law_sources" "_law_sources" s_Lsources f__law_sources d__law_sources
  m__law_sources : mg "_law_sources" = some (.ref f__law_sources)
  b__law_sources : Binds K d__law_sources ["many", "settings"] []
  f__law_refused : Addr
  d__law_refused : FuncData
  F__law_refused : Fun K "_law_refused" "_law_refused" s_Lrefused f__law_refused d__law_refused
  m__law_refused : mg "_law_refused" = some (.ref f__law_refused)
  b__law_refused : Binds K d__law_refused ["many", "value", "which"] []
  f__law_goals : Addr
  d__law_goals : FuncData
  F__law_goals : Fun K "_law_goals" "_law_goals" s_Lgoals f__law_goals d__law_goals
  m__law_goals : mg "_law_goals" = some (.ref f__law_goals)
  b__law_goals : Binds K d__law_goals ["sources"] []
  f_law : Addr
  d_law : FuncData
  F_law : Fun K "law" "law" s_law f_law d_law
  m_law : mg "law" = some (.ref f_law)
  b_law : Binds K d_law ["script"] []
  k_settings_for_0_places : KBinds K d_settings_for ["places"] ["places"] (g_settings_for_0_places) (g_settings_for_0_places)
  k_source_places_0_many_settings : KBinds K d_source_places ["many", "settings"] ["many", "settings"] (g_source_places_0_many_settings) (g_source_places_0_many_settings)
  k_switch_places_0_many : KBinds K d_switch_places ["many"] ["many"] (g_switch_places_0_many) (g_switch_places_0_many)
  z_all : mg "all" = none
  z_bool : mg "bool" = none
  z_int : mg "int" = none
  z_isinstance : mg "isinstance" = none
  z_len : mg "len" = none
  z_list : mg "list" = none
  z_range : mg "range" = none
  z_sorted : mg "sorted" = none
  z_str : mg "str" = none
  z_tuple : mg "tuple" = none
  z_zip : mg "zip" = none
  c_BadStatement : Addr
  m_BadStatement : mg "BadStatement" = some (.ref c_BadStatement)
  kc_BadStatement : PySem.W.keepIn K (.ref c_BadStatement) = true
  s_BadStatement : PySem.W.subIn K (.ref c_BadStatement) (.type "BaseException") = some true
  t_BadStatement : PySem.W.typeIn K (.ref c_BadStatement) = some (.type "type")
  i_BadStatement : PySem.W.isClsIn K c_BadStatement = true
  hd_BadStatement : PySem.W.hasDictIn K c_BadStatement = true
  x_BadStatement : PySem.W.excIn K c_BadStatement [.type "ValueError", .type "Exception", .type "BaseException", .type "object"] "ValueError.__new__" = true
  c_BadTape : Addr
  m_BadTape : mg "BadTape" = some (.ref c_BadTape)
  kc_BadTape : PySem.W.keepIn K (.ref c_BadTape) = true
  s_BadTape : PySem.W.subIn K (.ref c_BadTape) (.type "BaseException") = some true
  t_BadTape : PySem.W.typeIn K (.ref c_BadTape) = some (.type "type")
  i_BadTape : PySem.W.isClsIn K c_BadTape = true
  hd_BadTape : PySem.W.hasDictIn K c_BadTape = true
  x_BadTape : PySem.W.excIn K c_BadTape [.type "ValueError", .type "Exception", .type "BaseException", .type "object"] "ValueError.__new__" = true
  c_HushError : Addr
  m_HushError : mg "HushError" = some (.ref c_HushError)
  kc_HushError : PySem.W.keepIn K (.ref c_HushError) = true
  s_HushError : PySem.W.subIn K (.ref c_HushError) (.type "BaseException") = some true
  t_HushError : PySem.W.typeIn K (.ref c_HushError) = some (.type "type")
  i_HushError : PySem.W.isClsIn K c_HushError = true
  hd_HushError : PySem.W.hasDictIn K c_HushError = true
  x_HushError : PySem.W.excIn K c_HushError [.type "ValueError", .type "Exception", .type "BaseException", .type "object"] "ValueError.__new__" = true
  u_BadStatement_HushError : PySem.W.subIn K (.ref c_BadStatement) (.ref c_HushError) = some true
  u_BadTape_HushError : PySem.W.subIn K (.ref c_BadTape) (.ref c_HushError) = some true
  u_HushError_HushError : PySem.W.subIn K (.ref c_HushError) (.ref c_HushError) = some true
  i_get : PySem.W.specialIn K (.builtin "object.__class__") "__get__" = some (some (.builtin "getset_descriptor.__get__"))
  i_tk : PySem.W.takesIn K (.builtin "object.__class__") = some true
  xg_BadStatement : PySem.W.findIn K (.ref c_BadStatement) "__getattribute__" = some (some (.builtin "BaseException.__getattribute__"))
  xk_BadStatement : PySem.W.findIn K (.ref c_BadStatement) "__getattr__" = some none
  xa_BadStatement : PySem.W.findIn K (.ref c_BadStatement) "__class__" = some (some (.builtin "object.__class__"))
  xm_BadStatement : PySem.W.mroIn K c_BadStatement (.type "object") = some true
  u_BadStatement_BadStatement : PySem.W.subIn K (.ref c_BadStatement) (.ref c_BadStatement) = some true
  u_BadStatement_BadTape : PySem.W.subIn K (.ref c_BadStatement) (.ref c_BadTape) = some false
  ine_x_BadStatement_BadTape : (Value.ref c_BadStatement == Value.ref c_BadTape) = false
  xg_BadTape : PySem.W.findIn K (.ref c_BadTape) "__getattribute__" = some (some (.builtin "BaseException.__getattribute__"))
  xk_BadTape : PySem.W.findIn K (.ref c_BadTape) "__getattr__" = some none
  xa_BadTape : PySem.W.findIn K (.ref c_BadTape) "__class__" = some (some (.builtin "object.__class__"))
  xm_BadTape : PySem.W.mroIn K c_BadTape (.type "object") = some true
  u_BadTape_BadStatement : PySem.W.subIn K (.ref c_BadTape) (.ref c_BadStatement) = some false
  ine_x_BadTape_BadStatement : (Value.ref c_BadTape == Value.ref c_BadStatement) = false
  u_BadTape_BadTape : PySem.W.subIn K (.ref c_BadTape) (.ref c_BadTape) = some true
  xg_HushError : PySem.W.findIn K (.ref c_HushError) "__getattribute__" = some (some (.builtin "BaseException.__getattribute__"))
  xk_HushError : PySem.W.findIn K (.ref c_HushError) "__getattr__" = some none
  xa_HushError : PySem.W.findIn K (.ref c_HushError) "__class__" = some (some (.builtin "object.__class__"))
  xm_HushError : PySem.W.mroIn K c_HushError (.type "object") = some true
  u_HushError_BadStatement : PySem.W.subIn K (.ref c_HushError) (.ref c_BadStatement) = some false
  ine_x_HushError_BadStatement : (Value.ref c_HushError == Value.ref c_BadStatement) = false
  u_HushError_BadTape : PySem.W.subIn K (.ref c_HushError) (.ref c_BadTape) = some false
  ine_x_HushError_BadTape : (Value.ref c_HushError == Value.ref c_BadTape) = false
  n_CROSSED : ∃ t, mg "CROSSED" = some (.int 1 t)
  n_STRAIGHT : ∃ t, mg "STRAIGHT" = some (.int 0 t)
def clT {K : PySem.W.Frag} {mg : Str → Option Value} (T : Top K mg) : Str → Option Addr := fun s => if s = "BadStatement" then some T.c_BadStatement else if s = "BadTape" then some T.c_BadTape else if s = "HushError" then some T.c_HushError else none
theorem Top.ce_BadStatement {K : PySem.W.Frag} {mg : Str → Option Value} (T : Top K mg) : clT T "BadStatement" = some T.c_BadStatement := by
  unfold clT
  simp (config := { decide := true }) only [if_true, if_false]
theorem Top.ce_BadTape {K : PySem.W.Frag} {mg : Str → Option Value} (T : Top K mg) : clT T "BadTape" = some T.c_BadTape := by
  unfold clT
  simp (config := { decide := true }) only [if_true, if_false]
theorem Top.ce_HushError {K : PySem.W.Frag} {mg : Str → Option Value} (T : Top K mg) : clT T "HushError" = some T.c_HushError := by
  unfold clT
  simp (config := { decide := true }) only [if_true, if_false]
def xt_BadStatement : List (Str × Bool) := [("BadStatement", true), ("BadTape", false), ("HushError", false)]
theorem Top.xt_BadStatement {K : PySem.W.Frag} {mg : Str → Option Value} (T : Top K mg) : ∀ C b, xt_BadStatement.lookup C = some b → ∀ c, clT T C = some c → ExcC K c ∧ PySem.W.kitOne K (.ref c) (.ref T.c_BadStatement) = some b := by
  intro C b h c hc
  unfold Toy.xt_BadStatement at h
  rw [List.lookup_cons] at h
  by_cases e_BadStatement : (C == "BadStatement") = true
  · rw [e_BadStatement] at h
    cases (Option.some.inj h)
    cases (eq_of_beq e_BadStatement)
    rw [T.ce_BadStatement] at hc
    cases hc
    exact ⟨⟨T.xg_BadStatement, T.xk_BadStatement, T.s_BadStatement, T.hd_BadStatement, T.xa_BadStatement, T.i_get, T.i_tk, T.xm_BadStatement⟩, kit_ownC T.hd_BadStatement T.t_BadStatement T.u_BadStatement_BadStatement⟩
  rw [Bool.eq_false_iff.mpr e_BadStatement] at h
  rw [List.lookup_cons] at h
  by_cases e_BadTape : (C == "BadTape") = true
  · rw [e_BadTape] at h
    cases (Option.some.inj h)
    cases (eq_of_beq e_BadTape)
    rw [T.ce_BadTape] at hc
    cases hc
    exact ⟨⟨T.xg_BadTape, T.xk_BadTape, T.s_BadTape, T.hd_BadTape, T.xa_BadTape, T.i_get, T.i_tk, T.xm_BadTape⟩, kit_notC T.ine_x_BadTape_BadStatement T.hd_BadStatement T.t_BadStatement T.u_BadTape_BadStatement⟩
  rw [Bool.eq_false_iff.mpr e_BadTape] at h
  rw [List.lookup_cons] at h
  by_cases e_HushError : (C == "HushError") = true
  · rw [e_HushError] at h
    cases (Option.some.inj h)
    cases (eq_of_beq e_HushError)
    rw [T.ce_HushError] at hc
    cases hc
    exact ⟨⟨T.xg_HushError, T.xk_HushError, T.s_HushError, T.hd_HushError, T.xa_HushError, T.i_get, T.i_tk, T.xm_HushError⟩, kit_notC T.ine_x_HushError_BadStatement T.hd_BadStatement T.t_BadStatement T.u_HushError_BadStatement⟩
  rw [Bool.eq_false_iff.mpr e_HushError] at h
  cases h
def xt_BadTape : List (Str × Bool) := [("BadStatement", false), ("BadTape", true), ("HushError", false)]
theorem Top.xt_BadTape {K : PySem.W.Frag} {mg : Str → Option Value} (T : Top K mg) : ∀ C b, xt_BadTape.lookup C = some b → ∀ c, clT T C = some c → ExcC K c ∧ PySem.W.kitOne K (.ref c) (.ref T.c_BadTape) = some b := by
  intro C b h c hc
  unfold Toy.xt_BadTape at h
  rw [List.lookup_cons] at h
  by_cases e_BadStatement : (C == "BadStatement") = true
  · rw [e_BadStatement] at h
    cases (Option.some.inj h)
    cases (eq_of_beq e_BadStatement)
    rw [T.ce_BadStatement] at hc
    cases hc
    exact ⟨⟨T.xg_BadStatement, T.xk_BadStatement, T.s_BadStatement, T.hd_BadStatement, T.xa_BadStatement, T.i_get, T.i_tk, T.xm_BadStatement⟩, kit_notC T.ine_x_BadStatement_BadTape T.hd_BadTape T.t_BadTape T.u_BadStatement_BadTape⟩
  rw [Bool.eq_false_iff.mpr e_BadStatement] at h
  rw [List.lookup_cons] at h
  by_cases e_BadTape : (C == "BadTape") = true
  · rw [e_BadTape] at h
    cases (Option.some.inj h)
    cases (eq_of_beq e_BadTape)
    rw [T.ce_BadTape] at hc
    cases hc
    exact ⟨⟨T.xg_BadTape, T.xk_BadTape, T.s_BadTape, T.hd_BadTape, T.xa_BadTape, T.i_get, T.i_tk, T.xm_BadTape⟩, kit_ownC T.hd_BadTape T.t_BadTape T.u_BadTape_BadTape⟩
  rw [Bool.eq_false_iff.mpr e_BadTape] at h
  rw [List.lookup_cons] at h
  by_cases e_HushError : (C == "HushError") = true
  · rw [e_HushError] at h
    cases (Option.some.inj h)
    cases (eq_of_beq e_HushError)
    rw [T.ce_HushError] at hc
    cases hc
    exact ⟨⟨T.xg_HushError, T.xk_HushError, T.s_HushError, T.hd_HushError, T.xa_HushError, T.i_get, T.i_tk, T.xm_HushError⟩, kit_notC T.ine_x_HushError_BadTape T.hd_BadTape T.t_BadTape T.u_HushError_BadTape⟩
  rw [Bool.eq_false_iff.mpr e_HushError] at h
  cases h
def hit_HushError : Str → Option Bool := fun s => if s = "BadStatement" then some true else if s = "BadTape" then some true else if s = "HushError" then some true else none
theorem Top.hit_HushError {K : PySem.W.Frag} {mg : Str → Option Value} (T : Top K mg) : ∀ c' C b, clT T c' = some C → Toy.hit_HushError c' = some b → PySem.W.exmOne K (.ref C) (.ref T.c_HushError) = some b := by
  intro c' C b h1 h2
  unfold Toy.hit_HushError at h2
  by_cases e_BadStatement : c' = "BadStatement"
  · subst e_BadStatement
    rw [if_pos rfl] at h2
    cases (Option.some.inj ((T.ce_BadStatement).symm.trans h1))
    cases (Option.some.inj h2)
    exact PySem.W.exm_ref T.s_HushError T.hd_HushError T.t_HushError T.u_BadStatement_HushError
  rw [if_neg e_BadStatement] at h2
  by_cases e_BadTape : c' = "BadTape"
  · subst e_BadTape
    simp (config := { decide := true }) only [if_true, if_false] at h2
    cases (Option.some.inj ((T.ce_BadTape).symm.trans h1))
    cases (Option.some.inj h2)
    exact PySem.W.exm_ref T.s_HushError T.hd_HushError T.t_HushError T.u_BadTape_HushError
  rw [if_neg e_BadTape] at h2
  by_cases e_HushError : c' = "HushError"
  · subst e_HushError
    simp (config := { decide := true }) only [if_true, if_false] at h2
    cases (Option.some.inj ((T.ce_HushError).symm.trans h1))
    cases (Option.some.inj h2)
    exact PySem.W.exm_ref T.s_HushError T.hd_HushError T.t_HushError T.u_HushError_HushError
  rw [if_neg e_HushError] at h2
  cases h2
section
variable {P : Program} {w : World} {K : PySem.W.Frag} {mg : Str → Option Value} {base : Heap}
theorem g_settings_for_0_places_is {K : PySem.W.Frag} {cl : Str → Option Addr} {F : Hp} {vs : List V} {ps : List PV} {ws : List V} {zs : List PV} (r : IsL K cl F vs ps) (q : IsL K cl F ws zs) : IsL K cl F (g_settings_for_0_places vs ws) (g_settings_for_0_places ps zs) := by
  unfold g_settings_for_0_places
  split
  · match r, q with | .nil, (.cons q0 .nil) => exact (.cons q0 .nil)
  · next h =>
    split
    · match r, q with | .nil, (.cons q0 .nil) => exact (h _ rfl rfl).elim
    · exact .nil
theorem g_source_places_0_many_settings_is {K : PySem.W.Frag} {cl : Str → Option Addr} {F : Hp} {vs : List V} {ps : List PV} {ws : List V} {zs : List PV} (r : IsL K cl F vs ps) (q : IsL K cl F ws zs) : IsL K cl F (g_source_places_0_many_settings vs ws) (g_source_places_0_many_settings ps zs) := by
  unfold g_source_places_0_many_settings
  split
  · match r, q with | .nil, (.cons q0 (.cons q1 .nil)) => exact (.cons q0 (.cons q1 .nil))
  · next h =>
    split
    · match r, q with | .nil, (.cons q0 (.cons q1 .nil)) => exact (h _ _ rfl rfl).elim
    · exact .nil
theorem g_switch_places_0_many_is {K : PySem.W.Frag} {cl : Str → Option Addr} {F : Hp} {vs : List V} {ps : List PV} {ws : List V} {zs : List PV} (r : IsL K cl F vs ps) (q : IsL K cl F ws zs) : IsL K cl F (g_switch_places_0_many vs ws) (g_switch_places_0_many ps zs) := by
  unfold g_switch_places_0_many
  split
  · match r, q with | .nil, (.cons q0 .nil) => exact (.cons q0 .nil)
  · next h =>
    split
    · match r, q with | .nil, (.cons q0 .nil) => exact (h _ rfl rfl).elim
    · exact .nil
def m__law_pool (a_script : PV) : Res MO := retN ((Res.val (PV.int 7)) >>= fun x1 => (seqF (S1 := PV) (((Res.val a_script) >>= asSq) >>= fun ps11 => forF (fun (x12 : PV) (s2 : PV) => (fun x => Res.val x) x12 >>= fun (a3 : PV) => ((((((Res.val s2) >>= fun x4 => (Res.val (PV.int 1000003)) >>= fun x5 => mulP x4 x5) >>= fun x6 => (Res.val a3) >>= fun x7 => addP x6 x7) >>= intP) >>= fun x8 => (Res.val (PV.int 2305843009213693951)) >>= fun x9 => modP x8 x9) >>= fun x10 => (Res.val (.nx x10)))) ps11 x1) fun s13 => (((Res.val a_script) >>= asSq) >>= fun l14 => (seqF (S1 := List PV) ((((((Res.val (PV.lst l14)) >>= lenP) >>= fun x21 => (Res.val (PV.int 0)) >>= fun x22 => gtP x21 x22) >>= asB) >>= fun b23 => if b23 = true then ((((((Res.val (PV.lst l14)) >>= fun x15 => (Res.val (PV.int 0)) >>= fun x16 => ixP x15 x16) >>= intP) >>= fun x17 => (Res.val (PV.int 2)) >>= fun x18 => modP x17 x18) >>= fun x19 => (Res.val (PV.int 1)) >>= fun x20 => eqP x19 x20) >>= asB) else Res.val false) >>= fun b24 => if b24 = true then (((Res.val []) >>= mkN) >>= fun l26 => (Res.val (.nx l26))) else (Res.val (.nx l14))) fun s25 => (seqF (S1 := List PV) (((((Res.val (PV.lst s25)) >>= lenP) >>= fun x27 => (Res.val (PV.int 0)) >>= fun x28 => gtP x27 x28) >>= asB) >>= fun b29 => if b29 = true then ((((Res.val (PV.lst s25)) >>= fun x31 => (Res.val (PV.int 0)) >>= fun x32 => ixP x31 x32) >>= fun x33 => (Res.val (PV.int 2)) >>= fun x34 => fdivP x33 x34) >>= fun x35 => (Res.val (PV.int 0)) >>= fun k36 => setL s25 k36 x35 >>= fun qs37 => (Res.val (.nx qs37))) else (Res.val (.nx s25))) fun s30 => ((((Res.val (PV.str "cells")) >>= fun k62 => (Res.val (PV.lst s30)) >>= fun x63 => keyP k62 >>= fun k64 => ((Res.val (PV.str "at")) >>= fun k58 => (Res.val (PV.int 0)) >>= fun x59 => keyP k58 >>= fun k60 => ((Res.val (PV.str "rest")) >>= fun k54 => (Res.val (PV.int 0)) >>= fun x55 => keyP k54 >>= fun k56 => ((Res.val (PV.str "left")) >>= fun k50 => (Res.val (PV.int 0)) >>= fun x51 => keyP k50 >>= fun k52 => ((Res.val (PV.str "small")) >>= fun k46 => (Res.val (PV.bl true)) >>= fun x47 => keyP k46 >>= fun k48 => ((Res.val (PV.str "seed")) >>= fun k42 => (Res.val s13) >>= fun x43 => keyP k42 >>= fun k44 => ((Res.val (PV.str "turn")) >>= fun k38 => (Res.val (PV.int 0)) >>= fun x39 => keyP k38 >>= fun k40 => (Res.val []) >>= fun r41 => Res.val ((k40, x39) :: r41)) >>= fun r45 => Res.val ((k44, x43) :: r45)) >>= fun r49 => Res.val ((k48, x47) :: r49)) >>= fun r53 => Res.val ((k52, x51) :: r53)) >>= fun r57 => Res.val ((k56, x55) :: r57)) >>= fun r61 => Res.val ((k60, x59) :: r61)) >>= fun r65 => Res.val ((k64, x63) :: r65)) >>= fun kv66 => upto15 kv66.length >>= fun _ => Res.val (mergeP [] kv66)) >>= fun l67 => Res.val (.ro (.dct l67) [])))))))
theorem ok__law_pool (T : Top K mg) : FnOk P w K mg base (L2.CX P w) 1 T.f__law_pool T.d__law_pool ["script"] (spN K (clT T) (apN1 m__law_pool)) := by
  refine fnN T.F__law_pool scLpool rfl taknN1 fun cdv A outer s H E hr qs hq => ?_
  match qs, hq with
  | [a_script], _ => exact ⟨_, (pss_cons (ps_set (i := 1) scLpool.nd rfl (Or.inl rfl) pe_int)
      (pss_cons (ps_for (passes_of rfl) rfl (pi_seqV K rfl (pv 0)) (pg_name (i := 2) scLpool.nd rfl (Or.inl rfl)) (pss_one (ps_set (i := 1) scLpool.nd rfl (Or.inl rfl) (pe_op op_modN (pe_callTy call_intV (by rfl) T.z_int (by decide +kernel) (pa_cons (pe_op (op_addV K rfl) (pe_op op_mulV (pv 1) pe_int) (pv 2)) pa_nil)) pe_int))))
      (pss_cons (ps_set (i := 3) scLpool.nd rfl (Or.inl rfl) (pe_callTy (call_listV K rfl) (by rfl) T.z_list (by decide +kernel) (pa_cons (pv 0) pa_nil)))
      (pss_cons (ps_if (PW.pt (pw_and (pt_cmpR op_gt (pe_callB (call_lenVK K rfl) (by rfl) T.z_len PySem.boot_len (pa_cons (pv 3) pa_nil)) pe_int (nomark _)) (pw_and1 (pt_cmpR (op_eqV K rfl hr.units) (pe_op op_modN (pe_callTy call_intV (by rfl) T.z_int (by decide +kernel) (pa_cons (pe_ix (ix_VK K rfl) (pv 3) pe_int (fun _ _ => rfl)) pa_nil)) pe_int) pe_int (nomark _))))) (pss_one (ps_set (i := 3) scLpool.nd rfl (Or.inl rfl) (pe_lst pa_nil))) pss_nil)
      (pss_cons (ps_if (pt_cmpR op_gt (pe_callB (call_lenVK K rfl) (by rfl) T.z_len PySem.boot_len (pa_cons (pv 3) pa_nil)) pe_int (nomark _)) (pss_one (ps_asg (pe_op op_fdivV (pe_ix (ix_VK K rfl) (pv 3) pe_int (fun _ _ => rfl)) pe_int) (pg_sub (pv 3) pe_int set_list))) pss_nil)
      (pss_one (ps_ret (pe_disp (pps_cons pe_str (pv 3) (pps_cons pe_str pe_int (pps_cons pe_str pe_int (pps_cons pe_str pe_int (pps_cons pe_str pe_bl (pps_cons pe_str (pv 1) (pps_cons pe_str pe_int pps_nil))))))) rfl rfl (List.cons_ne_nil _ _) (Nat.le_of_ble_eq_true rfl))))))))),
    _, run_one (run_assoc (run_set (i := 1) pu_int rfl (wk_uns rfl) fun x1 => (run_assoc (run_seq (ρj := fun (s13 : PV) => [(.fz a_script), (.fz s13), .un, .un]) (run_for (ρs := fun (s2 : PV) => [(.fz a_script), (.fz s2), .un, .un]) (s0 := x1) (ρe := fun (s2 : PV) (a3 : PV) => [(.fz a_script), (.fz s2), (.fz a3), .un]) (it_seq (pu_var rfl)) (.keep (.keep (.keep (.keep .nil)))) (wk_uns rfl) (fun s2 => (tg_name (i := 2) rfl (Or.inl rfl))) (fun a3 s2 => run_one (run_set (i := 1) (pu_op o2_mod (Pur.vw (pu_cb1 b1_int (Pur.vw (pu_op o2_add (Pur.vw (pu_op o2_mul (Pur.vw (pu_var rfl)) (Pur.vw pu_int))) (Pur.vw (pu_var rfl)))))) (Pur.vw pu_int)) rfl (wk_uns rfl) fun x10 => (run_next (s := x10) (.keep (.keep (.drop (.keep .nil)))))))) fun s13 => (run_assoc (run_setow (i := 3) (nw_list (Pur.vw (pu_var rfl))) rfl (wk_uns rfl) fun l14 => (run_assoc (run_seq (ρj := fun (s25 : List PV) => [(.fz a_script), (.fz s13), .un, (.ow (.lst s25))]) (run_one (run_if (ts_and (ts_cmp (Pur.vw (pu_op o2_gt (Pur.vw (pu_cb1 b1_len (vw_own rfl))) (Pur.vw pu_int)))) (ts_cmp (Pur.vw (pu_op o2_eq (Pur.vw (pu_op o2_mod (Pur.vw (pu_cb1 b1_int (Pur.vw (pu_op o2_ix (vw_own rfl) (Pur.vw pu_int))))) (Pur.vw pu_int))) (Pur.vw pu_int))))) (wk_uns rfl) (run_wk (.keep (.keep (.keep (.drop .nil)))) (run_setow (i := 3) (nw_lst pl_nil) rfl (wk_uns rfl) fun l26 => (run_next (s := l26) (.keep (.keep (.keep (.keep .nil))))))) (run_skip (run_next (s := l14) (.keep (.keep (.keep (.keep .nil)))))))) fun s25 => (run_assoc (run_seq (ρj := fun (s30 : List PV) => [(.fz a_script), (.fz s13), .un, (.ow (.lst s30))]) (run_one (run_if (ts_cmp (Pur.vw (pu_op o2_gt (Pur.vw (pu_cb1 b1_len (vw_own rfl))) (Pur.vw pu_int)))) (wk_uns rfl) (run_setitem (i := 3) rfl (Or.inl rfl) (pu_op o2_fdiv (Pur.vw (pu_op o2_ix (vw_own rfl) (Pur.vw pu_int))) (Pur.vw pu_int)) (Pur.vw pu_int) (wk_uns rfl) fun qs37 => (run_next (s := qs37) (.keep (.keep (.keep (.keep .nil)))))) (run_skip (run_next (s := s25) (.keep (.keep (.keep (.keep .nil)))))))) fun s30 => (run_wk (.keep (.keep (.keep (.ice .nil)))) (run_retNewD (nd_disp (pp_cons pu_str (pu_var rfl) (pp_cons pu_str pu_int (pp_cons pu_str pu_int (pp_cons pu_str pu_int (pp_cons pu_str pu_bl (pp_cons pu_str (pu_var rfl) (pp_cons pu_str pu_int pp_nil)))))))) rfl rfl (wk_uns rfl))))))))))))), rfl⟩
def m__law_mixed (a_number a_turn a_many : PV) : Res PV := retF ((Res.val (PV.int 2305843009213693951)) >>= fun x1 => (((((((Res.val a_number) >>= fun x2 => (Res.val (PV.int 48271)) >>= fun x3 => mulP x2 x3) >>= fun x6 => ((Res.val a_turn) >>= fun x4 => (Res.val (PV.int 1000000000039)) >>= fun x5 => mulP x4 x5) >>= fun x7 => addP x6 x7) >>= fun x8 => (Res.val (PV.int 12345678910111213)) >>= fun x9 => addP x8 x9) >>= intP) >>= fun x10 => (Res.val x1) >>= fun x11 => modP x10 x11) >>= fun x12 => (((((((Res.val x12) >>= fun x13 => (Res.val x12) >>= fun x14 => mulP x13 x14) >>= fun x15 => (Res.val a_turn) >>= fun x16 => addP x15 x16) >>= intP) >>= fun x17 => (Res.val (PV.int 7046029254386353)) >>= fun x18 => mulP x17 x18) >>= fun x19 => (Res.val x1) >>= fun x20 => modP x19 x20) >>= fun x21 => ((((Res.val x21) >>= fun x22 => (Res.val (PV.int 8)) >>= fun x23 => fdivP x22 x23) >>= fun x24 => (Res.val a_many) >>= fun x25 => modP x24 x25) >>= fun v26 => Res.val (.rt v26 [])))))
theorem ok__law_mixed (T : Top K mg) : FnOk P w K mg base (L2.CX P w) 1 T.f__law_mixed T.d__law_mixed ["number", "turn", "many"] (spP K (clT T) (ap3 m__law_mixed)) := by
  refine fnP T.F__law_mixed scLmixed rfl takn3 fun cdv A outer s H E hr qs hq => ?_
  match qs, hq with
  | [a_number, a_turn, a_many], _ => exact ⟨_, (pss_cons (ps_set (i := 3) scLmixed.nd rfl (Or.inl rfl) pe_int)
      (pss_cons (ps_set (i := 4) scLmixed.nd rfl (Or.inl rfl) (pe_op op_modN (pe_callTy call_intV (by rfl) T.z_int (by decide +kernel) (pa_cons (pe_op (op_addV K rfl) (pe_op (op_addV K rfl) (pe_op op_mulV (pv 0) pe_int) (pe_op op_mulV (pv 1) pe_int)) pe_int) pa_nil)) (pv 3)))
      (pss_cons (ps_set (i := 5) scLmixed.nd rfl (Or.inl rfl) (pe_op op_modN (pe_op op_mulV (pe_callTy call_intV (by rfl) T.z_int (by decide +kernel) (pa_cons (pe_op (op_addV K rfl) (pe_op op_mulV (pv 4) (pv 4)) (pv 1)) pa_nil)) pe_int) (pv 3)))
      (pss_one (ps_ret (pe_op op_modN (pe_op op_fdivV (pv 5) pe_int) (pv 2))))))),
    _, run_one (run_assoc (run_set (i := 3) pu_int rfl (wk_uns rfl) fun x1 => (run_assoc (run_set (i := 4) (pu_op o2_mod (Pur.vw (pu_cb1 b1_int (Pur.vw (pu_op o2_add (Pur.vw (pu_op o2_add (Pur.vw (pu_op o2_mul (Pur.vw (pu_var rfl)) (Pur.vw pu_int))) (Pur.vw (pu_op o2_mul (Pur.vw (pu_var rfl)) (Pur.vw pu_int))))) (Pur.vw pu_int))))) (Pur.vw (pu_var rfl))) rfl (wk_uns rfl) fun x12 => (run_assoc (run_set (i := 5) (pu_op o2_mod (Pur.vw (pu_op o2_mul (Pur.vw (pu_cb1 b1_int (Pur.vw (pu_op o2_add (Pur.vw (pu_op o2_mul (Pur.vw (pu_var rfl)) (Pur.vw (pu_var rfl)))) (Pur.vw (pu_var rfl)))))) (Pur.vw pu_int))) (Pur.vw (pu_var rfl))) rfl (wk_uns rfl) fun x21 => (run_ret (pu_op o2_mod (Pur.vw (pu_op o2_fdiv (Pur.vw (pu_var rfl)) (Pur.vw pu_int))) (Pur.vw (pu_var rfl))) rfl rfl (wk_uns rfl)))))))), rfl⟩
def m__law_take (mo : MO) (a_many : PV) : Res (PV × MO) := match mo with
  | .dct a_pool => retR ((((Res.val (PV.dct a_pool)) >>= fun x1 => (Res.val (PV.str "turn")) >>= fun x2 => dgetP x1 x2) >>= fun x3 => (Res.val (PV.int 1)) >>= fun x4 => addP x3 x4) >>= fun x5 => (Res.val (PV.str "turn")) >>= fun k6 => keyP k6 >>= fun k8 => sized (a_pool.length + 1) >>= fun _ => (fun (qs7 : List (Key × PV)) => (seqF (S1 := List (Key × PV)) ((((((Res.val (PV.dct qs7)) >>= fun x15 => (Res.val (PV.str "left")) >>= fun x16 => dgetP x15 x16) >>= fun x17 => (Res.val (PV.int 0)) >>= fun x18 => eqP x17 x18) >>= asB) >>= fun b19 => if b19 = true then ((((Res.val (PV.dct qs7)) >>= fun x9 => (Res.val (PV.str "at")) >>= fun x10 => dgetP x9 x10) >>= fun x13 => (((Res.val (PV.dct qs7)) >>= fun x11 => (Res.val (PV.str "cells")) >>= fun x12 => dgetP x11 x12) >>= lenP) >>= fun x14 => ltP x13 x14) >>= asB) else Res.val false) >>= fun b20 => if b20 = true then ((((Res.val (PV.dct qs7)) >>= fun x22 => (Res.val (PV.str "cells")) >>= fun x23 => dgetP x22 x23) >>= fun x26 => ((Res.val (PV.dct qs7)) >>= fun x24 => (Res.val (PV.str "at")) >>= fun x25 => dgetP x24 x25) >>= fun x27 => ixP x26 x27) >>= fun x28 => (Res.val (PV.str "rest")) >>= fun k29 => keyP k29 >>= fun k31 => sized (qs7.length + 1) >>= fun _ => (fun (qs30 : List (Key × PV)) => ((((Res.val (PV.dct qs30)) >>= fun x32 => (Res.val (PV.str "at")) >>= fun x33 => dgetP x32 x33) >>= fun x34 => (Res.val (PV.int 1)) >>= fun x35 => addP x34 x35) >>= fun x36 => (Res.val (PV.str "at")) >>= fun k37 => keyP k37 >>= fun k39 => sized (qs30.length + 1) >>= fun _ => (fun (qs38 : List (Key × PV)) => ((((Res.val (PV.dct qs38)) >>= fun x40 => (Res.val (PV.str "rest")) >>= fun x41 => dgetP x40 x41) >>= fun x44 => ((Res.val (PV.int 10)) >>= fun x42 => (Res.val (PV.int 18)) >>= fun x43 => powP x42 x43) >>= fun x45 => ltP x44 x45) >>= fun x46 => (Res.val (PV.str "small")) >>= fun k47 => keyP k47 >>= fun k49 => sized (qs38.length + 1) >>= fun _ => (fun (qs48 : List (Key × PV)) => (((((Res.val (PV.int 60)) >>= fun x52 => ((Res.val (PV.int 2)) >>= fun x50 => (Res.val []) >>= fun xs51 => Res.val (x50 :: xs51)) >>= fun xs53 => Res.val (x52 :: xs53)) >>= mkL) >>= fun x56 => (((Res.val (PV.dct qs48)) >>= fun x54 => (Res.val (PV.str "small")) >>= fun x55 => dgetP x54 x55) >>= intP) >>= fun x57 => ixP x56 x57) >>= fun x58 => (Res.val (PV.str "left")) >>= fun k59 => keyP k59 >>= fun k61 => sized (qs48.length + 1) >>= fun _ => (fun (qs60 : List (Key × PV)) => (Res.val (.nx qs60))) (putP qs48 k61 x58))) (putP qs38 k49 x46))) (putP qs30 k39 x36))) (putP qs7 k31 x28)) else (Res.val (.nx qs7))) fun s21 => (((((Res.val (PV.dct s21)) >>= fun x62 => (Res.val (PV.str "left")) >>= fun x63 => dgetP x62 x63) >>= fun x64 => (Res.val (PV.int 0)) >>= fun x65 => eqP x64 x65) >>= asB) >>= fun b66 => if b66 = true then ((((Res.val (PV.dct s21)) >>= fun x67 => (Res.val (PV.str "seed")) >>= fun x68 => dgetP x67 x68) >>= fun x71 => ((Res.val (PV.dct s21)) >>= fun x69 => (Res.val (PV.str "turn")) >>= fun x70 => dgetP x69 x70) >>= fun x72 => (Res.val a_many) >>= fun x73 => m__law_mixed x71 x72 x73) >>= fun v74 => Res.val (.rt v74 [.dct s21])) else ((((Res.val (PV.dct s21)) >>= fun x75 => (Res.val (PV.str "left")) >>= fun x76 => dgetP x75 x76) >>= fun x77 => (Res.val (PV.int 1)) >>= fun x78 => subP x77 x78) >>= fun x79 => (Res.val (PV.str "left")) >>= fun k80 => keyP k80 >>= fun k82 => sized (s21.length + 1) >>= fun _ => (fun (qs81 : List (Key × PV)) => ((((Res.val (PV.dct qs81)) >>= fun x83 => (Res.val (PV.str "small")) >>= fun x84 => dgetP x83 x84) >>= asB) >>= fun b85 => if b85 = true then ((((Res.val (PV.dct qs81)) >>= fun x86 => (Res.val (PV.str "rest")) >>= fun x87 => dgetP x86 x87) >>= fun x90 => ((Res.val (PV.dct qs81)) >>= fun x88 => (Res.val (PV.str "turn")) >>= fun x89 => dgetP x88 x89) >>= fun x91 => (Res.val a_many) >>= fun x92 => m__law_mixed x90 x91 x92) >>= fun v93 => Res.val (.rt v93 [.dct qs81])) else (((((Res.val (PV.dct qs81)) >>= fun x94 => (Res.val (PV.str "rest")) >>= fun x95 => dgetP x94 x95) >>= intP) >>= fun x96 => (Res.val a_many) >>= fun x97 => modP x96 x97) >>= fun x98 => ((((Res.val (PV.dct qs81)) >>= fun x99 => (Res.val (PV.str "rest")) >>= fun x100 => dgetP x99 x100) >>= fun x101 => (Res.val a_many) >>= fun x102 => fdivP x101 x102) >>= fun x103 => (Res.val (PV.str "rest")) >>= fun k104 => keyP k104 >>= fun k106 => sized (qs81.length + 1) >>= fun _ => (fun (qs105 : List (Key × PV)) => (seqF (S1 := List (Key × PV)) (((((Res.val (PV.dct qs105)) >>= fun x107 => (Res.val (PV.str "rest")) >>= fun x108 => dgetP x107 x108) >>= fun x109 => (Res.val (PV.int 0)) >>= fun x110 => eqP x109 x110) >>= asB) >>= fun b111 => if b111 = true then ((Res.val (PV.int 0)) >>= fun x113 => (Res.val (PV.str "left")) >>= fun k114 => keyP k114 >>= fun k116 => sized (qs105.length + 1) >>= fun _ => (fun (qs115 : List (Key × PV)) => (Res.val (.nx qs115))) (putP qs105 k116 x113)) else (Res.val (.nx qs105))) fun s112 => ((Res.val x98) >>= fun v117 => Res.val (.rt v117 [.dct s112])))) (putP qs81 k106 x103))))) (putP s21 k82 x79))))) (putP a_pool k8 x5))
  | _ => .stuck
theorem ok__law_take (T : Top K mg) : FnOk P w K mg base (L2.CX P w) 2 T.f__law_take T.d__law_take ["pool", "many"] (spR K (clT T) (apR1 m__law_take)) := by
  have G__law_mixed := ok__law_mixed (P := P) (w := w) (base := base) T
  refine fnR T.F__law_take scLtake rfl taknR1 fun cdv A outer s H E hr mo qs hq => ?_
  match mo, qs, hq with
  | .lst _, [_], _ => exact .inl rfl
  | .ob _ _, [_], _ => exact .inl rfl
  | .dct a_pool, [a_many], _ => exact .inr ⟨_, (pss_cons (ps_dput (hu_of hr) (pv 0) pe_str (pe_op (op_addV K rfl) (pe_dget (hu_of hr) (pv 0) pe_str (fun _ _ => rfl)) pe_int) rfl)
      (pss_cons (ps_if (PW.pt (pw_and (pt_cmpR (op_eqV K rfl hr.units) (pe_dget (hu_of hr) (pv 0) pe_str (fun _ _ => rfl)) pe_int (nomark _)) (pw_and1 (pt_cmpR op_lt (pe_dget (hu_of hr) (pv 0) pe_str (fun _ _ => rfl)) (pe_callB (call_lenVK K rfl) (by rfl) T.z_len PySem.boot_len (pa_cons (pe_dget (hu_of hr) (pv 0) pe_str (fun _ _ => rfl)) pa_nil)) (nomark _))))) (pss_cons (ps_dput (hu_of hr) (pv 0) pe_str (pe_ix (ix_VK K rfl) (pe_dget (hu_of hr) (pv 0) pe_str (fun _ _ => rfl)) (pe_dget (hu_of hr) (pv 0) pe_str (fun _ _ => rfl)) (fun _ _ => rfl)) rfl)
      (pss_cons (ps_dput (hu_of hr) (pv 0) pe_str (pe_op (op_addV K rfl) (pe_dget (hu_of hr) (pv 0) pe_str (fun _ _ => rfl)) pe_int) rfl)
      (pss_cons (ps_dput (hu_of hr) (pv 0) pe_str (pe_cmpR op_lt (pe_dget (hu_of hr) (pv 0) pe_str (fun _ _ => rfl)) (pe_op op_pow pe_int pe_int) (nomark _)) rfl)
      (pss_one (ps_dput (hu_of hr) (pv 0) pe_str (pe_ix (ix_VK K rfl) (pe_lst (pa_cons pe_int (pa_cons pe_int pa_nil))) (pe_callTy call_intV (by rfl) T.z_int (by decide +kernel) (pa_cons (pe_dget (hu_of hr) (pv 0) pe_str (fun _ _ => rfl)) pa_nil)) (fun _ _ => rfl)) rfl))))) pss_nil)
      (pss_cons (ps_if (pt_cmpR (op_eqV K rfl hr.units) (pe_dget (hu_of hr) (pv 0) pe_str (fun _ _ => rfl)) pe_int (nomark _)) (pss_one (ps_ret (pe_callS G__law_mixed (hr.mono (by decide)) (by rfl) T.m__law_mixed T.F__law_mixed.kp T.b__law_mixed (fun σ => passAt (takes_of rfl rfl rfl rfl) σ) (pa_cons (pe_dget (hu_of hr) (pv 0) pe_str (fun _ _ => rfl)) (pa_cons (pe_dget (hu_of hr) (pv 0) pe_str (fun _ _ => rfl)) (pa_cons (pv 1) pa_nil)))))) pss_nil)
      (pss_cons (ps_dput (hu_of hr) (pv 0) pe_str (pe_op op_sub (pe_dget (hu_of hr) (pv 0) pe_str (fun _ _ => rfl)) pe_int) rfl)
      (pss_cons (ps_if (pt_val (pe_dget (hu_of hr) (pv 0) pe_str (fun _ _ => rfl))) (pss_one (ps_ret (pe_callS G__law_mixed (hr.mono (by decide)) (by rfl) T.m__law_mixed T.F__law_mixed.kp T.b__law_mixed (fun σ => passAt (takes_of rfl rfl rfl rfl) σ) (pa_cons (pe_dget (hu_of hr) (pv 0) pe_str (fun _ _ => rfl)) (pa_cons (pe_dget (hu_of hr) (pv 0) pe_str (fun _ _ => rfl)) (pa_cons (pv 1) pa_nil)))))) pss_nil)
      (pss_cons (ps_set (i := 2) scLtake.nd rfl (Or.inl rfl) (pe_op op_modN (pe_callTy call_intV (by rfl) T.z_int (by decide +kernel) (pa_cons (pe_dget (hu_of hr) (pv 0) pe_str (fun _ _ => rfl)) pa_nil)) (pv 1)))
      (pss_cons (ps_dput (hu_of hr) (pv 0) pe_str (pe_op op_fdivV (pe_dget (hu_of hr) (pv 0) pe_str (fun _ _ => rfl)) (pv 1)) rfl)
      (pss_cons (ps_if (pt_cmpR (op_eqV K rfl hr.units) (pe_dget (hu_of hr) (pv 0) pe_str (fun _ _ => rfl)) pe_int (nomark _)) (pss_one (ps_dput (hu_of hr) (pv 0) pe_str pe_int rfl)) pss_nil)
      (pss_one (ps_ret (pv 2))))))))))),
    _, run_one (run_assoc (run_dput (i := 0) rfl (Or.inr ⟨_, rfl⟩) (pu_op o2_add (Pur.vw (pu_dget (vw_rfd rfl) (Pur.vw pu_str))) (Pur.vw pu_int)) (Pur.vw pu_str) (wk_uns rfl) fun qs7 => (run_assoc (run_seq (ρj := fun (s21 : List (Key × PV)) => [(.rf 0 (.dct s21)), (.fz a_many), .un]) (run_one (run_if (ts_and (ts_cmp (Pur.vw (pu_op o2_eq (Pur.vw (pu_dget (vw_rfd rfl) (Pur.vw pu_str))) (Pur.vw pu_int)))) (ts_cmp (Pur.vw (pu_op o2_lt (Pur.vw (pu_dget (vw_rfd rfl) (Pur.vw pu_str))) (Pur.vw (pu_cb1 b1_len (Pur.vw (pu_dget (vw_rfd rfl) (Pur.vw pu_str))))))))) (wk_uns rfl) (run_assoc (run_dput (i := 0) rfl (Or.inr ⟨_, rfl⟩) (pu_op o2_ix (Pur.vw (pu_dget (vw_rfd rfl) (Pur.vw pu_str))) (Pur.vw (pu_dget (vw_rfd rfl) (Pur.vw pu_str)))) (Pur.vw pu_str) (wk_uns rfl) fun qs30 => (run_assoc (run_dput (i := 0) rfl (Or.inr ⟨_, rfl⟩) (pu_op o2_add (Pur.vw (pu_dget (vw_rfd rfl) (Pur.vw pu_str))) (Pur.vw pu_int)) (Pur.vw pu_str) (wk_uns rfl) fun qs38 => (run_assoc (run_dput (i := 0) rfl (Or.inr ⟨_, rfl⟩) (pu_op o2_lt (Pur.vw (pu_dget (vw_rfd rfl) (Pur.vw pu_str))) (Pur.vw (pu_op o2_pow (Pur.vw pu_int) (Pur.vw pu_int)))) (Pur.vw pu_str) (wk_uns rfl) fun qs48 => (run_dput (i := 0) rfl (Or.inr ⟨_, rfl⟩) (pu_op o2_ix (Pur.vw (pu_lst (pl_cons pu_int (pl_cons pu_int pl_nil)))) (Pur.vw (pu_cb1 b1_int (Pur.vw (pu_dget (vw_rfd rfl) (Pur.vw pu_str)))))) (Pur.vw pu_str) (wk_uns rfl) fun qs60 => (run_next (s := qs60) (.keep (.keep (.keep .nil))))))))))) (run_skip (run_next (s := qs7) (.keep (.keep (.keep .nil))))))) fun s21 => (run_assoc (run_if (ts_cmp (Pur.vw (pu_op o2_eq (Pur.vw (pu_dget (vw_rfd rfl) (Pur.vw pu_str))) (Pur.vw pu_int)))) (wk_uns rfl) (run_ret (pu_call3 (pu_dget (vw_rfd rfl) (Pur.vw pu_str)) (pu_dget (vw_rfd rfl) (Pur.vw pu_str)) (pu_var rfl)) rfl rfl (wk_uns rfl)) (run_skip (run_assoc (run_dput (i := 0) rfl (Or.inr ⟨_, rfl⟩) (pu_op o2_sub (Pur.vw (pu_dget (vw_rfd rfl) (Pur.vw pu_str))) (Pur.vw pu_int)) (Pur.vw pu_str) (wk_uns rfl) fun qs81 => (run_assoc (run_if (ts_val (Pur.vw (pu_dget (vw_rfd rfl) (Pur.vw pu_str)))) (wk_uns rfl) (run_ret (pu_call3 (pu_dget (vw_rfd rfl) (Pur.vw pu_str)) (pu_dget (vw_rfd rfl) (Pur.vw pu_str)) (pu_var rfl)) rfl rfl (wk_uns rfl)) (run_skip (run_assoc (run_set (i := 2) (pu_op o2_mod (Pur.vw (pu_cb1 b1_int (Pur.vw (pu_dget (vw_rfd rfl) (Pur.vw pu_str))))) (Pur.vw (pu_var rfl))) rfl (wk_uns rfl) fun x98 => (run_assoc (run_dput (i := 0) rfl (Or.inr ⟨_, rfl⟩) (pu_op o2_fdiv (Pur.vw (pu_dget (vw_rfd rfl) (Pur.vw pu_str))) (Pur.vw (pu_var rfl))) (Pur.vw pu_str) (wk_uns rfl) fun qs105 => (run_assoc (run_seq (ρj := fun (s112 : List (Key × PV)) => [(.rf 0 (.dct s112)), (.fz a_many), (.fz x98)]) (run_one (run_if (ts_cmp (Pur.vw (pu_op o2_eq (Pur.vw (pu_dget (vw_rfd rfl) (Pur.vw pu_str))) (Pur.vw pu_int)))) (wk_uns rfl) (run_dput (i := 0) rfl (Or.inr ⟨_, rfl⟩) pu_int (Pur.vw pu_str) (wk_uns rfl) fun qs115 => (run_next (s := qs115) (.keep (.keep (.keep .nil))))) (run_skip (run_next (s := qs105) (.keep (.keep (.keep .nil))))))) fun s112 => (run_ret (pu_var rfl) rfl rfl (wk_uns rfl)))))))))))))))))))), rfl⟩
def m__law_wrong_settings (mo : MO) (a_many : PV) (a_settings : PV) : Res (PV × MO) := match mo with
  | .dct a_pool => retR (((((Res.val a_settings) >>= fun x3 => (((Res.val (PV.int 0)) >>= fun x1 => (Res.val []) >>= fun xs2 => Res.val (x1 :: xs2)) >>= mkT) >>= fun x4 => addP x3 x4) >>= fun x5 => (Res.val []) >>= fun xs6 => Res.val (x5 :: xs6)) >>= mkN) >>= fun l7 => (seqF (S1 := List (Key × PV) × List PV) (((((Res.val a_settings) >>= lenP) >>= fun x8 => (Res.val (PV.int 0)) >>= fun x9 => gtP x8 x9) >>= asB) >>= fun b10 => if b10 = true then (noX ((fun (s12 : List (Key × PV)) => (fun (s16 : List (Key × PV)) => (fun (s13 : List (Key × PV)) => noX ((Res.val a_settings) >>= lenP) >>= fun v14 => Res.val (v14, s13)) s16 >>= fun x17 => (fun (s15 : List (Key × PV)) => Res.val (([] : List PV), s15)) x17.2 >>= fun xs18 => Res.val (x17.1 :: xs18.1, xs18.2)) s12 >>= fun x19 => (apR1 m__law_take) (MO.dct x19.2) x19.1 >>= fun r20 => ((fun (s12 : List (Key × PV)) (mo : MO) => moD mo >>= fun l => Res.val l) x19.2 r20.2) >>= fun s21 => Res.val (r20.1, s21)) a_pool) >>= fun r24 => (fun (x22 : PV) (s23 : List (Key × PV)) => (((Res.val a_settings) >>= fun x26 => ((Res.val (PV.int 1)) >>= partP >>= fun i25 => Res.val (some i25)) >>= fun lo27 => (Res.val none) >>= fun hi28 => slP x26 lo27 hi28) >>= fun x29 => sized (l7.length + 1) >>= fun _ => (noX ((fun (s30 : List (Key × PV) × List PV) => (fun (s31 : List (Key × PV) × List PV) => (fun (s32 : List (Key × PV) × List PV) => noX ((Res.val a_settings) >>= fun x34 => (Res.val none) >>= fun lo35 => ((Res.val x22) >>= partP >>= fun i33 => Res.val (some i33)) >>= fun hi36 => slP x34 lo35 hi36) >>= fun v37 => Res.val (v37, s32)) s31 >>= fun x69 => (fun (s38 : List (Key × PV) × List PV) => (fun (s64 : List (Key × PV) × List PV) => (fun (s39 : List (Key × PV) × List PV) => (fun (s40 : List (Key × PV) × List PV) => noX (((Res.val (PV.int 2)) >>= fun x47 => (((Res.val (PV.int 1)) >>= negP) >>= fun x45 => (((Res.val (PV.int 10)) >>= fun x41 => (Res.val (PV.int 20)) >>= fun x42 => powP x41 x42) >>= fun x43 => (Res.val []) >>= fun xs44 => Res.val (x43 :: xs44)) >>= fun xs46 => Res.val (x45 :: xs46)) >>= fun xs48 => Res.val (x47 :: xs48)) >>= mkL) >>= fun v49 => Res.val (v49, s40)) s39 >>= fun x60 => (fun (s50 : List (Key × PV) × List PV) => (fun (s54 : List (Key × PV) × List PV) => (fun (s51 : List (Key × PV) × List PV) => noX (Res.val (PV.int 3)) >>= fun v52 => Res.val (v52, s51)) s54 >>= fun x55 => (fun (s53 : List (Key × PV) × List PV) => Res.val (([] : List PV), s53)) x55.2 >>= fun xs56 => Res.val (x55.1 :: xs56.1, xs56.2)) s50 >>= fun x57 => (apR1 m__law_take) (MO.dct x57.2.1) x57.1 >>= fun r58 => ((fun (s50 : List (Key × PV) × List PV) (mo : MO) => moD mo >>= fun l => Res.val (l, s50.2)) x57.2 r58.2) >>= fun s59 => Res.val (r58.1, s59)) x60.2 >>= fun x61 => noX (ixP x60.1 x61.1) >>= fun z62 => Res.val (z62, x61.2)) s64 >>= fun x65 => (fun (s63 : List (Key × PV) × List PV) => Res.val (([] : List PV), s63)) x65.2 >>= fun xs66 => Res.val (x65.1 :: xs66.1, xs66.2)) s38 >>= fun x67 => mkT x67.1 >>= fun z68 => Res.val (z68, x67.2)) x69.2 >>= fun x70 => noX (addP x69.1 x70.1) >>= fun z71 => Res.val (z71, x70.2)) s30 >>= fun x80 => (fun (s72 : List (Key × PV) × List PV) => noX ((Res.val a_settings) >>= fun x76 => (((Res.val x22) >>= fun x73 => (Res.val (PV.int 1)) >>= fun x74 => addP x73 x74) >>= partP >>= fun i75 => Res.val (some i75)) >>= fun lo77 => (Res.val none) >>= fun hi78 => slP x76 lo77 hi78) >>= fun v79 => Res.val (v79, s72)) x80.2 >>= fun x81 => noX (addP x80.1 x81.1) >>= fun z82 => Res.val (z82, x81.2)) (s23, (l7 ++ [x29]))) >>= fun r85 => sized ((r85.2.2).length + 1) >>= fun _ => (fun (s84 : List (Key × PV) × List PV) (x83 : PV) => (Res.val (.nx (s84.1, (s84.2 ++ [x83]))))) r85.2 r85.1))) r24.1 r24.2) else (Res.val (.nx (a_pool, l7)))) fun s11 => ((Res.val (PV.lst s11.2)) >>= fun v88 => Res.val (.rt v88 [.dct s11.1]))))
  | _ => .stuck
theorem ok__law_wrong_settings (T : Top K mg) : FnOk P w K mg base (L2.CX P w) 3 T.f__law_wrong_settings T.d__law_wrong_settings ["pool", "many", "settings"] (spR K (clT T) (apR2 m__law_wrong_settings)) := by
  have G__law_take := ok__law_take (P := P) (w := w) (base := base) T
  refine fnR T.F__law_wrong_settings scLwrong_settings rfl taknR2 fun cdv A outer s H E hr mo qs hq => ?_
  match mo, qs, hq with
  | .lst _, [_, _], _ => exact .inl rfl
  | .ob _ _, [_, _], _ => exact .inl rfl
  | .dct a_pool, [a_many, a_settings], _ => exact .inr ⟨_, (pss_cons (ps_set (i := 3) scLwrong_settings.nd rfl (Or.inl rfl) (pe_lst (pa_cons (pe_op (op_addV K rfl) (pv 2) (pe_tup (pa_cons pe_int pa_nil))) pa_nil)))
      (pss_cons (ps_if (pt_cmpR op_gt (pe_callB (call_lenVK K rfl) (by rfl) T.z_len PySem.boot_len (pa_cons (pv 2) pa_nil)) pe_int (nomark _)) (pss_cons (ps_set (i := 4) scLwrong_settings.nd rfl (Or.inl rfl) (pe_callS G__law_take (hr.mono (by decide)) (by rfl) T.m__law_take T.F__law_take.kp T.b__law_take (fun σ => passAt (takes_of rfl rfl rfl rfl) σ) (pa_cons (pv 0) (pa_cons (pe_callB (call_lenVK K rfl) (by rfl) T.z_len PySem.boot_len (pa_cons (pv 2) pa_nil)) pa_nil))))
      (pss_cons (ps_expr (pe_bm PySem.F.plainAttrs_list PySem.F.slot_list_append PySem.F.type_list_append mt_append (pv 3) (pa_cons (pe_slice (sl_V K rfl) (pv 2) (po_some pe_int) po_none) pa_nil)))
      (pss_one (ps_expr (pe_bm PySem.F.plainAttrs_list PySem.F.slot_list_append PySem.F.type_list_append mt_append (pv 3) (pa_cons (pe_op (op_addV K rfl) (pe_op (op_addV K rfl) (pe_slice (sl_V K rfl) (pv 2) po_none (po_some (pv 4))) (pe_tup (pa_cons (pe_ix (ix_VK K rfl) (pe_lst (pa_cons pe_int (pa_cons (pe_un un_neg pe_int) (pa_cons (pe_op op_pow pe_int pe_int) pa_nil)))) (pe_callS G__law_take (hr.mono (by decide)) (by rfl) T.m__law_take T.F__law_take.kp T.b__law_take (fun σ => passAt (takes_of rfl rfl rfl rfl) σ) (pa_cons (pv 0) (pa_cons pe_int pa_nil))) (fun _ _ => rfl)) pa_nil))) (pe_slice (sl_V K rfl) (pv 2) (po_some (pe_op (op_addV K rfl) (pv 4) pe_int)) po_none)) pa_nil)))))) pss_nil)
      (pss_one (ps_ret (pv 3))))),
    _, run_one (run_assoc (run_setow (i := 3) (nw_lst (pl_cons (pu_op o2_add (Pur.vw (pu_var rfl)) (Pur.vw (pu_tup (pl_cons pu_int pl_nil)))) pl_nil)) rfl (wk_uns rfl) fun l7 => (run_assoc (run_seq (ρj := fun (s11 : List (Key × PV) × List PV) => [(.rf 0 (.dct s11.1)), (.fz a_many), (.fz a_settings), (.ow (.lst s11.2)), .un]) (run_one (run_if (ts_cmp (Pur.vw (pu_op o2_gt (Pur.vw (pu_cb1 b1_len (Pur.vw (pu_var rfl)))) (Pur.vw pu_int)))) (wk_uns rfl) (run_assoc (run_setE (i := 4) (ρs := (fun (s87 : List (Key × PV)) => [(.rf 0 (.dct s87)), (.fz a_many), (.fz a_settings), (.ow (.lst l7)), .un])) (s0 := a_pool) (ef_callR (i := 0) (sl := (fun (s12 : List (Key × PV)) => (.rf 0 (.dct s12)))) (get := (fun (s12 : List (Key × PV)) => MO.dct s12)) (put := (fun (s12 : List (Key × PV)) (mo : MO) => moD mo >>= fun l => Res.val l)) (fun _ => rfl) (fun _ => Or.inr ⟨_, rfl⟩) (fun s mo s' h => by cases mo <;> first | (cases h; rfl) | cases h) (el_cons (ef_pure (W := (fun c d _ H' => E c d H')) fun s13 => (pu_cb1 b1_len (Pur.vw (pu_var rfl)))) el_nil)) rfl (fun _ => rfl) fun x22 s23 => (run_assoc (run_append (i := 3) rfl (Or.inl rfl) (pu_sl (Pur.vw (pu_var rfl)) (pr_some (Pur.vw pu_int)) pr_none) (wk_uns rfl) fun x29 => (run_appendE (i := 3) (ρs := (fun (s86 : List (Key × PV) × List PV) => [(.rf 0 (.dct s86.1)), (.fz a_many), (.fz a_settings), (.ow (.lst s86.2)), (.fz x22)])) (s0 := (s23, (l7 ++ [x29]))) (sl := (fun (s84 : List (Key × PV) × List PV) => (.ow (.lst s84.2)))) (get := (fun (s84 : List (Key × PV) × List PV) => s84.2)) (fun _ => rfl) (fun _ => Or.inl rfl) (ef_op o2_add (ef_op o2_add (ef_pure (W := (fun c d _ H' => E c d H')) fun s32 => (pu_sl (Pur.vw (pu_var rfl)) pr_none (pr_some (Pur.vw (pu_var rfl))))) (ef_tup (el_cons (ef_op o2_ix (ef_pure (W := (fun c d _ H' => E c d H')) fun s40 => (pu_lst (pl_cons pu_int (pl_cons (pu_un o1_neg (Pur.vw pu_int)) (pl_cons (pu_op o2_pow (Pur.vw pu_int) (Pur.vw pu_int)) pl_nil))))) (ef_callR (i := 0) (sl := (fun (s50 : List (Key × PV) × List PV) => (.rf 0 (.dct s50.1)))) (get := (fun (s50 : List (Key × PV) × List PV) => MO.dct s50.1)) (put := (fun (s50 : List (Key × PV) × List PV) (mo : MO) => moD mo >>= fun l => Res.val (l, s50.2))) (fun _ => rfl) (fun _ => Or.inr ⟨_, rfl⟩) (fun s mo s' h => by cases mo <;> first | (cases h; rfl) | cases h) (el_cons (ef_pure (W := (fun c d _ H' => E c d H')) fun s51 => pu_int) el_nil))) el_nil))) (ef_pure (W := (fun c d _ H' => E c d H')) fun s72 => (pu_sl (Pur.vw (pu_var rfl)) (pr_some (Pur.vw (pu_op o2_add (Pur.vw (pu_var rfl)) (Pur.vw pu_int)))) pr_none))) rfl fun s84 x83 => (run_next (s := (s84.1, (s84.2 ++ [x83]))) (.keep (.keep (.keep (.keep (.drop .nil))))))))))) (run_skip (run_next (s := (a_pool, l7)) (.keep (.keep (.keep (.keep (.keep .nil))))))))) fun s11 => (run_wk (.keep (.keep (.keep (.ice (.keep .nil))))) (run_ret (pu_var rfl) rfl rfl (wk_uns rfl))))))), rfl⟩
def m__law_same : Nat → PV → PV → Res PV
  | 0, _, _ => .stuck
  | n + 1, a_actual, a_due => retF ((((Res.val a_due) >>= fun x1 => (Res.val (PV.ty "tuple")) >>= fun x2 => isiP x1 x2) >>= asB) >>= fun b3 => if b3 = true then ((((((Res.val a_actual) >>= fun x6 => (Res.val (PV.ty "tuple")) >>= fun x7 => isiP x6 x7) >>= asB) >>= fun b8 => Res.val (!b8)) >>= fun b9 => if b9 = true then Res.val true else ((((Res.val a_actual) >>= lenP) >>= fun x4 => ((Res.val a_due) >>= lenP) >>= fun x5 => neP x4 x5) >>= asB)) >>= fun b10 => if b10 = true then ((Res.val (PV.bl false)) >>= fun v11 => Res.val (.rt v11 [])) else (seqF (S1 := Unit) ((((Res.val a_due) >>= lenP) >>= rng1) >>= fun ps23 => forF (fun (x24 : PV) (s12 : Unit) => (fun x => Res.val x) x24 >>= fun (a13 : PV) => ((((((Res.val a_actual) >>= fun x14 => (Res.val a13) >>= fun x15 => ixP x14 x15) >>= fun x18 => ((Res.val a_due) >>= fun x16 => (Res.val a13) >>= fun x17 => ixP x16 x17) >>= fun x19 => (m__law_same n) x18 x19) >>= asB) >>= fun b20 => Res.val (!b20)) >>= fun b21 => if b21 = true then ((Res.val (PV.bl false)) >>= fun v22 => Res.val (.rt v22 [])) else (Res.val (.nx ())))) ps23 ()) fun s25 => ((Res.val (PV.bl true)) >>= fun v26 => Res.val (.rt v26 [])))) else ((((Res.val a_due) >>= fun x27 => (Res.val PV.non) >>= fun x28 => isP x27 x28) >>= asB) >>= fun b29 => if b29 = true then (((Res.val a_actual) >>= fun x30 => (Res.val PV.non) >>= fun x31 => isP x30 x31) >>= fun v32 => Res.val (.rt v32 [])) else ((((Res.val a_due) >>= fun x33 => (Res.val (PV.ty "str")) >>= fun x34 => isiP x33 x34) >>= asB) >>= fun b35 => if b35 = true then ((((Res.val a_actual) >>= fun x38 => (Res.val (PV.ty "str")) >>= fun x39 => isiP x38 x39) >>= asB >>= fun b40 => if b40 = true then ((Res.val a_actual) >>= fun x36 => (Res.val a_due) >>= fun x37 => eqP x36 x37) else Res.val (PV.bl false)) >>= fun v41 => Res.val (.rt v41 [])) else ((((Res.val a_due) >>= fun x42 => (Res.val (PV.ty "bool")) >>= fun x43 => isiP x42 x43) >>= asB) >>= fun b44 => if b44 = true then ((((Res.val a_actual) >>= fun x47 => (Res.val (PV.ty "bool")) >>= fun x48 => isiP x47 x48) >>= asB >>= fun b49 => if b49 = true then ((Res.val a_actual) >>= fun x45 => (Res.val a_due) >>= fun x46 => eqP x45 x46) else Res.val (PV.bl false)) >>= fun v50 => Res.val (.rt v50 [])) else ((((Res.val a_actual) >>= fun x57 => (Res.val (PV.ty "int")) >>= fun x58 => isiP x57 x58) >>= asB >>= fun b59 => if b59 = true then ((((Res.val a_actual) >>= fun x53 => (Res.val (PV.ty "bool")) >>= fun x54 => isiP x53 x54) >>= asB >>= fun b55 => Res.val (PV.bl (!b55))) >>= asB >>= fun b56 => if b56 = true then ((Res.val a_actual) >>= fun x51 => (Res.val a_due) >>= fun x52 => eqP x51 x52) else Res.val (PV.bl false)) else Res.val (PV.bl false)) >>= fun v60 => Res.val (.rt v60 []))))))
theorem ok__law_same (T : Top K mg) : ∀ n : Nat, FnOk P w K mg base (L2.CX P w) (1 + n) T.f__law_same T.d__law_same ["actual", "due"] (spP K (clT T) (ap2 (m__law_same n)))
  | 0 => fn_stuck stuck2
  | n + 1 => by
    have G__law_same := ok__law_same T n
    refine fnP (k := 1 + n) T.F__law_same scLsame rfl takn2 fun cdv A outer s H E hr qs hq => ?_
    match qs, hq with
    | [a_actual, a_due], _ => exact ⟨_, (pss_cons (ps_if (pt_val (pe_callB (call_isiV K rfl) (by rfl) T.z_isinstance (by decide +kernel) (pa_cons (pv 1) (pa_cons (pe_bltn (v := .ty "tuple") (by rfl) T.z_tuple (by decide +kernel) rfl) pa_nil)))) (pss_cons (ps_if (PW.pt (pw_or (pt_not (pt_val (pe_callB (call_isiV K rfl) (by rfl) T.z_isinstance (by decide +kernel) (pa_cons (pv 0) (pa_cons (pe_bltn (v := .ty "tuple") (by rfl) T.z_tuple (by decide +kernel) rfl) pa_nil))))) (pw_or1 (pt_cmpR (op_neV K rfl hr.units) (pe_callB (call_lenVK K rfl) (by rfl) T.z_len PySem.boot_len (pa_cons (pv 0) pa_nil)) (pe_callB (call_lenVK K rfl) (by rfl) T.z_len PySem.boot_len (pa_cons (pv 1) pa_nil)) (nomark _))))) (pss_one (ps_ret pe_bl)) pss_nil)
        (pss_cons (ps_for (passes_of rfl) rfl (pi_range1 (by rfl) T.z_range (pa_cons (pe_callB (call_lenVK K rfl) (by rfl) T.z_len PySem.boot_len (pa_cons (pv 1) pa_nil)) pa_nil)) (pg_name (i := 2) scLsame.nd rfl (Or.inl rfl)) (pss_one (ps_if (pt_not (pt_val (pe_callS G__law_same hr (by rfl) T.m__law_same T.F__law_same.kp T.b__law_same (fun σ => passAt (takes_of rfl rfl rfl rfl) σ) (pa_cons (pe_ix (ix_VK K rfl) (pv 0) (pv 2) (fun _ _ => rfl)) (pa_cons (pe_ix (ix_VK K rfl) (pv 1) (pv 2) (fun _ _ => rfl)) pa_nil))))) (pss_one (ps_ret pe_bl)) pss_nil)))
        (pss_one (ps_ret pe_bl)))) pss_nil)
        (pss_cons (ps_if (pt_cmpR op_isN (pv 1) pe_non (nomark _)) (pss_one (ps_ret (pe_cmpR op_isN (pv 0) pe_non (nomark _)))) pss_nil)
        (pss_cons (ps_if (pt_val (pe_callB (call_isiV K rfl) (by rfl) T.z_isinstance (by decide +kernel) (pa_cons (pv 1) (pa_cons (pe_bltn (v := .ty "str") (by rfl) T.z_str (by decide +kernel) rfl) pa_nil)))) (pss_one (ps_ret (pe_and (pe_callB (call_isiV K rfl) (by rfl) T.z_isinstance (by decide +kernel) (pa_cons (pv 0) (pa_cons (pe_bltn (v := .ty "str") (by rfl) T.z_str (by decide +kernel) rfl) pa_nil))) (pe_one (pe_cmpR (op_eqV K rfl hr.units) (pv 0) (pv 1) (nomark _)))))) pss_nil)
        (pss_cons (ps_if (pt_val (pe_callB (call_isiV K rfl) (by rfl) T.z_isinstance (by decide +kernel) (pa_cons (pv 1) (pa_cons (pe_bltn (v := .ty "bool") (by rfl) T.z_bool (by decide +kernel) rfl) pa_nil)))) (pss_one (ps_ret (pe_and (pe_callB (call_isiV K rfl) (by rfl) T.z_isinstance (by decide +kernel) (pa_cons (pv 0) (pa_cons (pe_bltn (v := .ty "bool") (by rfl) T.z_bool (by decide +kernel) rfl) pa_nil))) (pe_one (pe_cmpR (op_eqV K rfl hr.units) (pv 0) (pv 1) (nomark _)))))) pss_nil)
        (pss_one (ps_ret (pe_and (pe_callB (call_isiV K rfl) (by rfl) T.z_isinstance (by decide +kernel) (pa_cons (pv 0) (pa_cons (pe_bltn (v := .ty "int") (by rfl) T.z_int (by decide +kernel) rfl) pa_nil))) (pe_and (pe_not (pe_callB (call_isiV K rfl) (by rfl) T.z_isinstance (by decide +kernel) (pa_cons (pv 0) (pa_cons (pe_bltn (v := .ty "bool") (by rfl) T.z_bool (by decide +kernel) rfl) pa_nil)))) (pe_one (pe_cmpR (op_eqV K rfl hr.units) (pv 0) (pv 1) (nomark _))))))))))),
      _, run_one (run_assoc (run_if (ts_val (Pur.vw (pu_cb2 b2_isi (Pur.vw (pu_var rfl)) (Pur.vw pu_ty)))) (wk_uns rfl) (run_assoc (run_if (ts_or (ts_not (ts_val (Pur.vw (pu_cb2 b2_isi (Pur.vw (pu_var rfl)) (Pur.vw pu_ty))))) (ts_cmp (Pur.vw (pu_op o2_ne (Pur.vw (pu_cb1 b1_len (Pur.vw (pu_var rfl)))) (Pur.vw (pu_cb1 b1_len (Pur.vw (pu_var rfl)))))))) (wk_uns rfl) (run_ret pu_bl rfl rfl (wk_uns rfl)) (run_skip (run_assoc (run_seq (ρj := fun (s25 : Unit) => [(.fz a_actual), (.fz a_due), .un]) (run_for (ρs := fun (s12 : Unit) => [(.fz a_actual), (.fz a_due), .un]) (s0 := ()) (ρe := fun (s12 : Unit) (a13 : PV) => [(.fz a_actual), (.fz a_due), (.fz a13)]) (it_rng1 (Pur.vw (pu_cb1 b1_len (Pur.vw (pu_var rfl))))) (.keep (.keep (.keep .nil))) (wk_uns rfl) (fun s12 => (tg_name (i := 2) rfl (Or.inl rfl))) (fun a13 s12 => run_one (run_if (ts_not (ts_val (Pur.vw (pu_call2 (pu_op o2_ix (Pur.vw (pu_var rfl)) (Pur.vw (pu_var rfl))) (pu_op o2_ix (Pur.vw (pu_var rfl)) (Pur.vw (pu_var rfl))))))) (wk_uns rfl) (run_ret pu_bl rfl rfl (wk_uns rfl)) (run_skip (run_next (s := ()) (.keep (.keep (.drop .nil)))))))) fun s25 => (run_ret pu_bl rfl rfl (wk_uns rfl))))))) (run_skip (run_assoc (run_if (ts_cmp (Pur.vw (pu_op o2_is (Pur.vw (pu_var rfl)) (Pur.vw pu_non)))) (wk_uns rfl) (run_ret (pu_op o2_is (Pur.vw (pu_var rfl)) (Pur.vw pu_non)) rfl rfl (wk_uns rfl)) (run_skip (run_assoc (run_if (ts_val (Pur.vw (pu_cb2 b2_isi (Pur.vw (pu_var rfl)) (Pur.vw pu_ty)))) (wk_uns rfl) (run_ret (pu_andV (Pur.vw (pu_cb2 b2_isi (Pur.vw (pu_var rfl)) (Pur.vw pu_ty))) (pu_op o2_eq (Pur.vw (pu_var rfl)) (Pur.vw (pu_var rfl)))) rfl rfl (wk_uns rfl)) (run_skip (run_assoc (run_if (ts_val (Pur.vw (pu_cb2 b2_isi (Pur.vw (pu_var rfl)) (Pur.vw pu_ty)))) (wk_uns rfl) (run_ret (pu_andV (Pur.vw (pu_cb2 b2_isi (Pur.vw (pu_var rfl)) (Pur.vw pu_ty))) (pu_op o2_eq (Pur.vw (pu_var rfl)) (Pur.vw (pu_var rfl)))) rfl rfl (wk_uns rfl)) (run_skip (run_ret (pu_andV (Pur.vw (pu_cb2 b2_isi (Pur.vw (pu_var rfl)) (Pur.vw pu_ty))) (pu_andV (Pur.vw (pu_notV (Pur.vw (pu_cb2 b2_isi (Pur.vw (pu_var rfl)) (Pur.vw pu_ty))))) (pu_op o2_eq (Pur.vw (pu_var rfl)) (Pur.vw (pu_var rfl))))) rfl rfl (wk_uns rfl)))))))))))))), rfl⟩
def m_switch_places (a_many : PV) : Res PV := retF ((((((Res.val a_many) >>= rng1) >>= fun ps9 => sized ps9.length >>= fun _ => lcF (fun x => Res.val x) (fun (a1 : PV) => (Res.val true)) (fun (a1 : PV) => (((Res.val a1) >>= fun x2 => (Res.val (PV.int 2)) >>= fun x3 => modP x2 x3) >>= fun x6 => ((Res.val a_many) >>= fun x4 => (Res.val (PV.int 1)) >>= fun x5 => subP x4 x5) >>= fun x7 => (Res.val (PV.int 2)) >>= fun x8 => tupRg3 x6 x7 x8)) ps9) >>= fun ps10 => Res.val (PV.lst ps10)) >>= tupleP) >>= fun v11 => Res.val (.rt v11 []))
theorem ok_switch_places (T : Top K mg) : FnOk P w K mg base (L2.CX P w) 1 T.f_switch_places T.d_switch_places ["many"] (spP K (clT T) (ap1 m_switch_places)) := by
  refine fnP T.F_switch_places scswitch_places rfl takn1 fun cdv A outer s H E hr qs hq => ?_
  match qs, hq with
  | [a_many], _ => exact ⟨_, (pss_one (ps_ret (pe_callTy (call_tupleV K rfl) (by rfl) T.z_tuple (by decide +kernel) (pa_cons (pe_lc (own := [("layer", 1)]) (g := gName 1) (tt := tYes) rfl scswitch_places.nd (pi_range1 (by rfl) T.z_range (pa_cons (pv 0) pa_nil)) (blkOk_by (own := [("layer", 1)]) (N := ["many", "layer"]) (sc := defScope s_switch_places) (by decide +kernel)) (fun _ _ _ _ _ => (pg_name (i := 1) scswitch_places.nd rfl (Or.inl rfl))) (fun _ _ _ _ _ => pts_nil) (fun _ _ _ _ _ => (pe_tupRg3 rfl (by rfl) T.z_tuple (by rfl) T.z_range (pe_op op_modN (pv 1) pe_int) (pe_op op_sub (pv 0) pe_int) pe_int))) pa_nil)))),
    _, run_one (run_ret (pu_cb1 b1_tuple (Pur.vw (New.pur (nw_lc (ρe := fun (a1 : PV) => [(.fz a_many), (.fz a1)]) (Iter.view (it_rng1 (Pur.vw (pu_var rfl)))) rfl (by decide) (tg_name (i := 1) rfl (Or.inr (by decide))) (fun a1 => ts_yes) (fun a1 => (pu_tupRg3 (pu_op o2_mod (Pur.vw (pu_var rfl)) (Pur.vw pu_int)) (pu_op o2_sub (Pur.vw (pu_var rfl)) (Pur.vw pu_int)) pu_int)))))) rfl rfl (wk_uns rfl)), rfl⟩
def m__exchanged (a_row a_switches : PV) : Res PV := retF (((Res.val a_row) >>= asSq) >>= fun l1 => (seqF (S1 := List PV) (((Res.val a_switches) >>= asSq) >>= fun ps26 => forF (fun (x27 : PV) (s2 : List PV) => un2 x27 >>= fun (a3 : PV × PV) => ((((Res.val a3.2) >>= fun x4 => (Res.val (PV.int 1)) >>= fun x5 => eqP x4 x5) >>= asB) >>= fun b6 => if b6 = true then (((((Res.val a_row) >>= fun x13 => ((Res.val a3.1) >>= fun x11 => (Res.val (PV.int 1)) >>= fun x12 => addP x11 x12) >>= fun x14 => ixP x13 x14) >>= fun x15 => (((Res.val a_row) >>= fun x7 => (Res.val a3.1) >>= fun x8 => ixP x7 x8) >>= fun x9 => (Res.val []) >>= fun xs10 => Res.val (x9 :: xs10)) >>= fun xs16 => Res.val (x15 :: xs16)) >>= mkT) >>= fun x19 => un2 x19 >>= fun (y20 : PV × PV) => noX (Res.val a3.1) >>= fun k21 => setL s2 k21 y20.1 >>= fun qs23 => noX ((Res.val a3.1) >>= fun x17 => (Res.val (PV.int 1)) >>= fun x18 => addP x17 x18) >>= fun k22 => setL qs23 k22 y20.2 >>= fun qs24 => (Res.val (.nx qs24))) else (Res.val (.nx s2)))) ps26 l1) fun s28 => (((Res.val (PV.lst s28)) >>= tupleP) >>= fun v29 => Res.val (.rt v29 []))))
theorem ok__exchanged (T : Top K mg) : FnOk P w K mg base (L2.CX P w) 1 T.f__exchanged T.d__exchanged ["row", "switches"] (spP K (clT T) (ap2 m__exchanged)) := by
  refine fnP T.F__exchanged sc_exchanged rfl takn2 fun cdv A outer s H E hr qs hq => ?_
  match qs, hq with
  | [a_row, a_switches], _ => exact ⟨_, (pss_cons (ps_set (i := 2) sc_exchanged.nd rfl (Or.inl rfl) (pe_callTy (call_listV K rfl) (by rfl) T.z_list (by decide +kernel) (pa_cons (pv 0) pa_nil)))
      (pss_cons (ps_for (passes_of rfl) rfl (pi_seqV K rfl (pv 1)) (pg_tup (by rfl) (pgs_cons (pg_name (i := 3) sc_exchanged.nd rfl (Or.inl rfl)) (pgs_cons (pg_name (i := 4) sc_exchanged.nd rfl (Or.inl rfl)) pgs_nil))) (pss_one (ps_if (pt_cmpR (op_eqV K rfl hr.units) (pv 4) (pe_gint rfl T.n_CROSSED) (nomark _)) (pss_one (ps_asg (pe_tup (pa_cons (pe_ix (ix_VK K rfl) (pv 0) (pe_op (op_addV K rfl) (pv 3) pe_int) (fun _ _ => rfl)) (pa_cons (pe_ix (ix_VK K rfl) (pv 0) (pv 3) (fun _ _ => rfl)) pa_nil))) (pg_tup (by rfl) (pgs_cons (pg_sub (pv 2) (pv 3) set_list) (pgs_cons (pg_sub (pv 2) (pe_op (op_addV K rfl) (pv 3) pe_int) set_list) pgs_nil))))) pss_nil)))
      (pss_one (ps_ret (pe_callTy (call_tupleV K rfl) (by rfl) T.z_tuple (by decide +kernel) (pa_cons (pv 2) pa_nil)))))),
    _, run_one (run_assoc (run_setow (i := 2) (nw_list (Pur.vw (pu_var rfl))) rfl (wk_uns rfl) fun l1 => (run_assoc (run_seq (ρj := fun (s28 : List PV) => [(.fz a_row), (.fz a_switches), (.ow (.lst s28)), .un, .un]) (run_for (ρs := fun (s2 : List PV) => [(.fz a_row), (.fz a_switches), (.ow (.lst s2)), .un, .un]) (s0 := l1) (ρe := fun (s2 : List PV) (a3 : PV × PV) => [(.fz a_row), (.fz a_switches), (.ow (.lst s2)), (.fz a3.1), (.fz a3.2)]) (it_seq (pu_var rfl)) (.keep (.keep (.keep (.keep (.keep .nil))))) (wk_uns rfl) (fun s2 => (tg_2 (i := 3) (j := 4) rfl rfl (Or.inl rfl))) (fun a3 s2 => run_one (run_if (ts_cmp (Pur.vw (pu_op o2_eq (Pur.vw (pu_var rfl)) (Pur.vw pu_int)))) (wk_uns rfl) (run_set2 (i := 2) rfl (pu_tup (pl_cons (pu_op o2_ix (Pur.vw (pu_var rfl)) (Pur.vw (pu_op o2_add (Pur.vw (pu_var rfl)) (Pur.vw pu_int)))) (pl_cons (pu_op o2_ix (Pur.vw (pu_var rfl)) (Pur.vw (pu_var rfl))) pl_nil))) (Pur.vw (pu_var rfl)) (fun qs25 => (Pur.vw (pu_op o2_add (Pur.vw (pu_var rfl)) (Pur.vw pu_int)))) (wk_uns rfl) fun qs24 => (run_next (s := qs24) (.keep (.keep (.keep (.drop (.drop .nil))))))) (run_skip (run_next (s := s2) (.keep (.keep (.keep (.drop (.drop .nil)))))))))) fun s28 => (run_ret (pu_cb1 b1_tuple (vw_own rfl)) rfl rfl (wk_uns rfl)))))), rfl⟩
def m_settings_for (a_places : PV) : Res PV := retF (((Res.val (unK a_places)) >>= lenP) >>= fun x1 => (((((Res.val (unK a_places)) >>= sortPT) >>= fun x6 => (((Res.val x1) >>= partP >>= fun i2 => Res.val ((0 : Int), i2)) >>= fun x4 => rgL x4.1 x4.2 >>= fun l5 => Res.val (PV.lst l5)) >>= fun x7 => neP x6 x7) >>= asB) >>= fun b8 => if b8 = true then (Res.exc "BadStatement") else ((((((Res.val x1) >>= rng1) >>= fun ps12 => sized ps12.length >>= fun _ => lcF (fun x => Res.val x) (fun (a9 : PV) => (Res.val true)) (fun (a9 : PV) => ((Res.val a_places) >>= KT.asKt >>= fun ps10 => (Res.val a9) >>= fun k11 => idxQ ps10 k11)) ps12) >>= fun ps13 => Res.val (PV.lst ps13)) >>= tupleP) >>= fun x14 => (((Res.val []) >>= mkN) >>= fun l15 => (seqF (S1 := PV × List PV) ((((Res.val x1) >>= m_switch_places) >>= asSq) >>= fun ps39 => forF (fun (x40 : PV) (s17 : PV × List PV) => (fun x => Res.val x) x40 >>= fun (a18 : PV) => (((((Res.val a18) >>= asSq) >>= fun ps29 => sized ps29.length >>= fun _ => lcF (fun x => Res.val x) (fun (a19 : PV) => (Res.val true)) (fun (a19 : PV) => (((((Res.val s17.1) >>= fun x20 => (Res.val a19) >>= fun x21 => ixP x20 x21) >>= fun x26 => ((Res.val s17.1) >>= fun x24 => ((Res.val a19) >>= fun x22 => (Res.val (PV.int 1)) >>= fun x23 => addP x22 x23) >>= fun x25 => ixP x24 x25) >>= fun x27 => gtP x26 x27) >>= asB) >>= fun b28 => if b28 = true then (Res.val (PV.int 1)) else (Res.val (PV.int 0)))) ps29) >>= fun ps30 => Res.val (PV.lst ps30)) >>= fun x31 => (((Res.val s17.1) >>= fun x35 => (((Res.val a18) >>= fun x32 => (Res.val x31) >>= fun x33 => zpL2 x32 x33) >>= fun ps34 => Res.val (PV.tup ps34)) >>= fun x36 => m__exchanged x35 x36) >>= fun x37 => ((Res.val x31) >>= asSq >>= fun xs38 => sized (s17.2.length + xs38.length) >>= fun _ => (Res.val (.nx (x37, (s17.2 ++ xs38)))))))) ps39 (x14, l15)) fun s41 => (((Res.val (PV.lst s41.2)) >>= tupleP) >>= fun v42 => Res.val (.rt v42 [])))))))
theorem ok_settings_for (T : Top K mg) : FnOk P w K mg base (L2.CX P w) 2 T.f_settings_for T.d_settings_for ["places"] (spP K (clT T) (ap1 m_settings_for)) := by
  have G_switch_places := ok_switch_places (P := P) (w := w) (base := base) T
  have G__exchanged := ok__exchanged (P := P) (w := w) (base := base) T
  refine fnP T.F_settings_for scsettings_for rfl takn1 fun cdv A outer s H E hr qs hq => ?_
  match qs, hq with
  | [a_places], _ => exact ⟨_, (pss_cons (ps_set (i := 1) scsettings_for.nd rfl (Or.inl rfl) (pe_callB (call_lenVK K rfl) (by rfl) T.z_len PySem.boot_len (pa_cons (pv 0) pa_nil)))
      (pss_cons (ps_if (pt_cmpR (op_neV K rfl hr.units) (pe_callB (cr_sortedIT K rfl) (by rfl) T.z_sorted (by decide +kernel) (pa_cons (pv 0) pa_nil)) (pe_listRg rfl (by rfl) T.z_list (prg_1 (by rfl) T.z_range (pv 1))) (nomark _)) (pss_one (ps_raise rfl (takes_of rfl rfl rfl rfl) (pmk_own0 PySem.F.excBase_ValueError T.x_BadStatement T.m_BadStatement T.kc_BadStatement (raises_own T.s_BadStatement T.t_BadStatement) rfl))) pss_nil)
      (pss_cons (ps_set (i := 2) scsettings_for.nd rfl (Or.inr rfl) (pe_callTy (call_tupleV K rfl) (by rfl) T.z_tuple (by decide +kernel) (pa_cons (pe_lc (own := [("place", 3)]) (g := gName 3) (tt := tYes) rfl scsettings_for.nd (pi_range1 (by rfl) T.z_range (pa_cons (pv 1) pa_nil)) (blkOk_by (own := [("place", 3)]) (N := ["places", "many", "goals", "place", "settings", "lower_places", "layer", "at"]) (sc := defScope s_settings_for) (by decide +kernel)) (fun _ _ _ _ _ => (pg_name (i := 3) scsettings_for.nd rfl (Or.inl rfl))) (fun _ _ _ _ _ => pts_nil) (fun _ _ _ _ _ => (KT.pe_tindex K rfl (pv 0) (pa_cons (pv 3) pa_nil)))) pa_nil)))
      (pss_cons (ps_set (i := 4) scsettings_for.nd rfl (Or.inl rfl) (pe_lst pa_nil))
      (pss_cons (ps_for (passes_of rfl) rfl (pi_seqV K rfl (pe_callS G_switch_places (hr.mono (by decide)) (by rfl) T.m_switch_places T.F_switch_places.kp T.b_switch_places (fun σ => passAt (takes_of rfl rfl rfl rfl) σ) (pa_cons (pv 1) pa_nil))) (pg_name (i := 5) scsettings_for.nd rfl (Or.inl rfl)) (pss_cons (ps_setLc (i := 6) (own := [("at", 7)]) (g := gName 7) (tt := tYes) rfl scsettings_for.nd rfl rfl (sw_true rfl rfl rfl (by decide +kernel)) (pi_seqV K rfl (pv 5)) (blkOk_by (own := [("at", 7)]) (N := ["places", "many", "goals", "place", "settings", "lower_places", "layer", "at"]) (sc := defScope s_settings_for) (by decide +kernel)) (fun _ _ _ _ _ => (pg_name (i := 7) scsettings_for.nd rfl (Or.inl rfl))) (fun _ _ _ _ _ => pts_nil) (fun _ _ _ _ _ => (pe_ifExp (pt_cmpR op_gt (pe_ix (ix_VK K rfl) (pv 2) (pv 7) (fun _ _ => rfl)) (pe_ix (ix_VK K rfl) (pv 2) (pe_op (op_addV K rfl) (pv 7) pe_int) (fun _ _ => rfl)) (nomark _)) (pe_gint rfl T.n_CROSSED) (pe_gint rfl T.n_STRAIGHT))))
      (pss_cons (ps_set (i := 2) scsettings_for.nd rfl (Or.inr rfl) (pe_callS G__exchanged (hr.mono (by decide)) (by rfl) T.m__exchanged T.F__exchanged.kp T.b__exchanged (fun σ => passAt (takes_of rfl rfl rfl rfl) σ) (pa_cons (pv 2) (pa_cons (pe_tupGv rfl (pg_zip2V K rfl rfl (by rfl) T.z_zip (pa_cons (pv 5) (pa_cons (pv 6) pa_nil))) (by rfl) T.z_tuple (by decide +kernel)) pa_nil))))
      (pss_one (ps_expr (pe_bm PySem.F.plainAttrs_list PySem.F.slot_list_extend PySem.F.type_list_extend (mt_extA K rfl) (pv 4) (pa_cons (pv 6) pa_nil)))))))
      (pss_one (ps_ret (pe_callTy (call_tupleV K rfl) (by rfl) T.z_tuple (by decide +kernel) (pa_cons (pv 4) pa_nil))))))))),
    _, run_one (run_assoc (run_set (i := 1) (pu_cb1 b1_len (Pur.vw (pu_varK rfl))) rfl (wk_uns rfl) fun x1 => (run_assoc (run_if (ts_cmp (Pur.vw (pu_op o2_ne (Pur.vw (pu_cb1 b1_sortT (Pur.vw (pu_varK rfl)))) (Pur.vw (New.pur' (nw_listRg (rg_1 (Pur.vw (pu_var rfl))))))))) (wk_uns rfl) (run_raise T.ce_BadStatement (wk_uns rfl)) (run_skip (run_assoc (run_set (i := 2) (pu_cb1 b1_tuple (Pur.vw (New.pur (nw_lc (ρe := fun (a9 : PV) => [(.fz a_places), (.fz x1), .un, (.fz a9), .un, .un, .un, .un]) (Iter.view (it_rng1 (Pur.vw (pu_var rfl)))) rfl (by decide) (tg_name (i := 3) rfl (Or.inr (by decide))) (fun a9 => ts_yes) (fun a9 => (KT.pu_tindex (Pur.vw (pu_var rfl)) (pu_var rfl))))))) rfl (wk_uns rfl) fun x14 => (run_assoc (run_setow (i := 4) (nw_lst pl_nil) rfl (wk_uns rfl) fun l15 => (run_assoc (run_seq (ρj := fun (s41 : PV × List PV) => [(.fz a_places), (.fz x1), (.fz s41.1), .un, (.ow (.lst s41.2)), .un, .un, .un]) (run_for (ρs := fun (s17 : PV × List PV) => [(.fz a_places), (.fz x1), (.fz s17.1), .un, (.ow (.lst s17.2)), .un, .un, .un]) (s0 := (x14, l15)) (ρe := fun (s17 : PV × List PV) (a18 : PV) => [(.fz a_places), (.fz x1), (.fz s17.1), .un, (.ow (.lst s17.2)), (.fz a18), .un, .un]) (it_seq (pu_call1 (pu_var rfl))) (.keep (.keep (.keep (.keep (.keep (.keep (.keep (.keep .nil)))))))) (wk_uns rfl) (fun s17 => (tg_name (i := 5) rfl (Or.inl rfl))) (fun a18 s17 => run_one (run_assoc (run_set (i := 6) (New.pur (nw_lc (ρe := fun (a19 : PV) => [(.fz a_places), (.fz x1), (.fz s17.1), .un, (.ow (.lst s17.2)), (.fz a18), .un, (.fz a19)]) (Iter.view (it_seq (pu_var rfl))) rfl (by decide) (tg_name (i := 7) rfl (Or.inr (by decide))) (fun a19 => ts_yes) (fun a19 => (pu_if (ts_cmp (Pur.vw (pu_op o2_gt (Pur.vw (pu_op o2_ix (Pur.vw (pu_var rfl)) (Pur.vw (pu_var rfl)))) (Pur.vw (pu_op o2_ix (Pur.vw (pu_var rfl)) (Pur.vw (pu_op o2_add (Pur.vw (pu_var rfl)) (Pur.vw pu_int)))))))) pu_int pu_int)))) rfl (wk_uns rfl) fun x31 => (run_assoc (run_set (i := 2) (pu_call2 (pu_var rfl) (pu_tupGv (gm_zip2 (Pur.vw (pu_var rfl)) (Pur.vw (pu_var rfl))))) rfl (wk_uns rfl) fun x37 => (run_extend (i := 4) rfl (Or.inl rfl) (Pur.vw (pu_var rfl)) (wk_uns rfl) fun xs38 => (run_next (s := (x37, (s17.2 ++ xs38))) (.keep (.keep (.keep (.keep (.keep (.drop (.drop (.keep .nil)))))))))))))))) fun s41 => (run_ret (pu_cb1 b1_tuple (vw_own rfl)) rfl rfl (wk_uns rfl))))))))))))), rfl⟩
def m__law_wrong_orders (mo : MO) (a_order : PV) : Res (PV × MO) := match mo with
  | .dct a_pool => retR (((Res.val a_order) >>= lenP) >>= fun x1 => (((((Res.val a_order) >>= fun x12 => ((((Res.val x1) >>= fun x8 => (Res.val (PV.int 1)) >>= fun x9 => addP x8 x9) >>= fun x10 => (Res.val []) >>= fun xs11 => Res.val (x10 :: xs11)) >>= mkT) >>= fun x13 => addP x12 x13) >>= fun x14 => (((Res.val a_order) >>= fun x4 => ((((Res.val (PV.int 1)) >>= negP) >>= fun x2 => (Res.val []) >>= fun xs3 => Res.val (x2 :: xs3)) >>= mkT) >>= fun x5 => addP x4 x5) >>= fun x6 => (Res.val []) >>= fun xs7 => Res.val (x6 :: xs7)) >>= fun xs15 => Res.val (x14 :: xs15)) >>= mkN) >>= fun l16 => (seqF (S1 := List (Key × PV) × List PV) ((((Res.val x1) >>= fun x17 => (Res.val (PV.int 0)) >>= fun x18 => gtP x17 x18) >>= asB) >>= fun b19 => if b19 = true then (noX ((fun (s21 : List (Key × PV)) => (fun (s25 : List (Key × PV)) => (fun (s22 : List (Key × PV)) => noX (Res.val x1) >>= fun v23 => Res.val (v23, s22)) s25 >>= fun x26 => (fun (s24 : List (Key × PV)) => Res.val (([] : List PV), s24)) x26.2 >>= fun xs27 => Res.val (x26.1 :: xs27.1, xs27.2)) s21 >>= fun x28 => (apR1 m__law_take) (MO.dct x28.2) x28.1 >>= fun r29 => ((fun (s21 : List (Key × PV)) (mo : MO) => moD mo >>= fun l => Res.val l) x28.2 r29.2) >>= fun s30 => Res.val (r29.1, s30)) a_pool) >>= fun r33 => (fun (x31 : PV) (s32 : List (Key × PV)) => (((Res.val a_order) >>= fun x38 => ((((Res.val a_order) >>= fun x34 => (Res.val x31) >>= fun x35 => ixP x34 x35) >>= fun x36 => (Res.val []) >>= fun xs37 => Res.val (x36 :: xs37)) >>= mkT) >>= fun x39 => addP x38 x39) >>= fun x40 => sized (l16.length + 1) >>= fun _ => (noX ((fun (s41 : List (Key × PV) × List PV) => (fun (s42 : List (Key × PV) × List PV) => (fun (s43 : List (Key × PV) × List PV) => noX ((Res.val a_order) >>= fun x45 => (Res.val none) >>= fun lo46 => ((Res.val x31) >>= partP >>= fun i44 => Res.val (some i44)) >>= fun hi47 => slP x45 lo46 hi47) >>= fun v48 => Res.val (v48, s43)) s42 >>= fun x86 => (fun (s49 : List (Key × PV) × List PV) => (fun (s81 : List (Key × PV) × List PV) => (fun (s50 : List (Key × PV) × List PV) => (fun (s51 : List (Key × PV) × List PV) => noX (((Res.val x1) >>= fun x64 => (((Res.val (PV.int 1)) >>= negP) >>= fun x62 => ((((Res.val a_order) >>= fun x56 => (Res.val x31) >>= fun x57 => ixP x56 x57) >>= fun x58 => (Res.val x1) >>= fun x59 => subP x58 x59) >>= fun x60 => (((Res.val (PV.int 10)) >>= fun x52 => (Res.val (PV.int 20)) >>= fun x53 => powP x52 x53) >>= fun x54 => (Res.val []) >>= fun xs55 => Res.val (x54 :: xs55)) >>= fun xs61 => Res.val (x60 :: xs61)) >>= fun xs63 => Res.val (x62 :: xs63)) >>= fun xs65 => Res.val (x64 :: xs65)) >>= mkL) >>= fun v66 => Res.val (v66, s51)) s50 >>= fun x77 => (fun (s67 : List (Key × PV) × List PV) => (fun (s71 : List (Key × PV) × List PV) => (fun (s68 : List (Key × PV) × List PV) => noX (Res.val (PV.int 4)) >>= fun v69 => Res.val (v69, s68)) s71 >>= fun x72 => (fun (s70 : List (Key × PV) × List PV) => Res.val (([] : List PV), s70)) x72.2 >>= fun xs73 => Res.val (x72.1 :: xs73.1, xs73.2)) s67 >>= fun x74 => (apR1 m__law_take) (MO.dct x74.2.1) x74.1 >>= fun r75 => ((fun (s67 : List (Key × PV) × List PV) (mo : MO) => moD mo >>= fun l => Res.val (l, s67.2)) x74.2 r75.2) >>= fun s76 => Res.val (r75.1, s76)) x77.2 >>= fun x78 => noX (ixP x77.1 x78.1) >>= fun z79 => Res.val (z79, x78.2)) s81 >>= fun x82 => (fun (s80 : List (Key × PV) × List PV) => Res.val (([] : List PV), s80)) x82.2 >>= fun xs83 => Res.val (x82.1 :: xs83.1, xs83.2)) s49 >>= fun x84 => mkT x84.1 >>= fun z85 => Res.val (z85, x84.2)) x86.2 >>= fun x87 => noX (addP x86.1 x87.1) >>= fun z88 => Res.val (z88, x87.2)) s41 >>= fun x97 => (fun (s89 : List (Key × PV) × List PV) => noX ((Res.val a_order) >>= fun x93 => (((Res.val x31) >>= fun x90 => (Res.val (PV.int 1)) >>= fun x91 => addP x90 x91) >>= partP >>= fun i92 => Res.val (some i92)) >>= fun lo94 => (Res.val none) >>= fun hi95 => slP x93 lo94 hi95) >>= fun v96 => Res.val (v96, s89)) x97.2 >>= fun x98 => noX (addP x97.1 x98.1) >>= fun z99 => Res.val (z99, x98.2)) (s32, (l16 ++ [x40]))) >>= fun r102 => sized ((r102.2.2).length + 1) >>= fun _ => (fun (s101 : List (Key × PV) × List PV) (x100 : PV) => (Res.val (.nx (s101.1, (s101.2 ++ [x100]))))) r102.2 r102.1))) r33.1 r33.2) else (Res.val (.nx (a_pool, l16)))) fun s20 => (seqF (S1 := List (Key × PV) × List PV) ((((Res.val x1) >>= fun x105 => (Res.val (PV.int 1)) >>= fun x106 => gtP x105 x106) >>= asB) >>= fun b107 => if b107 = true then (noX ((fun (s109 : List (Key × PV)) => (fun (s113 : List (Key × PV)) => (fun (s110 : List (Key × PV)) => noX (Res.val x1) >>= fun v111 => Res.val (v111, s110)) s113 >>= fun x114 => (fun (s112 : List (Key × PV)) => Res.val (([] : List PV), s112)) x114.2 >>= fun xs115 => Res.val (x114.1 :: xs115.1, xs115.2)) s109 >>= fun x116 => (apR1 m__law_take) (MO.dct x116.2) x116.1 >>= fun r117 => ((fun (s109 : List (Key × PV)) (mo : MO) => moD mo >>= fun l => Res.val l) x116.2 r117.2) >>= fun s118 => Res.val (r117.1, s118)) s20.1) >>= fun r121 => (fun (x119 : PV) (s120 : List (Key × PV)) => (((((Res.val a_order) >>= fun x123 => (Res.val none) >>= fun lo124 => ((Res.val x119) >>= partP >>= fun i122 => Res.val (some i122)) >>= fun hi125 => slP x123 lo124 hi125) >>= fun x132 => ((((Res.val a_order) >>= fun x128 => ((Res.val x119) >>= fun x126 => (Res.val (PV.int 1)) >>= fun x127 => subP x126 x127) >>= fun x129 => ixP x128 x129) >>= fun x130 => (Res.val []) >>= fun xs131 => Res.val (x130 :: xs131)) >>= mkT) >>= fun x133 => addP x132 x133) >>= fun x140 => ((Res.val a_order) >>= fun x137 => (((Res.val x119) >>= fun x134 => (Res.val (PV.int 1)) >>= fun x135 => addP x134 x135) >>= partP >>= fun i136 => Res.val (some i136)) >>= fun lo138 => (Res.val none) >>= fun hi139 => slP x137 lo138 hi139) >>= fun x141 => addP x140 x141) >>= fun x142 => sized (s20.2.length + 1) >>= fun _ => (Res.val (.nx (s120, (s20.2 ++ [x142])))))) r121.1 r121.2) else (Res.val (.nx (s20.1, s20.2)))) fun s108 => ((Res.val (PV.lst s108.2)) >>= fun v144 => Res.val (.rt v144 [.dct s108.1]))))))
  | _ => .stuck
theorem ok__law_wrong_orders (T : Top K mg) : FnOk P w K mg base (L2.CX P w) 3 T.f__law_wrong_orders T.d__law_wrong_orders ["pool", "order"] (spR K (clT T) (apR1 m__law_wrong_orders)) := by
  have G__law_take := ok__law_take (P := P) (w := w) (base := base) T
  refine fnR T.F__law_wrong_orders scLwrong_orders rfl taknR1 fun cdv A outer s H E hr mo qs hq => ?_
  match mo, qs, hq with
  | .lst _, [_], _ => exact .inl rfl
  | .ob _ _, [_], _ => exact .inl rfl
  | .dct a_pool, [a_order], _ => exact .inr ⟨_, (pss_cons (ps_set (i := 2) scLwrong_orders.nd rfl (Or.inl rfl) (pe_callB (call_lenVK K rfl) (by rfl) T.z_len PySem.boot_len (pa_cons (pv 1) pa_nil)))
      (pss_cons (ps_set (i := 3) scLwrong_orders.nd rfl (Or.inl rfl) (pe_lst (pa_cons (pe_op (op_addV K rfl) (pv 1) (pe_tup (pa_cons (pe_op (op_addV K rfl) (pv 2) pe_int) pa_nil))) (pa_cons (pe_op (op_addV K rfl) (pv 1) (pe_tup (pa_cons (pe_un un_neg pe_int) pa_nil))) pa_nil))))
      (pss_cons (ps_if (pt_cmpR op_gt (pv 2) pe_int (nomark _)) (pss_cons (ps_set (i := 4) scLwrong_orders.nd rfl (Or.inl rfl) (pe_callS G__law_take (hr.mono (by decide)) (by rfl) T.m__law_take T.F__law_take.kp T.b__law_take (fun σ => passAt (takes_of rfl rfl rfl rfl) σ) (pa_cons (pv 0) (pa_cons (pv 2) pa_nil))))
      (pss_cons (ps_expr (pe_bm PySem.F.plainAttrs_list PySem.F.slot_list_append PySem.F.type_list_append mt_append (pv 3) (pa_cons (pe_op (op_addV K rfl) (pv 1) (pe_tup (pa_cons (pe_ix (ix_VK K rfl) (pv 1) (pv 4) (fun _ _ => rfl)) pa_nil))) pa_nil)))
      (pss_one (ps_expr (pe_bm PySem.F.plainAttrs_list PySem.F.slot_list_append PySem.F.type_list_append mt_append (pv 3) (pa_cons (pe_op (op_addV K rfl) (pe_op (op_addV K rfl) (pe_slice (sl_V K rfl) (pv 1) po_none (po_some (pv 4))) (pe_tup (pa_cons (pe_ix (ix_VK K rfl) (pe_lst (pa_cons (pv 2) (pa_cons (pe_un un_neg pe_int) (pa_cons (pe_op op_sub (pe_ix (ix_VK K rfl) (pv 1) (pv 4) (fun _ _ => rfl)) (pv 2)) (pa_cons (pe_op op_pow pe_int pe_int) pa_nil))))) (pe_callS G__law_take (hr.mono (by decide)) (by rfl) T.m__law_take T.F__law_take.kp T.b__law_take (fun σ => passAt (takes_of rfl rfl rfl rfl) σ) (pa_cons (pv 0) (pa_cons pe_int pa_nil))) (fun _ _ => rfl)) pa_nil))) (pe_slice (sl_V K rfl) (pv 1) (po_some (pe_op (op_addV K rfl) (pv 4) pe_int)) po_none)) pa_nil)))))) pss_nil)
      (pss_cons (ps_if (pt_cmpR op_gt (pv 2) pe_int (nomark _)) (pss_cons (ps_set (i := 4) scLwrong_orders.nd rfl (Or.inl rfl) (pe_callS G__law_take (hr.mono (by decide)) (by rfl) T.m__law_take T.F__law_take.kp T.b__law_take (fun σ => passAt (takes_of rfl rfl rfl rfl) σ) (pa_cons (pv 0) (pa_cons (pv 2) pa_nil))))
      (pss_one (ps_expr (pe_bm PySem.F.plainAttrs_list PySem.F.slot_list_append PySem.F.type_list_append mt_append (pv 3) (pa_cons (pe_op (op_addV K rfl) (pe_op (op_addV K rfl) (pe_slice (sl_V K rfl) (pv 1) po_none (po_some (pv 4))) (pe_tup (pa_cons (pe_ix (ix_VK K rfl) (pv 1) (pe_op op_sub (pv 4) pe_int) (fun _ _ => rfl)) pa_nil))) (pe_slice (sl_V K rfl) (pv 1) (po_some (pe_op (op_addV K rfl) (pv 4) pe_int)) po_none)) pa_nil))))) pss_nil)
      (pss_one (ps_ret (pv 3))))))),
    _, run_one (run_assoc (run_set (i := 2) (pu_cb1 b1_len (Pur.vw (pu_var rfl))) rfl (wk_uns rfl) fun x1 => (run_assoc (run_setow (i := 3) (nw_lst (pl_cons (pu_op o2_add (Pur.vw (pu_var rfl)) (Pur.vw (pu_tup (pl_cons (pu_op o2_add (Pur.vw (pu_var rfl)) (Pur.vw pu_int)) pl_nil)))) (pl_cons (pu_op o2_add (Pur.vw (pu_var rfl)) (Pur.vw (pu_tup (pl_cons (pu_un o1_neg (Pur.vw pu_int)) pl_nil)))) pl_nil))) rfl (wk_uns rfl) fun l16 => (run_assoc (run_seq (ρj := fun (s20 : List (Key × PV) × List PV) => [(.rf 0 (.dct s20.1)), (.fz a_order), (.fz x1), (.ow (.lst s20.2)), .un]) (run_one (run_if (ts_cmp (Pur.vw (pu_op o2_gt (Pur.vw (pu_var rfl)) (Pur.vw pu_int)))) (wk_uns rfl) (run_assoc (run_setE (i := 4) (ρs := (fun (s104 : List (Key × PV)) => [(.rf 0 (.dct s104)), (.fz a_order), (.fz x1), (.ow (.lst l16)), .un])) (s0 := a_pool) (ef_callR (i := 0) (sl := (fun (s21 : List (Key × PV)) => (.rf 0 (.dct s21)))) (get := (fun (s21 : List (Key × PV)) => MO.dct s21)) (put := (fun (s21 : List (Key × PV)) (mo : MO) => moD mo >>= fun l => Res.val l)) (fun _ => rfl) (fun _ => Or.inr ⟨_, rfl⟩) (fun s mo s' h => by cases mo <;> first | (cases h; rfl) | cases h) (el_cons (ef_pure (W := (fun c d _ H' => E c d H')) fun s22 => (pu_var rfl)) el_nil)) rfl (fun _ => rfl) fun x31 s32 => (run_assoc (run_append (i := 3) rfl (Or.inl rfl) (pu_op o2_add (Pur.vw (pu_var rfl)) (Pur.vw (pu_tup (pl_cons (pu_op o2_ix (Pur.vw (pu_var rfl)) (Pur.vw (pu_var rfl))) pl_nil)))) (wk_uns rfl) fun x40 => (run_appendE (i := 3) (ρs := (fun (s103 : List (Key × PV) × List PV) => [(.rf 0 (.dct s103.1)), (.fz a_order), (.fz x1), (.ow (.lst s103.2)), (.fz x31)])) (s0 := (s32, (l16 ++ [x40]))) (sl := (fun (s101 : List (Key × PV) × List PV) => (.ow (.lst s101.2)))) (get := (fun (s101 : List (Key × PV) × List PV) => s101.2)) (fun _ => rfl) (fun _ => Or.inl rfl) (ef_op o2_add (ef_op o2_add (ef_pure (W := (fun c d _ H' => E c d H')) fun s43 => (pu_sl (Pur.vw (pu_var rfl)) pr_none (pr_some (Pur.vw (pu_var rfl))))) (ef_tup (el_cons (ef_op o2_ix (ef_pure (W := (fun c d _ H' => E c d H')) fun s51 => (pu_lst (pl_cons (pu_var rfl) (pl_cons (pu_un o1_neg (Pur.vw pu_int)) (pl_cons (pu_op o2_sub (Pur.vw (pu_op o2_ix (Pur.vw (pu_var rfl)) (Pur.vw (pu_var rfl)))) (Pur.vw (pu_var rfl))) (pl_cons (pu_op o2_pow (Pur.vw pu_int) (Pur.vw pu_int)) pl_nil)))))) (ef_callR (i := 0) (sl := (fun (s67 : List (Key × PV) × List PV) => (.rf 0 (.dct s67.1)))) (get := (fun (s67 : List (Key × PV) × List PV) => MO.dct s67.1)) (put := (fun (s67 : List (Key × PV) × List PV) (mo : MO) => moD mo >>= fun l => Res.val (l, s67.2))) (fun _ => rfl) (fun _ => Or.inr ⟨_, rfl⟩) (fun s mo s' h => by cases mo <;> first | (cases h; rfl) | cases h) (el_cons (ef_pure (W := (fun c d _ H' => E c d H')) fun s68 => pu_int) el_nil))) el_nil))) (ef_pure (W := (fun c d _ H' => E c d H')) fun s89 => (pu_sl (Pur.vw (pu_var rfl)) (pr_some (Pur.vw (pu_op o2_add (Pur.vw (pu_var rfl)) (Pur.vw pu_int)))) pr_none))) rfl fun s101 x100 => (run_next (s := (s101.1, (s101.2 ++ [x100]))) (.keep (.keep (.keep (.keep (.drop .nil))))))))))) (run_skip (run_next (s := (a_pool, l16)) (.keep (.keep (.keep (.keep (.keep .nil))))))))) fun s20 => (run_assoc (run_seq (ρj := fun (s108 : List (Key × PV) × List PV) => [(.rf 0 (.dct s108.1)), (.fz a_order), (.fz x1), (.ow (.lst s108.2)), .un]) (run_one (run_if (ts_cmp (Pur.vw (pu_op o2_gt (Pur.vw (pu_var rfl)) (Pur.vw pu_int)))) (wk_uns rfl) (run_assoc (run_setE (i := 4) (ρs := (fun (s143 : List (Key × PV)) => [(.rf 0 (.dct s143)), (.fz a_order), (.fz x1), (.ow (.lst s20.2)), .un])) (s0 := s20.1) (ef_callR (i := 0) (sl := (fun (s109 : List (Key × PV)) => (.rf 0 (.dct s109)))) (get := (fun (s109 : List (Key × PV)) => MO.dct s109)) (put := (fun (s109 : List (Key × PV)) (mo : MO) => moD mo >>= fun l => Res.val l)) (fun _ => rfl) (fun _ => Or.inr ⟨_, rfl⟩) (fun s mo s' h => by cases mo <;> first | (cases h; rfl) | cases h) (el_cons (ef_pure (W := (fun c d _ H' => E c d H')) fun s110 => (pu_var rfl)) el_nil)) rfl (fun _ => rfl) fun x119 s120 => (run_append (i := 3) rfl (Or.inl rfl) (pu_op o2_add (Pur.vw (pu_op o2_add (Pur.vw (pu_sl (Pur.vw (pu_var rfl)) pr_none (pr_some (Pur.vw (pu_var rfl))))) (Pur.vw (pu_tup (pl_cons (pu_op o2_ix (Pur.vw (pu_var rfl)) (Pur.vw (pu_op o2_sub (Pur.vw (pu_var rfl)) (Pur.vw pu_int)))) pl_nil))))) (Pur.vw (pu_sl (Pur.vw (pu_var rfl)) (pr_some (Pur.vw (pu_op o2_add (Pur.vw (pu_var rfl)) (Pur.vw pu_int)))) pr_none))) (wk_uns rfl) fun x142 => (run_next (s := (s120, (s20.2 ++ [x142]))) (.keep (.keep (.keep (.keep (.drop .nil))))))))) (run_skip (run_next (s := (s20.1, s20.2)) (.keep (.keep (.keep (.keep (.keep .nil))))))))) fun s108 => (run_wk (.keep (.keep (.keep (.ice (.keep .nil))))) (run_ret (pu_var rfl) rfl rfl (wk_uns rfl))))))))))), rfl⟩
def m_is_tuple_of (a_length a_value : PV) : Res PV := retF ((((Res.val a_value) >>= fun x3 => (Res.val (PV.ty "tuple")) >>= fun x4 => isiP x3 x4) >>= asB >>= fun b5 => if b5 = true then (((Res.val a_value) >>= lenP) >>= fun x1 => (Res.val a_length) >>= fun x2 => eqP x1 x2) else Res.val (PV.bl false)) >>= fun v6 => Res.val (.rt v6 []))
theorem ok_is_tuple_of (T : Top K mg) : FnOk P w K mg base (L2.CX P w) 1 T.f_is_tuple_of T.d_is_tuple_of ["length", "value"] (spP K (clT T) (ap2 m_is_tuple_of)) := by
  refine fnP T.F_is_tuple_of scis_tuple_of rfl takn2 fun cdv A outer s H E hr qs hq => ?_
  match qs, hq with
  | [a_length, a_value], _ => exact ⟨_, (pss_one (ps_ret (pe_and (pe_callB (call_isiV K rfl) (by rfl) T.z_isinstance (by decide +kernel) (pa_cons (pv 1) (pa_cons (pe_bltn (v := .ty "tuple") (by rfl) T.z_tuple (by decide +kernel) rfl) pa_nil))) (pe_one (pe_cmpR (op_eqV K rfl hr.units) (pe_callB (call_lenVK K rfl) (by rfl) T.z_len PySem.boot_len (pa_cons (pv 1) pa_nil)) (pv 0) (nomark _)))))),
    _, run_one (run_ret (pu_andV (Pur.vw (pu_cb2 b2_isi (Pur.vw (pu_var rfl)) (Pur.vw pu_ty))) (pu_op o2_eq (Pur.vw (pu_cb1 b1_len (Pur.vw (pu_var rfl)))) (Pur.vw (pu_var rfl)))) rfl rfl (wk_uns rfl)), rfl⟩
def m_is_residue (a_q a_value : PV) : Res PV := retF ((((Res.val a_value) >>= fun x5 => (Res.val (PV.ty "int")) >>= fun x6 => isiP x5 x6) >>= asB >>= fun b7 => if b7 = true then ((Res.val (PV.int 0)) >>= fun x1 => (Res.val a_value) >>= fun x2 => leP x1 x2 >>= asB >>= fun b4 => if b4 = true then (Res.val a_q) >>= fun x3 => ltP x2 x3 else Res.val (PV.bl false)) else Res.val (PV.bl false)) >>= fun v8 => Res.val (.rt v8 []))
theorem ok_is_residue (T : Top K mg) : FnOk P w K mg base (L2.CX P w) 1 T.f_is_residue T.d_is_residue ["q", "value"] (spP K (clT T) (ap2 m_is_residue)) := by
  refine fnP T.F_is_residue scis_residue rfl takn2 fun cdv A outer s H E hr qs hq => ?_
  match qs, hq with
  | [a_q, a_value], _ => exact ⟨_, (pss_one (ps_ret (pe_and (pe_callB (call_isiV K rfl) (by rfl) T.z_isinstance (by decide +kernel) (pa_cons (pv 1) (pa_cons (pe_bltn (v := .ty "int") (by rfl) T.z_int (by decide +kernel) rfl) pa_nil))) (pe_one (pe_chain op_le op_lt pe_int (pv 1) (pv 0)))))),
    _, run_one (run_ret (pu_andV (Pur.vw (pu_cb2 b2_isi (Pur.vw (pu_var rfl)) (Pur.vw pu_ty))) (pu_chain o2_le o2_lt (Pur.vw pu_int) (Pur.vw (pu_var rfl)) (Pur.vw (pu_var rfl)))) rfl rfl (wk_uns rfl)), rfl⟩
def m_is_residue_row (a_q a_length a_value : PV) : Res PV := retF ((((Res.val a_length) >>= fun x6 => (Res.val a_value) >>= fun x7 => m_is_tuple_of x6 x7) >>= asB >>= fun b8 => if b8 = true then (((((Res.val a_value) >>= asSq) >>= fun ps4 => sized ps4.length >>= fun _ => lcF (fun x => Res.val x) (fun (a1 : PV) => (Res.val true)) (fun (a1 : PV) => ((Res.val a_q) >>= fun x2 => (Res.val a1) >>= fun x3 => m_is_residue x2 x3)) ps4) >>= fun ps5 => Res.val (PV.lst ps5)) >>= allP) else Res.val (PV.bl false)) >>= fun v9 => Res.val (.rt v9 []))
theorem ok_is_residue_row (T : Top K mg) : FnOk P w K mg base (L2.CX P w) 2 T.f_is_residue_row T.d_is_residue_row ["q", "length", "value"] (spP K (clT T) (ap3 m_is_residue_row)) := by
  have G_is_tuple_of := ok_is_tuple_of (P := P) (w := w) (base := base) T
  have G_is_residue := ok_is_residue (P := P) (w := w) (base := base) T
  refine fnP T.F_is_residue_row scis_residue_row rfl takn3 fun cdv A outer s H E hr qs hq => ?_
  match qs, hq with
  | [a_q, a_length, a_value], _ => exact ⟨_, (pss_one (ps_ret (pe_and (pe_callS G_is_tuple_of (hr.mono (by decide)) (by rfl) T.m_is_tuple_of T.F_is_tuple_of.kp T.b_is_tuple_of (fun σ => passAt (takes_of rfl rfl rfl rfl) σ) (pa_cons (pv 1) (pa_cons (pv 2) pa_nil))) (pe_one (pe_callB (cr_allV K rfl rfl) (by rfl) T.z_all (by decide +kernel) (pa_cons (pe_lc (own := [("item", 3)]) (g := gName 3) (tt := tYes) rfl scis_residue_row.nd (pi_seqV K rfl (pv 2)) (blkOk_by (own := [("item", 3)]) (N := ["q", "length", "value", "item"]) (sc := defScope s_is_residue_row) (by decide +kernel)) (fun _ _ _ _ _ => (pg_name (i := 3) scis_residue_row.nd rfl (Or.inl rfl))) (fun _ _ _ _ _ => pts_nil) (fun _ _ _ _ _ => (pe_callS G_is_residue (hr.mono (by decide)) (by rfl) T.m_is_residue T.F_is_residue.kp T.b_is_residue (fun σ => passAt takes0 σ) (pa_cons (pv 0) (pa_cons (pv 3) pa_nil))))) pa_nil)))))),
    _, run_one (run_ret (pu_andV (Pur.vw (pu_call2 (pu_var rfl) (pu_var rfl))) (pu_cb1 b1_all (Pur.vw (New.pur (nw_lc (ρe := fun (a1 : PV) => [(.fz a_q), (.fz a_length), (.fz a_value), (.fz a1)]) (Iter.view (it_seq (pu_var rfl))) rfl (by decide) (tg_name (i := 3) rfl (Or.inr (by decide))) (fun a1 => ts_yes) (fun a1 => (pu_call2 (pu_var rfl) (pu_var rfl)))))))) rfl rfl (wk_uns rfl)), rfl⟩
def m__count_switches (a_many : PV) : Res PV := retF ((((Res.val a_many) >>= fun x3 => ((Res.val a_many) >>= fun x1 => (Res.val (PV.int 1)) >>= fun x2 => subP x1 x2) >>= fun x4 => mulP x3 x4) >>= fun x5 => (Res.val (PV.int 2)) >>= fun x6 => fdivP x5 x6) >>= fun v7 => Res.val (.rt v7 []))
theorem ok__count_switches (T : Top K mg) : FnOk P w K mg base (L2.CX P w) 1 T.f__count_switches T.d__count_switches ["many"] (spP K (clT T) (ap1 m__count_switches)) := by
  refine fnP T.F__count_switches sc_count_switches rfl takn1 fun cdv A outer s H E hr qs hq => ?_
  match qs, hq with
  | [a_many], _ => exact ⟨_, (pss_one (ps_ret (pe_op op_fdivV (pe_op op_mulV (pv 0) (pe_op op_sub (pv 0) pe_int)) pe_int))),
    _, run_one (run_ret (pu_op o2_fdiv (Pur.vw (pu_op o2_mul (Pur.vw (pu_var rfl)) (Pur.vw (pu_op o2_sub (Pur.vw (pu_var rfl)) (Pur.vw pu_int))))) (Pur.vw pu_int)) rfl rfl (wk_uns rfl)), rfl⟩
def m__check_settings (a_many a_settings : PV) : Res PV := retF (((((Res.val (PV.int 2)) >>= fun x2 => ((Res.val a_many) >>= m__count_switches) >>= fun x3 => (Res.val a_settings) >>= fun x4 => m_is_residue_row x2 x3 x4) >>= asB) >>= fun b5 => Res.val (!b5)) >>= fun b6 => if b6 = true then (Res.exc "BadTape") else (Res.val (.nx ())))
theorem ok__check_settings (T : Top K mg) : FnOk P w K mg base (L2.CX P w) 3 T.f__check_settings T.d__check_settings ["many", "settings"] (spP K (clT T) (ap2 m__check_settings)) := by
  have G_is_residue_row := ok_is_residue_row (P := P) (w := w) (base := base) T
  have G__count_switches := ok__count_switches (P := P) (w := w) (base := base) T
  refine fnP T.F__check_settings sc_check_settings rfl takn2 fun cdv A outer s H E hr qs hq => ?_
  match qs, hq with
  | [a_many, a_settings], _ => exact ⟨_, (pss_one (ps_if (pt_not (pt_val (pe_callS G_is_residue_row (hr.mono (by decide)) (by rfl) T.m_is_residue_row T.F_is_residue_row.kp T.b_is_residue_row (fun σ => passAt (takes_of rfl rfl rfl rfl) σ) (pa_cons pe_int (pa_cons (pe_callS G__count_switches (hr.mono (by decide)) (by rfl) T.m__count_switches T.F__count_switches.kp T.b__count_switches (fun σ => passAt (takes_of rfl rfl rfl rfl) σ) (pa_cons (pv 0) pa_nil)) (pa_cons (pv 1) pa_nil)))))) (pss_one (ps_raise rfl (takes_of rfl rfl rfl rfl) (pmk_own0 PySem.F.excBase_ValueError T.x_BadTape T.m_BadTape T.kc_BadTape (raises_own T.s_BadTape T.t_BadTape) rfl))) pss_nil)),
    _, run_one (run_if (ts_not (ts_val (Pur.vw (pu_call3 pu_int (pu_call1 (pu_var rfl)) (pu_var rfl))))) (wk_uns rfl) (run_raise T.ce_BadTape (wk_uns rfl)) (run_skip (run_next (s := ()) (wk_uns rfl)))), rfl⟩
def m__by_layer (a_many a_items : PV) : Res PV := retF (((Res.val []) >>= mkN) >>= fun l1 => ((Res.val (PV.int 0)) >>= fun x2 => (seqF (S1 := List PV × PV) ((((Res.val a_many) >>= m_switch_places) >>= asSq) >>= fun ps20 => forF (fun (x21 : PV) (s4 : List PV × PV) => (fun x => Res.val x) x21 >>= fun (a5 : PV) => ((((Res.val a5) >>= fun x13 => ((Res.val a_items) >>= fun x10 => ((Res.val s4.2) >>= partP >>= fun i6 => Res.val (some i6)) >>= fun lo11 => (((Res.val s4.2) >>= fun x7 => ((Res.val a5) >>= lenP) >>= fun x8 => addP x7 x8) >>= partP >>= fun i9 => Res.val (some i9)) >>= fun hi12 => slP x10 lo11 hi12) >>= fun x14 => zpL2 x13 x14) >>= fun ps15 => Res.val (PV.tup ps15)) >>= fun x16 => sized (s4.1.length + 1) >>= fun _ => (((Res.val s4.2) >>= fun x17 => ((Res.val a5) >>= lenP) >>= fun x18 => addP x17 x18) >>= fun x19 => (Res.val (.nx ((s4.1 ++ [x16]), x19)))))) ps20 (l1, x2)) fun s22 => (((Res.val (PV.lst s22.1)) >>= tupleP) >>= fun v23 => Res.val (.rt v23 [])))))
theorem ok__by_layer (T : Top K mg) : FnOk P w K mg base (L2.CX P w) 2 T.f__by_layer T.d__by_layer ["many", "items"] (spP K (clT T) (ap2 m__by_layer)) := by
  have G_switch_places := ok_switch_places (P := P) (w := w) (base := base) T
  refine fnP T.F__by_layer sc_by_layer rfl takn2 fun cdv A outer s H E hr qs hq => ?_
  match qs, hq with
  | [a_many, a_items], _ => exact ⟨_, (pss_cons (ps_set (i := 2) sc_by_layer.nd rfl (Or.inl rfl) (pe_lst pa_nil))
      (pss_cons (ps_set (i := 3) sc_by_layer.nd rfl (Or.inl rfl) pe_int)
      (pss_cons (ps_for (passes_of rfl) rfl (pi_seqV K rfl (pe_callS G_switch_places (hr.mono (by decide)) (by rfl) T.m_switch_places T.F_switch_places.kp T.b_switch_places (fun σ => passAt (takes_of rfl rfl rfl rfl) σ) (pa_cons (pv 0) pa_nil))) (pg_name (i := 4) sc_by_layer.nd rfl (Or.inl rfl)) (pss_cons (ps_expr (pe_bm PySem.F.plainAttrs_list PySem.F.slot_list_append PySem.F.type_list_append mt_append (pv 2) (pa_cons (pe_tupGv rfl (pg_zip2V K rfl rfl (by rfl) T.z_zip (pa_cons (pv 4) (pa_cons (pe_slice (sl_V K rfl) (pv 1) (po_some (pv 3)) (po_some (pe_op (op_addV K rfl) (pv 3) (pe_callB (call_lenVK K rfl) (by rfl) T.z_len PySem.boot_len (pa_cons (pv 4) pa_nil))))) pa_nil))) (by rfl) T.z_tuple (by decide +kernel)) pa_nil)))
      (pss_one (ps_set (i := 3) sc_by_layer.nd rfl (Or.inl rfl) (pe_op (op_addV K rfl) (pv 3) (pe_callB (call_lenVK K rfl) (by rfl) T.z_len PySem.boot_len (pa_cons (pv 4) pa_nil)))))))
      (pss_one (ps_ret (pe_callTy (call_tupleV K rfl) (by rfl) T.z_tuple (by decide +kernel) (pa_cons (pv 2) pa_nil))))))),
    _, run_one (run_assoc (run_setow (i := 2) (nw_lst pl_nil) rfl (wk_uns rfl) fun l1 => (run_assoc (run_set (i := 3) pu_int rfl (wk_uns rfl) fun x2 => (run_assoc (run_seq (ρj := fun (s22 : List PV × PV) => [(.fz a_many), (.fz a_items), (.ow (.lst s22.1)), (.fz s22.2), .un]) (run_for (ρs := fun (s4 : List PV × PV) => [(.fz a_many), (.fz a_items), (.ow (.lst s4.1)), (.fz s4.2), .un]) (s0 := (l1, x2)) (ρe := fun (s4 : List PV × PV) (a5 : PV) => [(.fz a_many), (.fz a_items), (.ow (.lst s4.1)), (.fz s4.2), (.fz a5)]) (it_seq (pu_call1 (pu_var rfl))) (.keep (.keep (.keep (.keep (.keep .nil))))) (wk_uns rfl) (fun s4 => (tg_name (i := 4) rfl (Or.inl rfl))) (fun a5 s4 => run_one (run_assoc (run_append (i := 2) rfl (Or.inl rfl) (pu_tupGv (gm_zip2 (Pur.vw (pu_var rfl)) (Pur.vw (pu_sl (Pur.vw (pu_var rfl)) (pr_some (Pur.vw (pu_var rfl))) (pr_some (Pur.vw (pu_op o2_add (Pur.vw (pu_var rfl)) (Pur.vw (pu_cb1 b1_len (Pur.vw (pu_var rfl))))))))))) (wk_uns rfl) fun x16 => (run_set (i := 3) (pu_op o2_add (Pur.vw (pu_var rfl)) (Pur.vw (pu_cb1 b1_len (Pur.vw (pu_var rfl))))) rfl (wk_uns rfl) fun x19 => (run_next (s := ((s4.1 ++ [x16]), x19)) (.keep (.keep (.keep (.keep (.drop .nil))))))))))) fun s22 => (run_ret (pu_cb1 b1_tuple (vw_own rfl)) rfl rfl (wk_uns rfl)))))))), rfl⟩
def m_source_places (a_many a_settings : PV) : Res PV := retF (((Res.val a_many) >>= fun x1 => (Res.val a_settings) >>= fun x2 => m__check_settings x1 x2) >>= fun _ => ((((Res.val a_many) >>= partP >>= fun i3 => Res.val ((0 : Int), i3)) >>= fun x5 => rgL x5.1 x5.2 >>= fun l6 => Res.val (PV.tup l6)) >>= fun x7 => (seqF (S1 := PV) ((((Res.val a_many) >>= fun x8 => (Res.val a_settings) >>= fun x9 => m__by_layer x8 x9) >>= asSq) >>= fun ps15 => forF (fun (x16 : PV) (s10 : PV) => (fun x => Res.val x) x16 >>= fun (a11 : PV) => (((Res.val s10) >>= fun x12 => (Res.val a11) >>= fun x13 => m__exchanged x12 x13) >>= fun x14 => (Res.val (.nx x14)))) ps15 x7) fun s17 => ((Res.val s17) >>= fun v18 => Res.val (.rt v18 [])))))
theorem ok_source_places (T : Top K mg) : FnOk P w K mg base (L2.CX P w) 4 T.f_source_places T.d_source_places ["many", "settings"] (spP K (clT T) (ap2 m_source_places)) := by
  have G__check_settings := ok__check_settings (P := P) (w := w) (base := base) T
  have G__by_layer := ok__by_layer (P := P) (w := w) (base := base) T
  have G__exchanged := ok__exchanged (P := P) (w := w) (base := base) T
  refine fnP T.F_source_places scsource_places rfl takn2 fun cdv A outer s H E hr qs hq => ?_
  match qs, hq with
  | [a_many, a_settings], _ => exact ⟨_, (pss_cons (ps_expr (pe_callS G__check_settings (hr.mono (by decide)) (by rfl) T.m__check_settings T.F__check_settings.kp T.b__check_settings (fun σ => passAt (takes_of rfl rfl rfl rfl) σ) (pa_cons (pv 0) (pa_cons (pv 1) pa_nil))))
      (pss_cons (ps_set (i := 2) scsource_places.nd rfl (Or.inl rfl) (pe_tupRg rfl (by rfl) T.z_tuple (prg_1 (by rfl) T.z_range (pv 0))))
      (pss_cons (ps_for (passes_of rfl) rfl (pi_seqV K rfl (pe_callS G__by_layer (hr.mono (by decide)) (by rfl) T.m__by_layer T.F__by_layer.kp T.b__by_layer (fun σ => passAt (takes_of rfl rfl rfl rfl) σ) (pa_cons (pv 0) (pa_cons (pv 1) pa_nil)))) (pg_name (i := 3) scsource_places.nd rfl (Or.inl rfl)) (pss_one (ps_set (i := 2) scsource_places.nd rfl (Or.inl rfl) (pe_callS G__exchanged (hr.mono (by decide)) (by rfl) T.m__exchanged T.F__exchanged.kp T.b__exchanged (fun σ => passAt (takes_of rfl rfl rfl rfl) σ) (pa_cons (pv 2) (pa_cons (pv 3) pa_nil))))))
      (pss_one (ps_ret (pv 2)))))),
    _, run_one (run_assoc (run_expr (pu_call2 (pu_var rfl) (pu_var rfl)) (wk_uns rfl) (run_assoc (run_set (i := 2) (pu_tupRg (rg_1 (Pur.vw (pu_var rfl)))) rfl (wk_uns rfl) fun x7 => (run_assoc (run_seq (ρj := fun (s17 : PV) => [(.fz a_many), (.fz a_settings), (.fz s17), .un]) (run_for (ρs := fun (s10 : PV) => [(.fz a_many), (.fz a_settings), (.fz s10), .un]) (s0 := x7) (ρe := fun (s10 : PV) (a11 : PV) => [(.fz a_many), (.fz a_settings), (.fz s10), (.fz a11)]) (it_seq (pu_call2 (pu_var rfl) (pu_var rfl))) (.keep (.keep (.keep (.keep .nil)))) (wk_uns rfl) (fun s10 => (tg_name (i := 3) rfl (Or.inl rfl))) (fun a11 s10 => run_one (run_set (i := 2) (pu_call2 (pu_var rfl) (pu_var rfl)) rfl (wk_uns rfl) fun x14 => (run_next (s := x14) (.keep (.keep (.keep (.drop .nil)))))))) fun s17 => (run_ret (pu_var rfl) rfl rfl (wk_uns rfl)))))))), rfl⟩
def m__law_switches (a_many : PV) : Res PV := retF (((Res.val []) >>= mkL) >>= fun x1 => (seqF (S1 := PV) (((Res.val a_many) >>= rng1) >>= fun ps21 => forF (fun (x22 : PV) (s2 : PV) => (fun x => Res.val x) x22 >>= fun (a3 : PV) => (((Res.val s2) >>= fun x18 => ((((((Res.val a3) >>= intP) >>= fun x4 => (Res.val (PV.int 2)) >>= fun x5 => modP x4 x5) >>= fun x8 => ((Res.val a_many) >>= fun x6 => (Res.val (PV.int 1)) >>= fun x7 => subP x6 x7) >>= fun x9 => (Res.val (PV.int 2)) >>= fun x10 => rng3 x8 x9 x10) >>= fun ps16 => sized ps16.length >>= fun _ => lcF (fun x => Res.val x) (fun (a11 : PV) => (Res.val true)) (fun (a11 : PV) => (((Res.val a3) >>= fun x14 => ((Res.val a11) >>= fun x12 => (Res.val []) >>= fun xs13 => Res.val (x12 :: xs13)) >>= fun xs15 => Res.val (x14 :: xs15)) >>= mkT)) ps16) >>= fun ps17 => Res.val (PV.lst ps17)) >>= fun x19 => addP x18 x19) >>= fun x20 => (Res.val (.nx x20)))) ps21 x1) fun s23 => ((Res.val s23) >>= fun v24 => Res.val (.rt v24 []))))
theorem ok__law_switches (T : Top K mg) : FnOk P w K mg base (L2.CX P w) 1 T.f__law_switches T.d__law_switches ["many"] (spP K (clT T) (ap1 m__law_switches)) := by
  refine fnP T.F__law_switches scLswitches rfl takn1 fun cdv A outer s H E hr qs hq => ?_
  match qs, hq with
  | [a_many], _ => exact ⟨_, (pss_cons (ps_set (i := 1) scLswitches.nd rfl (Or.inl rfl) (pe_lst pa_nil))
      (pss_cons (ps_for (passes_of rfl) rfl (pi_range1 (by rfl) T.z_range (pa_cons (pv 0) pa_nil)) (pg_name (i := 2) scLswitches.nd rfl (Or.inr rfl)) (pss_one (ps_set (i := 1) scLswitches.nd rfl (Or.inl rfl) (pe_op (op_addV K rfl) (pv 1) (pe_lc (own := [("j", 3)]) (g := gName 3) (tt := tYes) rfl scLswitches.nd (pi_range3 (by rfl) T.z_range (pa_cons (pe_op op_modN (pe_callTy call_intV (by rfl) T.z_int (by decide +kernel) (pa_cons (pv 2) pa_nil)) pe_int) (pa_cons (pe_op op_sub (pv 0) pe_int) (pa_cons pe_int pa_nil)))) (blkOk_by (own := [("j", 3)]) (N := ["many", "found", "layer", "j"]) (sc := defScope s_Lswitches) (by decide +kernel)) (fun _ _ _ _ _ => (pg_name (i := 3) scLswitches.nd rfl (Or.inl rfl))) (fun _ _ _ _ _ => pts_nil) (fun _ _ _ _ _ => (pe_tup (pa_cons (pv 2) (pa_cons (pv 3) pa_nil)))))))))
      (pss_one (ps_ret (pv 1))))),
    _, run_one (run_assoc (run_set (i := 1) (pu_lst pl_nil) rfl (wk_uns rfl) fun x1 => (run_assoc (run_seq (ρj := fun (s23 : PV) => [(.fz a_many), (.fz s23), .un, .un]) (run_for (ρs := fun (s2 : PV) => [(.fz a_many), (.fz s2), .un, .un]) (s0 := x1) (ρe := fun (s2 : PV) (a3 : PV) => [(.fz a_many), (.fz s2), (.fz a3), .un]) (it_rng1 (Pur.vw (pu_var rfl))) (.keep (.keep (.keep (.keep .nil)))) (wk_uns rfl) (fun s2 => (tg_name (i := 2) rfl (Or.inl rfl))) (fun a3 s2 => run_one (run_set (i := 1) (pu_op o2_add (Pur.vw (pu_var rfl)) (Pur.vw (New.pur (nw_lc (ρe := fun (a11 : PV) => [(.fz a_many), (.fz s2), (.fz a3), (.fz a11)]) (Iter.view (it_rng3 (Pur.vw (pu_op o2_mod (Pur.vw (pu_cb1 b1_int (Pur.vw (pu_var rfl)))) (Pur.vw pu_int))) (Pur.vw (pu_op o2_sub (Pur.vw (pu_var rfl)) (Pur.vw pu_int))) (Pur.vw pu_int))) rfl (by decide) (tg_name (i := 3) rfl (Or.inr (by decide))) (fun a11 => ts_yes) (fun a11 => (pu_tup (pl_cons (pu_var rfl) (pl_cons (pu_var rfl) pl_nil)))))))) rfl (wk_uns rfl) fun x20 => (run_next (s := x20) (.keep (.keep (.drop (.keep .nil)))))))) fun s23 => (run_ret (pu_var rfl) rfl rfl (wk_uns rfl)))))), rfl⟩
def m__law_sources (a_many a_settings : PV) : Res PV := retF ((((Res.val a_many) >>= partP >>= fun i1 => Res.val ((0 : Int), i1)) >>= fun x3 => rgL x3.1 x3.2 >>= fun l4 => Res.val (PV.lst l4)) >>= fun x5 => (((Res.val a_many) >>= m__law_switches) >>= fun x7 => (seqF (S1 := PV) ((((Res.val x7) >>= lenP) >>= rng1) >>= fun ps45 => forF (fun (x46 : PV) (s8 : PV) => (fun x => Res.val x) x46 >>= fun (a9 : PV) => (((((Res.val a_settings) >>= fun x10 => (Res.val a9) >>= fun x11 => ixP x10 x11) >>= fun x12 => (Res.val (PV.int 1)) >>= fun x13 => eqP x12 x13) >>= asB) >>= fun b14 => if b14 = true then ((((Res.val x7) >>= fun x15 => (Res.val a9) >>= fun x16 => ixP x15 x16) >>= fun x17 => (Res.val (PV.int 1)) >>= fun x18 => ixP x17 x18) >>= fun x19 => (((((Res.val s8) >>= fun x21 => (Res.val none) >>= fun lo22 => ((Res.val x19) >>= partP >>= fun i20 => Res.val (some i20)) >>= fun hi23 => slP x21 lo22 hi23) >>= fun x34 => ((((Res.val s8) >>= fun x30 => ((Res.val x19) >>= fun x28 => (Res.val (PV.int 1)) >>= fun x29 => addP x28 x29) >>= fun x31 => ixP x30 x31) >>= fun x32 => (((Res.val s8) >>= fun x24 => (Res.val x19) >>= fun x25 => ixP x24 x25) >>= fun x26 => (Res.val []) >>= fun xs27 => Res.val (x26 :: xs27)) >>= fun xs33 => Res.val (x32 :: xs33)) >>= mkL) >>= fun x35 => addP x34 x35) >>= fun x42 => ((Res.val s8) >>= fun x39 => (((Res.val x19) >>= fun x36 => (Res.val (PV.int 2)) >>= fun x37 => addP x36 x37) >>= partP >>= fun i38 => Res.val (some i38)) >>= fun lo40 => (Res.val none) >>= fun hi41 => slP x39 lo40 hi41) >>= fun x43 => addP x42 x43) >>= fun x44 => (Res.val (.nx x44)))) else (Res.val (.nx s8)))) ps45 x5) fun s47 => (((Res.val s47) >>= tupleP) >>= fun v48 => Res.val (.rt v48 [])))))
theorem ok__law_sources (T : Top K mg) : FnOk P w K mg base (L2.CX P w) 2 T.f__law_sources T.d__law_sources ["many", "settings"] (spP K (clT T) (ap2 m__law_sources)) := by
  have G__law_switches := ok__law_switches (P := P) (w := w) (base := base) T
  refine fnP T.F__law_sources scLsources rfl takn2 fun cdv A outer s H E hr qs hq => ?_
  match qs, hq with
  | [a_many, a_settings], _ => exact ⟨_, (pss_cons (ps_set (i := 2) scLsources.nd rfl (Or.inl rfl) (pe_listRg rfl (by rfl) T.z_list (prg_1 (by rfl) T.z_range (pv 0))))
      (pss_cons (ps_set (i := 3) scLsources.nd rfl (Or.inl rfl) (pe_callS G__law_switches (hr.mono (by decide)) (by rfl) T.m__law_switches T.F__law_switches.kp T.b__law_switches (fun σ => passAt (takes_of rfl rfl rfl rfl) σ) (pa_cons (pv 0) pa_nil)))
      (pss_cons (ps_for (passes_of rfl) rfl (pi_range1 (by rfl) T.z_range (pa_cons (pe_callB (call_lenVK K rfl) (by rfl) T.z_len PySem.boot_len (pa_cons (pv 3) pa_nil)) pa_nil)) (pg_name (i := 4) scLsources.nd rfl (Or.inl rfl)) (pss_one (ps_if (pt_cmpR (op_eqV K rfl hr.units) (pe_ix (ix_VK K rfl) (pv 1) (pv 4) (fun _ _ => rfl)) pe_int (nomark _)) (pss_cons (ps_set (i := 5) scLsources.nd rfl (Or.inl rfl) (pe_ix (ix_VK K rfl) (pe_ix (ix_VK K rfl) (pv 3) (pv 4) (fun _ _ => rfl)) pe_int (fun _ _ => rfl)))
      (pss_one (ps_set (i := 2) scLsources.nd rfl (Or.inl rfl) (pe_op (op_addV K rfl) (pe_op (op_addV K rfl) (pe_slice (sl_V K rfl) (pv 2) po_none (po_some (pv 5))) (pe_lst (pa_cons (pe_ix (ix_VK K rfl) (pv 2) (pe_op (op_addV K rfl) (pv 5) pe_int) (fun _ _ => rfl)) (pa_cons (pe_ix (ix_VK K rfl) (pv 2) (pv 5) (fun _ _ => rfl)) pa_nil)))) (pe_slice (sl_V K rfl) (pv 2) (po_some (pe_op (op_addV K rfl) (pv 5) pe_int)) po_none))))) pss_nil)))
      (pss_one (ps_ret (pe_callTy (call_tupleV K rfl) (by rfl) T.z_tuple (by decide +kernel) (pa_cons (pv 2) pa_nil))))))),
    _, run_one (run_assoc (run_set (i := 2) (New.pur' (nw_listRg (rg_1 (Pur.vw (pu_var rfl))))) rfl (wk_uns rfl) fun x5 => (run_assoc (run_set (i := 3) (pu_call1 (pu_var rfl)) rfl (wk_uns rfl) fun x7 => (run_assoc (run_seq (ρj := fun (s47 : PV) => [(.fz a_many), (.fz a_settings), (.fz s47), (.fz x7), .un, .un]) (run_for (ρs := fun (s8 : PV) => [(.fz a_many), (.fz a_settings), (.fz s8), (.fz x7), .un, .un]) (s0 := x5) (ρe := fun (s8 : PV) (a9 : PV) => [(.fz a_many), (.fz a_settings), (.fz s8), (.fz x7), (.fz a9), .un]) (it_rng1 (Pur.vw (pu_cb1 b1_len (Pur.vw (pu_var rfl))))) (.keep (.keep (.keep (.keep (.keep (.keep .nil)))))) (wk_uns rfl) (fun s8 => (tg_name (i := 4) rfl (Or.inl rfl))) (fun a9 s8 => run_one (run_if (ts_cmp (Pur.vw (pu_op o2_eq (Pur.vw (pu_op o2_ix (Pur.vw (pu_var rfl)) (Pur.vw (pu_var rfl)))) (Pur.vw pu_int)))) (wk_uns rfl) (run_assoc (run_set (i := 5) (pu_op o2_ix (Pur.vw (pu_op o2_ix (Pur.vw (pu_var rfl)) (Pur.vw (pu_var rfl)))) (Pur.vw pu_int)) rfl (wk_uns rfl) fun x19 => (run_set (i := 2) (pu_op o2_add (Pur.vw (pu_op o2_add (Pur.vw (pu_sl (Pur.vw (pu_var rfl)) pr_none (pr_some (Pur.vw (pu_var rfl))))) (Pur.vw (pu_lst (pl_cons (pu_op o2_ix (Pur.vw (pu_var rfl)) (Pur.vw (pu_op o2_add (Pur.vw (pu_var rfl)) (Pur.vw pu_int)))) (pl_cons (pu_op o2_ix (Pur.vw (pu_var rfl)) (Pur.vw (pu_var rfl))) pl_nil)))))) (Pur.vw (pu_sl (Pur.vw (pu_var rfl)) (pr_some (Pur.vw (pu_op o2_add (Pur.vw (pu_var rfl)) (Pur.vw pu_int)))) pr_none))) rfl (wk_uns rfl) fun x44 => (run_next (s := x44) (.keep (.keep (.keep (.keep (.drop (.drop .nil)))))))))) (run_skip (run_next (s := s8) (.keep (.keep (.keep (.keep (.drop (.keep .nil))))))))))) fun s47 => (run_ret (pu_cb1 b1_tuple (Pur.vw (pu_var rfl))) rfl rfl (wk_uns rfl)))))))), rfl⟩
def m__law_refused (a_many a_value a_which : PV) : Res PV := retF (seqF (S1 := Unit) (tryAsF ((((Res.val a_which) >>= fun x2 => (Res.val (PV.int 0)) >>= fun x3 => eqP x2 x3) >>= asB) >>= fun b4 => if b4 = true then (((Res.val a_many) >>= fun x5 => (Res.val a_value) >>= fun x6 => m_source_places x5 x6) >>= fun _ => (Res.val (.nx ()))) else (((Res.val a_value) >>= m_settings_for) >>= fun _ => (Res.val (.nx ())))) hit_HushError (fun c9 => ((((Res.val a_which) >>= fun x10 => (Res.val (PV.int 0)) >>= fun x11 => eqP x10 x11) >>= asB) >>= fun b12 => if b12 = true then ((isX xt_BadTape c9) >>= fun v13 => Res.val (.rt v13 [])) else ((isX xt_BadStatement c9) >>= fun v14 => Res.val (.rt v14 []))))) fun s1 => ((Res.val (PV.bl false)) >>= fun v15 => Res.val (.rt v15 [])))
theorem ok__law_refused (T : Top K mg) : FnOk P w K mg base (L2.CX P w) 5 T.f__law_refused T.d__law_refused ["many", "value", "which"] (spP K (clT T) (ap3 m__law_refused)) := by
  have G_source_places := ok_source_places (P := P) (w := w) (base := base) T
  have G_settings_for := ok_settings_for (P := P) (w := w) (base := base) T
  refine fnP T.F__law_refused scLrefused rfl takn3 fun cdv A outer s H E hr qs hq => ?_
  match qs, hq with
  | [a_many, a_value, a_which], _ => exact ⟨_, (pss_cons (ps_try_as (i := 3) rfl rfl scLrefused.nd rfl rfl ⟨rfl, by decide, (.inl T.m_HushError)⟩ (takes_of rfl rfl rfl rfl) (fun W pn xe tk pw => (pss_one (ps_if (pt_cmpR (op_eqV K rfl hr.units) (pv 2) pe_int (nomark _)) (pss_one (ps_expr (pe_callS G_source_places (hr.mono (by decide)) (by rfl) T.m_source_places T.F_source_places.kp T.b_source_places (fun σ => passAt tk σ) (pa_cons (pv 0) (pa_cons (pv 1) pa_nil))))) (pss_one (ps_expr (pe_callS G_settings_for (hr.mono (by decide)) (by rfl) T.m_settings_for T.F_settings_for.kp T.b_settings_for (fun σ => passAt tk σ) (pa_cons (pv 1) pa_nil))))))) (fun a oe cls d pn hz hf => (pss_cons (ps_if (pt_cmpR (op_eqV K rfl hr.units) (pv 2) pe_int (nomark _)) (pss_one (ps_ret (pe_callB (call_isX rfl hz hf) (by rfl) T.z_isinstance (by decide +kernel) (pa_cons (pv 3) (pa_cons (pe_glob (v := .ref T.c_BadTape) rfl T.m_BadTape rfl (by decide)) pa_nil))))) pss_nil)
      (pss_one (ps_ret (pe_callB (call_isX rfl hz hf) (by rfl) T.z_isinstance (by decide +kernel) (pa_cons (pv 3) (pa_cons (pe_glob (v := .ref T.c_BadStatement) rfl T.m_BadStatement rfl (by decide)) pa_nil))))))))
      (pss_one (ps_ret pe_bl))),
    _, run_one (run_assoc (run_seq (ρj := fun (s1 : Unit) => [(.fz a_many), (.fz a_value), (.fz a_which), .un]) (run_tryAs (i := 3) (ρh := [(.fz a_many), (.fz a_value), (.fz a_which), .un]) T.hit_HushError (wk_uns rfl) rfl (fun s => by first | rfl | cases s) (fun s => by first | rfl | cases s) (fun W' => run_one (run_if (ts_cmp (Pur.vw (pu_op o2_eq (Pur.vw (pu_var rfl)) (Pur.vw pu_int)))) (.keep (.keep (.keep (.keep .nil)))) (run_expr (pu_call2 (pu_var rfl) (pu_var rfl)) (.keep (.keep (.keep (.keep .nil)))) (run_next (s := ()) (.keep (.keep (.keep (.keep .nil)))))) (run_expr (pu_call1 (pu_var rfl)) (.keep (.keep (.keep (.keep .nil)))) (run_next (s := ()) (.keep (.keep (.keep (.keep .nil)))))))) (fun a8 c9 C_ hc9 => run_one (run_assoc (run_if (ts_cmp (Pur.vw (pu_op o2_eq (Pur.vw (pu_var rfl)) (Pur.vw pu_int)))) (wk_uns rfl) (run_ret (pu_isX T.xt_BadTape hc9 (fun _ h => by cases h; rfl) (pu_var rfl)) rfl rfl (wk_uns rfl)) (run_skip (run_ret (pu_isX T.xt_BadStatement hc9 (fun _ h => by cases h; rfl) (pu_var rfl)) rfl rfl (wk_uns rfl))))))) fun s1 => (run_ret pu_bl rfl rfl (wk_uns rfl)))), rfl⟩
def m__law_goals (a_sources : PV) : Res PV := retF (((Res.val (unK a_sources)) >>= lenP) >>= fun x1 => (((((Res.val x1) >>= rng1) >>= fun ps5 => sized ps5.length >>= fun _ => lcF (fun x => Res.val x) (fun (a2 : PV) => (Res.val true)) (fun (a2 : PV) => ((Res.val a_sources) >>= KT.asKt >>= fun ps3 => (Res.val a2) >>= fun k4 => idxQ ps3 k4)) ps5) >>= fun ps6 => Res.val (PV.lst ps6)) >>= fun x7 => (((Res.val []) >>= mkN) >>= fun l8 => (seqF (S1 := List PV × PV) ((((Res.val x1) >>= m__law_switches) >>= asSq) >>= fun ps48 => forF (fun (x49 : PV) (s10 : List PV × PV) => un2 x49 >>= fun (a11 : PV × PV) => ((((Res.val s10.2) >>= fun x12 => (Res.val a11.2) >>= fun x13 => ixP x12 x13) >>= fun x18 => ((Res.val s10.2) >>= fun x16 => ((Res.val a11.2) >>= fun x14 => (Res.val (PV.int 1)) >>= fun x15 => addP x14 x15) >>= fun x17 => ixP x16 x17) >>= fun x19 => gtP x18 x19) >>= fun x20 => (((Res.val x20) >>= intP) >>= fun x21 => sized (s10.1.length + 1) >>= fun _ => (((Res.val x20) >>= asB) >>= fun b22 => if b22 = true then (((((Res.val s10.2) >>= fun x24 => (Res.val none) >>= fun lo25 => ((Res.val a11.2) >>= partP >>= fun i23 => Res.val (some i23)) >>= fun hi26 => slP x24 lo25 hi26) >>= fun x37 => ((((Res.val s10.2) >>= fun x33 => ((Res.val a11.2) >>= fun x31 => (Res.val (PV.int 1)) >>= fun x32 => addP x31 x32) >>= fun x34 => ixP x33 x34) >>= fun x35 => (((Res.val s10.2) >>= fun x27 => (Res.val a11.2) >>= fun x28 => ixP x27 x28) >>= fun x29 => (Res.val []) >>= fun xs30 => Res.val (x29 :: xs30)) >>= fun xs36 => Res.val (x35 :: xs36)) >>= mkL) >>= fun x38 => addP x37 x38) >>= fun x45 => ((Res.val s10.2) >>= fun x42 => (((Res.val a11.2) >>= fun x39 => (Res.val (PV.int 2)) >>= fun x40 => addP x39 x40) >>= partP >>= fun i41 => Res.val (some i41)) >>= fun lo43 => (Res.val none) >>= fun hi44 => slP x42 lo43 hi44) >>= fun x46 => addP x45 x46) >>= fun x47 => (Res.val (.nx ((s10.1 ++ [x21]), x47)))) else (Res.val (.nx ((s10.1 ++ [x21]), s10.2))))))) ps48 (l8, x7)) fun s50 => (((Res.val (PV.lst s50.1)) >>= tupleP) >>= fun v51 => Res.val (.rt v51 []))))))
theorem ok__law_goals (T : Top K mg) : FnOk P w K mg base (L2.CX P w) 2 T.f__law_goals T.d__law_goals ["sources"] (spP K (clT T) (ap1 m__law_goals)) := by
  have G__law_switches := ok__law_switches (P := P) (w := w) (base := base) T
  refine fnP T.F__law_goals scLgoals rfl takn1 fun cdv A outer s H E hr qs hq => ?_
  match qs, hq with
  | [a_sources], _ => exact ⟨_, (pss_cons (ps_set (i := 1) scLgoals.nd rfl (Or.inl rfl) (pe_callB (call_lenVK K rfl) (by rfl) T.z_len PySem.boot_len (pa_cons (pv 0) pa_nil)))
      (pss_cons (ps_setLc (i := 2) (own := [("place", 3)]) (g := gName 3) (tt := tYes) rfl scLgoals.nd rfl rfl (sw_true rfl rfl rfl (by decide +kernel)) (pi_range1 (by rfl) T.z_range (pa_cons (pv 1) pa_nil)) (blkOk_by (own := [("place", 3)]) (N := ["sources", "many", "goals", "place", "settings", "layer", "j", "crossed"]) (sc := defScope s_Lgoals) (by decide +kernel)) (fun _ _ _ _ _ => (pg_name (i := 3) scLgoals.nd rfl (Or.inl rfl))) (fun _ _ _ _ _ => pts_nil) (fun _ _ _ _ _ => (KT.pe_tindex K rfl (pv 0) (pa_cons (pv 3) pa_nil))))
      (pss_cons (ps_set (i := 4) scLgoals.nd rfl (Or.inl rfl) (pe_lst pa_nil))
      (pss_cons (ps_for (passes_of rfl) rfl (pi_seqV K rfl (pe_callS G__law_switches (hr.mono (by decide)) (by rfl) T.m__law_switches T.F__law_switches.kp T.b__law_switches (fun σ => passAt (takes_of rfl rfl rfl rfl) σ) (pa_cons (pv 1) pa_nil))) (pg_tup (by rfl) (pgs_cons (pg_name (i := 5) scLgoals.nd rfl (Or.inl rfl)) (pgs_cons (pg_name (i := 6) scLgoals.nd rfl (Or.inl rfl)) pgs_nil))) (pss_cons (ps_set (i := 7) scLgoals.nd rfl (Or.inl rfl) (pe_cmpR op_gt (pe_ix (ix_VK K rfl) (pv 2) (pv 6) (fun _ _ => rfl)) (pe_ix (ix_VK K rfl) (pv 2) (pe_op (op_addV K rfl) (pv 6) pe_int) (fun _ _ => rfl)) (nomark _)))
      (pss_cons (ps_expr (pe_bm PySem.F.plainAttrs_list PySem.F.slot_list_append PySem.F.type_list_append mt_append (pv 4) (pa_cons (pe_callTy call_intV (by rfl) T.z_int (by decide +kernel) (pa_cons (pv 7) pa_nil)) pa_nil)))
      (pss_one (ps_if (pt_val (pv 7)) (pss_one (ps_set (i := 2) scLgoals.nd rfl (Or.inl rfl) (pe_op (op_addV K rfl) (pe_op (op_addV K rfl) (pe_slice (sl_V K rfl) (pv 2) po_none (po_some (pv 6))) (pe_lst (pa_cons (pe_ix (ix_VK K rfl) (pv 2) (pe_op (op_addV K rfl) (pv 6) pe_int) (fun _ _ => rfl)) (pa_cons (pe_ix (ix_VK K rfl) (pv 2) (pv 6) (fun _ _ => rfl)) pa_nil)))) (pe_slice (sl_V K rfl) (pv 2) (po_some (pe_op (op_addV K rfl) (pv 6) pe_int)) po_none)))) pss_nil)))))
      (pss_one (ps_ret (pe_callTy (call_tupleV K rfl) (by rfl) T.z_tuple (by decide +kernel) (pa_cons (pv 4) pa_nil)))))))),
    _, run_one (run_assoc (run_set (i := 1) (pu_cb1 b1_len (Pur.vw (pu_varK rfl))) rfl (wk_uns rfl) fun x1 => (run_assoc (run_set (i := 2) (New.pur (nw_lc (ρe := fun (a2 : PV) => [(.fz a_sources), (.fz x1), .un, (.fz a2), .un, .un, .un, .un]) (Iter.view (it_rng1 (Pur.vw (pu_var rfl)))) rfl (by decide) (tg_name (i := 3) rfl (Or.inr (by decide))) (fun a2 => ts_yes) (fun a2 => (KT.pu_tindex (Pur.vw (pu_var rfl)) (pu_var rfl))))) rfl (wk_uns rfl) fun x7 => (run_assoc (run_setow (i := 4) (nw_lst pl_nil) rfl (wk_uns rfl) fun l8 => (run_assoc (run_seq (ρj := fun (s50 : List PV × PV) => [(.fz a_sources), (.fz x1), (.fz s50.2), .un, (.ow (.lst s50.1)), .un, .un, .un]) (run_for (ρs := fun (s10 : List PV × PV) => [(.fz a_sources), (.fz x1), (.fz s10.2), .un, (.ow (.lst s10.1)), .un, .un, .un]) (s0 := (l8, x7)) (ρe := fun (s10 : List PV × PV) (a11 : PV × PV) => [(.fz a_sources), (.fz x1), (.fz s10.2), .un, (.ow (.lst s10.1)), (.fz a11.1), (.fz a11.2), .un]) (it_seq (pu_call1 (pu_var rfl))) (.keep (.keep (.keep (.keep (.keep (.keep (.keep (.keep .nil)))))))) (wk_uns rfl) (fun s10 => (tg_2 (i := 5) (j := 6) rfl rfl (Or.inl rfl))) (fun a11 s10 => run_one (run_assoc (run_set (i := 7) (pu_op o2_gt (Pur.vw (pu_op o2_ix (Pur.vw (pu_var rfl)) (Pur.vw (pu_var rfl)))) (Pur.vw (pu_op o2_ix (Pur.vw (pu_var rfl)) (Pur.vw (pu_op o2_add (Pur.vw (pu_var rfl)) (Pur.vw pu_int)))))) rfl (wk_uns rfl) fun x20 => (run_assoc (run_append (i := 4) rfl (Or.inl rfl) (pu_cb1 b1_int (Pur.vw (pu_var rfl))) (wk_uns rfl) fun x21 => (run_if (ts_val (Pur.vw (pu_var rfl))) (wk_uns rfl) (run_set (i := 2) (pu_op o2_add (Pur.vw (pu_op o2_add (Pur.vw (pu_sl (Pur.vw (pu_var rfl)) pr_none (pr_some (Pur.vw (pu_var rfl))))) (Pur.vw (pu_lst (pl_cons (pu_op o2_ix (Pur.vw (pu_var rfl)) (Pur.vw (pu_op o2_add (Pur.vw (pu_var rfl)) (Pur.vw pu_int)))) (pl_cons (pu_op o2_ix (Pur.vw (pu_var rfl)) (Pur.vw (pu_var rfl))) pl_nil)))))) (Pur.vw (pu_sl (Pur.vw (pu_var rfl)) (pr_some (Pur.vw (pu_op o2_add (Pur.vw (pu_var rfl)) (Pur.vw pu_int)))) pr_none))) rfl (wk_uns rfl) fun x47 => (run_next (s := ((s10.1 ++ [x21]), x47)) (.keep (.keep (.keep (.keep (.keep (.drop (.drop (.drop .nil)))))))))) (run_skip (run_next (s := ((s10.1 ++ [x21]), s10.2)) (.keep (.keep (.keep (.keep (.keep (.drop (.drop (.drop .nil))))))))))))))))) fun s50 => (run_ret (pu_cb1 b1_tuple (vw_own rfl)) rfl rfl (wk_uns rfl)))))))))), rfl⟩
def m_law (ns : List Int) : Res PV := retF ((((Res.val (PV.fls (List.map PV.int ns))) >>= fun x1 => (Res.val []) >>= fun xs2 => Res.val (x1 :: xs2)) >>= fun ps3 => noX (apN1 m__law_pool ps3) >>= moD) >>= fun d4 => (noX ((fun (s5 : List (Key × PV)) => (fun (s9 : List (Key × PV)) => (fun (s6 : List (Key × PV)) => noX (Res.val (PV.int 9)) >>= fun v7 => Res.val (v7, s6)) s9 >>= fun x10 => (fun (s8 : List (Key × PV)) => Res.val (([] : List PV), s8)) x10.2 >>= fun xs11 => Res.val (x10.1 :: xs11.1, xs11.2)) s5 >>= fun x12 => (apR1 m__law_take) (MO.dct x12.2) x12.1 >>= fun r13 => ((fun (s5 : List (Key × PV)) (mo : MO) => moD mo >>= fun l => Res.val l) x12.2 r13.2) >>= fun s14 => Res.val (r13.1, s14)) d4) >>= fun r17 => (fun (x15 : PV) (s16 : List (Key × PV)) => (((((Res.val x15) >>= rng1) >>= fun ps29 => sized ps29.length >>= fun _ => lcF (fun x => Res.val x) (fun (a18 : PV) => (Res.val true)) (fun (a18 : PV) => ((((((Res.val x15) >>= m__law_switches) >>= asSq) >>= fun ps27 => sized ps27.length >>= fun _ => lcF (fun x => Res.val x) (fun (a20 : PV) => ((((Res.val a20) >>= fun x21 => (Res.val (PV.int 0)) >>= fun x22 => ixP x21 x22) >>= fun x23 => (Res.val a18) >>= fun x24 => eqP x23 x24) >>= asB)) (fun (a20 : PV) => ((Res.val a20) >>= fun x25 => (Res.val (PV.int 1)) >>= fun x26 => ixP x25 x26)) ps27) >>= fun ps28 => Res.val (PV.lst ps28)) >>= tupleP)) ps29) >>= fun ps30 => Res.val (PV.lst ps30)) >>= fun x31 => ((((((Res.val []) >>= fun ps34 => ((Res.val x15) >>= fun x32 => (Res.val []) >>= fun xs33 => Res.val (x32 :: xs33)) >>= fun qs35 => ap1 m_switch_places (g_switch_places_0_many ps34 qs35)) >>= fun x36 => ((Res.val x31) >>= tupleP) >>= fun x37 => (m__law_same 5) x36 x37) >>= asB) >>= fun b38 => Res.val (!b38)) >>= fun b39 => if b39 = true then ((Res.val (PV.bl false)) >>= fun v40 => Res.val (.rt v40 [])) else (noX ((fun (s41 : List (Key × PV)) => (fun (s62 : List (Key × PV)) => (fun (s43 : List (Key × PV)) => noX (((Res.val x15) >>= m__law_switches) >>= asSq) >>= fun z45 => Res.val (z45, s43)) s62 >>= fun ps60 => sized ps60.1.length >>= fun _ => lcE (fun x => Res.val x) (fun (a47 : PV) => (fun (s49 : List (Key × PV)) => Res.val (true, s49))) (fun (a47 : PV) => (fun (s50 : List (Key × PV)) => (fun (s54 : List (Key × PV)) => (fun (s51 : List (Key × PV)) => noX (Res.val (PV.int 2)) >>= fun v52 => Res.val (v52, s51)) s54 >>= fun x55 => (fun (s53 : List (Key × PV)) => Res.val (([] : List PV), s53)) x55.2 >>= fun xs56 => Res.val (x55.1 :: xs56.1, xs56.2)) s50 >>= fun x57 => (apR1 m__law_take) (MO.dct x57.2) x57.1 >>= fun r58 => ((fun (s50 : List (Key × PV)) (mo : MO) => moD mo >>= fun l => Res.val l) x57.2 r58.2) >>= fun s59 => Res.val (r58.1, s59))) ps60.1 ps60.2 >>= fun r61 => Res.val (PV.lst r61.1, r61.2)) s41 >>= fun x63 => noX (tupleP x63.1) >>= fun z64 => Res.val (z64, x63.2)) s16) >>= fun r67 => (fun (x65 : PV) (s66 : List (Key × PV)) => ((((((Res.val []) >>= fun ps72 => ((Res.val x15) >>= fun x70 => ((Res.val x65) >>= fun x68 => (Res.val []) >>= fun xs69 => Res.val (x68 :: xs69)) >>= fun xs71 => Res.val (x70 :: xs71)) >>= fun qs73 => ap2 m_source_places (g_source_places_0_many_settings ps72 qs73)) >>= fun x76 => ((Res.val x15) >>= fun x74 => (Res.val x65) >>= fun x75 => m__law_sources x74 x75) >>= fun x77 => (m__law_same 5) x76 x77) >>= asB) >>= fun b78 => Res.val (!b78)) >>= fun b79 => if b79 = true then ((Res.val (PV.bl false)) >>= fun v80 => Res.val (.rt v80 [])) else (seqF (S1 := List (Key × PV)) (noX ((fun (s81 : List (Key × PV)) => (fun (s84 : List (Key × PV)) => (fun (s93 : List (Key × PV)) => (fun (s85 : List (Key × PV)) => noX (Res.val x15) >>= fun v86 => Res.val (v86, s85)) s93 >>= fun x94 => (fun (s90 : List (Key × PV)) => (fun (s87 : List (Key × PV)) => noX (Res.val x65) >>= fun v88 => Res.val (v88, s87)) s90 >>= fun x91 => (fun (s89 : List (Key × PV)) => Res.val (([] : List PV), s89)) x91.2 >>= fun xs92 => Res.val (x91.1 :: xs92.1, xs92.2)) x94.2 >>= fun xs95 => Res.val (x94.1 :: xs95.1, xs95.2)) s84 >>= fun x96 => (apR2 m__law_wrong_settings) (MO.dct x96.2) x96.1 >>= fun r97 => ((fun (s84 : List (Key × PV)) (mo : MO) => moD mo >>= fun l => Res.val l) x96.2 r97.2) >>= fun s98 => Res.val (r97.1, s98)) s81 >>= fun x82 => asSq x82.1 >>= fun z83 => Res.val (z83, x82.2)) s66) >>= fun r110 => forF (fun (x109 : PV) (s100 : List (Key × PV)) => (fun x => Res.val x) x109 >>= fun (a101 : PV) => (((((Res.val x15) >>= fun x102 => (Res.val a101) >>= fun x103 => (Res.val (PV.int 0)) >>= fun x104 => m__law_refused x102 x103 x104) >>= asB) >>= fun b105 => Res.val (!b105)) >>= fun b106 => if b106 = true then ((Res.val (PV.bl false)) >>= fun v107 => Res.val (.rt v107 [])) else (Res.val (.nx s100)))) r110.1 ((fun (s99 : List (Key × PV)) => s99) r110.2)) fun s112 => (seqF (S1 := List (Key × PV)) (noX ((fun (s113 : List (Key × PV)) => (fun (s116 : List (Key × PV)) => (fun (s141 : List (Key × PV)) => (fun (s117 : List (Key × PV)) => (fun (s121 : List (Key × PV)) => (fun (s118 : List (Key × PV)) => noX (Res.val (PV.int 7)) >>= fun v119 => Res.val (v119, s118)) s121 >>= fun x122 => (fun (s120 : List (Key × PV)) => Res.val (([] : List PV), s120)) x122.2 >>= fun xs123 => Res.val (x122.1 :: xs123.1, xs123.2)) s117 >>= fun x124 => (apR1 m__law_take) (MO.dct x124.2) x124.1 >>= fun r125 => ((fun (s117 : List (Key × PV)) (mo : MO) => moD mo >>= fun l => Res.val l) x124.2 r125.2) >>= fun s126 => Res.val (r125.1, s126)) s141 >>= fun x142 => (fun (s138 : List (Key × PV)) => (fun (s127 : List (Key × PV)) => (fun (s131 : List (Key × PV)) => (fun (s128 : List (Key × PV)) => noX (Res.val (PV.int 13)) >>= fun v129 => Res.val (v129, s128)) s131 >>= fun x132 => (fun (s130 : List (Key × PV)) => Res.val (([] : List PV), s130)) x132.2 >>= fun xs133 => Res.val (x132.1 :: xs133.1, xs133.2)) s127 >>= fun x134 => (apR1 m__law_take) (MO.dct x134.2) x134.1 >>= fun r135 => ((fun (s127 : List (Key × PV)) (mo : MO) => moD mo >>= fun l => Res.val l) x134.2 r135.2) >>= fun s136 => Res.val (r135.1, s136)) s138 >>= fun x139 => (fun (s137 : List (Key × PV)) => Res.val (([] : List PV), s137)) x139.2 >>= fun xs140 => Res.val (x139.1 :: xs140.1, xs140.2)) x142.2 >>= fun xs143 => Res.val (x142.1 :: xs143.1, xs143.2)) s116 >>= fun x144 => mkL x144.1 >>= fun z145 => Res.val (z145, x144.2)) s113 >>= fun x114 => asSq x114.1 >>= fun z115 => Res.val (z115, x114.2)) s112) >>= fun r235 => forF (fun (x234 : PV) (s147 : List (Key × PV)) => (fun x => Res.val x) x234 >>= fun (a148 : PV) => ((((Res.val a148) >>= partP >>= fun i149 => Res.val ((0 : Int), i149)) >>= fun x151 => rgL x151.1 x151.2) >>= fun l152 => (noX ((fun (s153 : List PV × List (Key × PV)) => (fun (s176 : List PV × List (Key × PV)) => (fun (s155 : List PV × List (Key × PV)) => noX ((Res.val a148) >>= rng1) >>= fun z157 => Res.val (z157, s155)) s176 >>= fun ps174 => sized ps174.1.length >>= fun _ => lcE (fun x => Res.val x) (fun (a158 : PV) => (fun (s160 : List PV × List (Key × PV)) => Res.val (true, s160))) (fun (a158 : PV) => (fun (s161 : List PV × List (Key × PV)) => (fun (s162 : List PV × List (Key × PV)) => (fun (s166 : List PV × List (Key × PV)) => (fun (s163 : List PV × List (Key × PV)) => noX ((Res.val (PV.lst s163.1)) >>= lenP) >>= fun v164 => Res.val (v164, s163)) s166 >>= fun x167 => (fun (s165 : List PV × List (Key × PV)) => Res.val (([] : List PV), s165)) x167.2 >>= fun xs168 => Res.val (x167.1 :: xs168.1, xs168.2)) s162 >>= fun x169 => (apR1 m__law_take) (MO.dct x169.2.2) x169.1 >>= fun r170 => ((fun (s162 : List PV × List (Key × PV)) (mo : MO) => moD mo >>= fun l => Res.val (s162.1, l)) x169.2 r170.2) >>= fun s171 => Res.val (r170.1, s171)) s161 >>= fun k172 => popL k172.2.1 k172.1 >>= fun r173 => Res.val (r173.1, (r173.2, k172.2.2)))) ps174.1 ps174.2 >>= fun r175 => Res.val (PV.lst r175.1, r175.2)) s153 >>= fun x177 => noX (KT.tupleK x177.1) >>= fun z178 => Res.val (z178, x177.2)) (l152, s147)) >>= fun r181 => (fun (x179 : PV) (s180 : List PV × List (Key × PV)) => (((Res.val []) >>= fun ps184 => ((Res.val x179) >>= fun x182 => (Res.val []) >>= fun xs183 => Res.val (x182 :: xs183)) >>= fun qs185 => ap1 m_settings_for (g_settings_for_0_places ps184 qs185)) >>= fun x186 => ((((((Res.val x186) >>= fun x193 => ((Res.val x179) >>= m__law_goals) >>= fun x194 => (m__law_same 5) x193 x194) >>= asB) >>= fun b195 => Res.val (!b195)) >>= fun b196 => if b196 = true then Res.val true else (((((Res.val a148) >>= fun x187 => (Res.val x186) >>= fun x188 => m_source_places x187 x188) >>= fun x189 => (Res.val (unK x179)) >>= fun x190 => (m__law_same 5) x189 x190) >>= asB) >>= fun b191 => Res.val (!b191))) >>= fun b197 => if b197 = true then ((Res.val (PV.bl false)) >>= fun v198 => Res.val (.rt v198 [])) else (((((Res.val a148) >>= fun x199 => (Res.val x186) >>= fun x200 => m__law_sources x199 x200) >>= fun x201 => (Res.val (unK x179)) >>= fun x202 => neP x201 x202) >>= asB) >>= fun b203 => if b203 = true then ((Res.val (PV.bl false)) >>= fun v204 => Res.val (.rt v204 [])) else (seqF (S1 := List (Key × PV)) (noX ((fun (s205 : List (Key × PV)) => (fun (s208 : List (Key × PV)) => (fun (s212 : List (Key × PV)) => (fun (s209 : List (Key × PV)) => noX (Res.val (unK x179)) >>= fun v210 => Res.val (v210, s209)) s212 >>= fun x213 => (fun (s211 : List (Key × PV)) => Res.val (([] : List PV), s211)) x213.2 >>= fun xs214 => Res.val (x213.1 :: xs214.1, xs214.2)) s208 >>= fun x215 => (apR1 m__law_wrong_orders) (MO.dct x215.2) x215.1 >>= fun r216 => ((fun (s208 : List (Key × PV)) (mo : MO) => moD mo >>= fun l => Res.val l) x215.2 r216.2) >>= fun s217 => Res.val (r216.1, s217)) s205 >>= fun x206 => asSq x206.1 >>= fun z207 => Res.val (z207, x206.2)) s180.2) >>= fun r229 => forF (fun (x228 : PV) (s219 : List (Key × PV)) => (fun x => Res.val x) x228 >>= fun (a220 : PV) => (((((Res.val a148) >>= fun x221 => (Res.val a220) >>= fun x222 => (Res.val (PV.int 1)) >>= fun x223 => m__law_refused x221 x222 x223) >>= asB) >>= fun b224 => Res.val (!b224)) >>= fun b225 => if b225 = true then ((Res.val (PV.bl false)) >>= fun v226 => Res.val (.rt v226 [])) else (Res.val (.nx s219)))) r229.1 ((fun (s218 : List (Key × PV)) => s218) r229.2)) fun s231 => (Res.val (.nx s231))))))) r181.1 r181.2))) r235.1 ((fun (s146 : List (Key × PV)) => s146) r235.2)) fun s237 => ((Res.val (PV.bl true)) >>= fun v238 => Res.val (.rt v238 [])))))) r67.1 r67.2)))) r17.1 r17.2))
theorem ok_law (T : Top K mg) (hl : ∀ ns : List Int, ns.length ≤ 63 → m_law ns = .val (.bl true)) : FnOk P w K mg base CX0 7 T.f_law T.d_law ["script"] (spLaw K) := by
  have G__law_pool := ok__law_pool (P := P) (w := w) (base := base) T
  have G__law_take := ok__law_take (P := P) (w := w) (base := base) T
  have G__law_wrong_settings := ok__law_wrong_settings (P := P) (w := w) (base := base) T
  have G__law_same := ok__law_same (P := P) (w := w) (base := base) T 5
  have G_settings_for := ok_settings_for (P := P) (w := w) (base := base) T
  have G__law_wrong_orders := ok__law_wrong_orders (P := P) (w := w) (base := base) T
  have G_switch_places := ok_switch_places (P := P) (w := w) (base := base) T
  have G_source_places := ok_source_places (P := P) (w := w) (base := base) T
  have G__law_sources := ok__law_sources (P := P) (w := w) (base := base) T
  have G__law_refused := ok__law_refused (P := P) (w := w) (base := base) T
  have G__law_switches := ok__law_switches (P := P) (w := w) (base := base) T
  have G__law_goals := ok__law_goals (P := P) (w := w) (base := base) T
  refine fnLaw (cl := clT T) T.F_law sclaw hl fun cdv A outer s H E hr ns => ?_
  exact ⟨_, (pss_cons (ps_set (i := 1) sclaw.nd rfl (Or.inr rfl) (pe_callS G__law_pool (hr.mono (by decide)) (by rfl) T.m__law_pool T.F__law_pool.kp T.b__law_pool (fun σ => passAt takes0 σ) (pa_cons (pv 0) pa_nil)))
      (pss_cons (ps_set (i := 2) sclaw.nd rfl (Or.inr rfl) (pe_callS G__law_take (hr.mono (by decide)) (by rfl) T.m__law_take T.F__law_take.kp T.b__law_take (fun σ => passAt takes0 σ) (pa_cons (pv 1) (pa_cons pe_int pa_nil))))
      (pss_cons (ps_setLc (i := 3) (own := [("layer", 4)]) (g := gName 4) (tt := tYes) rfl sclaw.nd rfl rfl (sw_true rfl rfl rfl (by decide +kernel)) (pi_range1 (by rfl) T.z_range (pa_cons (pv 2) pa_nil)) (blkOk_by (own := [("layer", 4)]) (N := ["script", "pool", "many", "layers", "layer", "pair", "settings", "switch", "wrong", "size", "rest", "order", "k", "told"]) (sc := defScope s_law) (by decide +kernel)) (fun _ _ _ _ _ => (pg_name (i := 4) sclaw.nd rfl (Or.inr rfl))) (fun _ _ _ _ _ => pts_nil) (fun _ _ _ _ _ => (pe_callTy (call_tupleV K rfl) (by rfl) T.z_tuple (by decide +kernel) (pa_cons (pe_lc (own := [("pair", 5)]) (g := gName 5)  rfl sclaw.nd (pi_seqV K rfl (pe_callS G__law_switches (hr.mono (by decide)) (by rfl) T.m__law_switches T.F__law_switches.kp T.b__law_switches (fun σ => passAt takes0 σ) (pa_cons (pv 2) pa_nil))) (blkOk_by (own := [("pair", 5)]) (N := ["script", "pool", "many", "layers", "layer", "pair", "settings", "switch", "wrong", "size", "rest", "order", "k", "told"]) (sc := relS _ (defScope s_law)) (by decide +kernel)) (fun _ _ _ _ _ => (pg_name (i := 5) sclaw.nd rfl (Or.inl rfl))) (fun _ _ _ _ _ => (pts_one (pt_cmpR (op_eqV K rfl hr.units) (pe_ix (ix_VK K rfl) (pv 5) pe_int (fun _ _ => rfl)) (pv 4) (nomark _)))) (fun _ _ _ _ _ => (pe_ix (ix_VK K rfl) (pv 5) pe_int (fun _ _ => rfl)))) pa_nil))))
      (pss_cons (ps_if (pt_not (pt_val (pe_callS G__law_same (hr.mono (by decide)) (by rfl) T.m__law_same T.F__law_same.kp T.b__law_same (fun σ => passAt takes0 σ) (pa_cons (pe_callKS0 G_switch_places (hr.mono (by decide)) rfl T.m_switch_places T.F_switch_places.kp T.k_switch_places_0_many (fun σ => passAt takes0 σ) (pk_cons (pv 2) pk_nil)) (pa_cons (pe_callTy (call_tupleV K rfl) (by rfl) T.z_tuple (by decide +kernel) (pa_cons (pv 3) pa_nil)) pa_nil))))) (pss_one (ps_ret pe_bl)) pss_nil)
      (pss_cons (ps_set (i := 6) sclaw.nd rfl (Or.inl rfl) (pe_callTy (call_tupleV K rfl) (by rfl) T.z_tuple (by decide +kernel) (pa_cons (pe_lc (own := [("switch", 7)]) (g := gName 7) (tt := tYes) rfl sclaw.nd (pi_seqV K rfl (pe_callS G__law_switches (hr.mono (by decide)) (by rfl) T.m__law_switches T.F__law_switches.kp T.b__law_switches (fun σ => passAt takes0 σ) (pa_cons (pv 2) pa_nil))) (blkOk_by (own := [("switch", 7)]) (N := ["script", "pool", "many", "layers", "layer", "pair", "settings", "switch", "wrong", "size", "rest", "order", "k", "told"]) (sc := defScope s_law) (by decide +kernel)) (fun _ _ _ _ _ => (pg_name (i := 7) sclaw.nd rfl (Or.inl rfl))) (fun _ _ _ _ _ => pts_nil) (fun _ _ _ _ _ => (pe_callS G__law_take (hr.mono (by decide)) (by rfl) T.m__law_take T.F__law_take.kp T.b__law_take (fun σ => passAt takes0 σ) (pa_cons (pv 1) (pa_cons pe_int pa_nil))))) pa_nil)))
      (pss_cons (ps_if (pt_not (pt_val (pe_callS G__law_same (hr.mono (by decide)) (by rfl) T.m__law_same T.F__law_same.kp T.b__law_same (fun σ => passAt takes0 σ) (pa_cons (pe_callKS0 G_source_places (hr.mono (by decide)) rfl T.m_source_places T.F_source_places.kp T.k_source_places_0_many_settings (fun σ => passAt takes0 σ) (pk_cons (pv 2) (pk_cons (pv 6) pk_nil))) (pa_cons (pe_callS G__law_sources (hr.mono (by decide)) (by rfl) T.m__law_sources T.F__law_sources.kp T.b__law_sources (fun σ => passAt takes0 σ) (pa_cons (pv 2) (pa_cons (pv 6) pa_nil))) pa_nil))))) (pss_one (ps_ret pe_bl)) pss_nil)
      (pss_cons (ps_for PassesOwn.never rfl (pi_seqV K rfl (pe_callS G__law_wrong_settings (hr.mono (by decide)) (by rfl) T.m__law_wrong_settings T.F__law_wrong_settings.kp T.b__law_wrong_settings (fun σ => passAt takes0 σ) (pa_cons (pv 1) (pa_cons (pv 2) (pa_cons (pv 6) pa_nil))))) (pg_name (i := 8) sclaw.nd rfl (Or.inl rfl)) (pss_one (ps_if (pt_not (pt_val (pe_callS G__law_refused (hr.mono (by decide)) (by rfl) T.m__law_refused T.F__law_refused.kp T.b__law_refused (fun σ => passAt takes0 σ) (pa_cons (pv 2) (pa_cons (pv 8) (pa_cons pe_int pa_nil)))))) (pss_one (ps_ret pe_bl)) pss_nil)))
      (pss_cons (ps_for PassesOwn.never rfl (pi_seqV K rfl (pe_lst (pa_cons (pe_callS G__law_take (hr.mono (by decide)) (by rfl) T.m__law_take T.F__law_take.kp T.b__law_take (fun σ => passAt takes0 σ) (pa_cons (pv 1) (pa_cons pe_int pa_nil))) (pa_cons (pe_callS G__law_take (hr.mono (by decide)) (by rfl) T.m__law_take T.F__law_take.kp T.b__law_take (fun σ => passAt takes0 σ) (pa_cons (pv 1) (pa_cons pe_int pa_nil))) pa_nil)))) (pg_name (i := 9) sclaw.nd rfl (Or.inl rfl)) (pss_cons (ps_set (i := 10) sclaw.nd rfl (Or.inr rfl) (pe_listRg rfl (by rfl) T.z_list (prg_1 (by rfl) T.z_range (pv 9))))
      (pss_cons (ps_set (i := 11) sclaw.nd rfl (Or.inl rfl) (pe_callTy (KT.call_tupleK K rfl) (by rfl) T.z_tuple (by decide +kernel) (pa_cons (pe_lc (own := [("k", 12)]) (g := gName 12) (tt := tYes) rfl sclaw.nd (pi_range1 (by rfl) T.z_range (pa_cons (pv 9) pa_nil)) (blkOk_by (own := [("k", 12)]) (N := ["script", "pool", "many", "layers", "layer", "pair", "settings", "switch", "wrong", "size", "rest", "order", "k", "told"]) (sc := defScope s_law) (by decide +kernel)) (fun _ _ _ _ _ => (pg_name (i := 12) sclaw.nd rfl (Or.inl rfl))) (fun _ _ _ _ _ => pts_nil) (fun _ _ _ _ _ => (pe_bm PySem.F.plainAttrs_list PySem.F.slot_list_pop PySem.F.type_list_pop mt_popAt (pv 10) (pa_cons (pe_callS G__law_take (hr.mono (by decide)) (by rfl) T.m__law_take T.F__law_take.kp T.b__law_take (fun σ => passAt takes0 σ) (pa_cons (pv 1) (pa_cons (pe_callB (call_lenVK K rfl) (by rfl) T.z_len PySem.boot_len (pa_cons (pv 10) pa_nil)) pa_nil))) pa_nil)))) pa_nil)))
      (pss_cons (ps_set (i := 13) sclaw.nd rfl (Or.inl rfl) (pe_callKS0 G_settings_for (hr.mono (by decide)) rfl T.m_settings_for T.F_settings_for.kp T.k_settings_for_0_places (fun σ => passAt takes0 σ) (pk_cons (pv 11) pk_nil)))
      (pss_cons (ps_if (PW.pt (pw_or (pt_not (pt_val (pe_callS G__law_same (hr.mono (by decide)) (by rfl) T.m__law_same T.F__law_same.kp T.b__law_same (fun σ => passAt takes0 σ) (pa_cons (pv 13) (pa_cons (pe_callS G__law_goals (hr.mono (by decide)) (by rfl) T.m__law_goals T.F__law_goals.kp T.b__law_goals (fun σ => passAt takes0 σ) (pa_cons (pv 11) pa_nil)) pa_nil))))) (pw_or1 (pt_not (pt_val (pe_callS G__law_same (hr.mono (by decide)) (by rfl) T.m__law_same T.F__law_same.kp T.b__law_same (fun σ => passAt takes0 σ) (pa_cons (pe_callS G_source_places (hr.mono (by decide)) (by rfl) T.m_source_places T.F_source_places.kp T.b_source_places (fun σ => passAt takes0 σ) (pa_cons (pv 9) (pa_cons (pv 13) pa_nil))) (pa_cons (pv 11) pa_nil)))))))) (pss_one (ps_ret pe_bl)) pss_nil)
      (pss_cons (ps_if (pt_cmpR (op_neV K rfl hr.units) (pe_callS G__law_sources (hr.mono (by decide)) (by rfl) T.m__law_sources T.F__law_sources.kp T.b__law_sources (fun σ => passAt takes0 σ) (pa_cons (pv 9) (pa_cons (pv 13) pa_nil))) (pv 11) (nomark _)) (pss_one (ps_ret pe_bl)) pss_nil)
      (pss_one (ps_for PassesOwn.never rfl (pi_seqV K rfl (pe_callS G__law_wrong_orders (hr.mono (by decide)) (by rfl) T.m__law_wrong_orders T.F__law_wrong_orders.kp T.b__law_wrong_orders (fun σ => passAt takes0 σ) (pa_cons (pv 1) (pa_cons (pv 11) pa_nil)))) (pg_name (i := 8) sclaw.nd rfl (Or.inl rfl)) (pss_one (ps_if (pt_not (pt_val (pe_callS G__law_refused (hr.mono (by decide)) (by rfl) T.m__law_refused T.F__law_refused.kp T.b__law_refused (fun σ => passAt takes0 σ) (pa_cons (pv 9) (pa_cons (pv 8) (pa_cons pe_int pa_nil)))))) (pss_one (ps_ret pe_bl)) pss_nil))))))))))
      (pss_one (ps_ret pe_bl)))))))))),
    _, run_one (run_assoc (run_setowd (i := 1) (nd_callN (pl_cons (pu_var rfl) pl_nil)) rfl (wk_uns rfl) fun d4 => (run_assoc (run_setE (i := 2) (ρs := (fun (s240 : List (Key × PV)) => [(.fz (PV.fls (List.map PV.int ns))), (.ow (.dct s240)), .un, .un, .un, .un, .un, .un, .un, .un, .un, .un, .un, .un])) (s0 := d4) (ef_callR (i := 1) (sl := (fun (s5 : List (Key × PV)) => (.ow (.dct s5)))) (get := (fun (s5 : List (Key × PV)) => MO.dct s5)) (put := (fun (s5 : List (Key × PV)) (mo : MO) => moD mo >>= fun l => Res.val l)) (fun _ => rfl) (fun _ => Or.inl rfl) (fun s mo s' h => by cases mo <;> first | (cases h; rfl) | cases h) (el_cons (ef_pure (W := (fun _ _ _ _ => False)) fun s6 => pu_int) el_nil)) rfl (fun _ => rfl) fun x15 s16 => (run_assoc (run_set (i := 3) (New.pur (nw_lc (ρe := fun (a18 : PV) => [(.fz (PV.fls (List.map PV.int ns))), (.ow (.dct s16)), (.fz x15), .un, (.fz a18), .un, .un, .un, .un, .un, .un, .un, .un, .un]) (Iter.view (it_rng1 (Pur.vw (pu_var rfl)))) rfl (by decide) (tg_name (i := 4) rfl (Or.inr (by decide))) (fun a18 => ts_yes) (fun a18 => (pu_cb1 b1_tuple (Pur.vw (New.pur (nw_lc (ρe := fun (a20 : PV) => [(.fz (PV.fls (List.map PV.int ns))), (.ow (.dct s16)), (.fz x15), .un, (.fz a18), (.fz a20), .un, .un, .un, .un, .un, .un, .un, .un]) (Iter.view (it_seq (pu_call1 (pu_var rfl)))) rfl (by decide) (tg_name (i := 5) rfl (Or.inr (by decide))) (fun a20 => (ts_cmp (Pur.vw (pu_op o2_eq (Pur.vw (pu_op o2_ix (Pur.vw (pu_var rfl)) (Pur.vw pu_int))) (Pur.vw (pu_var rfl)))))) (fun a20 => (pu_op o2_ix (Pur.vw (pu_var rfl)) (Pur.vw pu_int)))))))))) rfl (wk_uns rfl) fun x31 => (run_assoc (run_if (ts_not (ts_val (Pur.vw (pu_call2 (pu_callKS g_switch_places_0_many_is pl_nil (pl_cons (pu_var rfl) pl_nil)) (pu_cb1 b1_tuple (Pur.vw (pu_var rfl))))))) (wk_uns rfl) (run_ret pu_bl rfl rfl (wk_uns rfl)) (run_skip (run_assoc (run_setE (i := 6) (ρs := (fun (s239 : List (Key × PV)) => [(.fz (PV.fls (List.map PV.int ns))), (.ow (.dct s239)), (.fz x15), (.fz x31), .un, .un, .un, .un, .un, .un, .un, .un, .un, .un])) (s0 := s16) (ef_cb1 b1_tuple (ef_lc (ρe := fun (a47 : PV) (s48 : List (Key × PV)) => [(.fz (PV.fls (List.map PV.int ns))), (.ow (.dct s48)), (.fz x15), (.fz x31), .un, .un, .un, (.fz a47), .un, .un, .un, .un, .un, .un]) (ei_pure (W := (fun _ _ _ _ => False)) fun s43 => (it_seq (pu_call1 (pu_var rfl)))) (fun _ => rfl) (by decide) (fun _ => (tg_name (i := 7) rfl (Or.inr (by decide)))) (fun _ _ => rfl) (fun _ _ => rfl) (fun a47 => et_yes) (fun a47 => (ef_callR (i := 1) (sl := (fun (s50 : List (Key × PV)) => (.ow (.dct s50)))) (get := (fun (s50 : List (Key × PV)) => MO.dct s50)) (put := (fun (s50 : List (Key × PV)) (mo : MO) => moD mo >>= fun l => Res.val l)) (fun _ => rfl) (fun _ => Or.inl rfl) (fun s mo s' h => by cases mo <;> first | (cases h; rfl) | cases h) (el_cons (ef_pure (W := (fun _ _ _ _ => False)) fun s51 => pu_int) el_nil))))) rfl (fun _ => rfl) fun x65 s66 => (run_assoc (run_if (ts_not (ts_val (Pur.vw (pu_call2 (pu_callKS g_source_places_0_many_settings_is pl_nil (pl_cons (pu_var rfl) (pl_cons (pu_var rfl) pl_nil))) (pu_call2 (pu_var rfl) (pu_var rfl)))))) (wk_uns rfl) (run_ret pu_bl rfl rfl (wk_uns rfl)) (run_skip (run_assoc (run_seq (ρj := fun (s112 : List (Key × PV)) => [(.fz (PV.fls (List.map PV.int ns))), (.ow (.dct s112)), (.fz x15), (.fz x31), .un, .un, (.fz x65), .un, .un, .un, .un, .un, .un, .un]) (run_forE (ρs := (fun (s111 : List (Key × PV)) => [(.fz (PV.fls (List.map PV.int ns))), (.ow (.dct s111)), (.fz x15), (.fz x31), .un, .un, (.fz x65), .un, .un, .un, .un, .un, .un, .un])) (s0 := s66) (st := (fun (s99 : List (Key × PV)) => s99)) (ρs' := fun (s100 : List (Key × PV)) => [(.fz (PV.fls (List.map PV.int ns))), (.ow (.dct s100)), (.fz x15), (.fz x31), .un, .un, (.fz x65), .un, .un, .un, .un, .un, .un, .un]) (ρe := fun (s100 : List (Key × PV)) (a101 : PV) => [(.fz (PV.fls (List.map PV.int ns))), (.ow (.dct s100)), (.fz x15), (.fz x31), .un, .un, (.fz x65), .un, (.fz a101), .un, .un, .un, .un, .un]) (ei_seq (ef_callR (i := 1) (sl := (fun (s84 : List (Key × PV)) => (.ow (.dct s84)))) (get := (fun (s84 : List (Key × PV)) => MO.dct s84)) (put := (fun (s84 : List (Key × PV)) (mo : MO) => moD mo >>= fun l => Res.val l)) (fun _ => rfl) (fun _ => Or.inl rfl) (fun s mo s' h => by cases mo <;> first | (cases h; rfl) | cases h) (el_cons (ef_pure (W := (fun _ _ _ _ => False)) fun s85 => (pu_var rfl)) (el_cons (ef_pure (W := (fun _ _ _ _ => False)) fun s87 => (pu_var rfl)) el_nil)))) rfl (fun s99 => (.keep (.keep (.keep (.keep (.keep (.keep (.keep (.keep (.keep (.keep (.keep (.keep (.keep (.keep .nil))))))))))))))) (fun s100 => (tg_name (i := 8) rfl (Or.inl rfl))) (fun a101 s100 => run_one (run_if (ts_not (ts_val (Pur.vw (pu_call3 (pu_var rfl) (pu_var rfl) pu_int)))) (wk_uns rfl) (run_ret pu_bl rfl rfl (wk_uns rfl)) (run_skip (run_next (s := s100) (.keep (.keep (.keep (.keep (.keep (.keep (.keep (.keep (.drop (.keep (.keep (.keep (.keep (.keep .nil))))))))))))))))))) fun s112 => (run_assoc (run_seq (ρj := fun (s237 : List (Key × PV)) => [(.fz (PV.fls (List.map PV.int ns))), (.ow (.dct s237)), (.fz x15), (.fz x31), .un, .un, (.fz x65), .un, .un, .un, .un, .un, .un, .un]) (run_forE (ρs := (fun (s236 : List (Key × PV)) => [(.fz (PV.fls (List.map PV.int ns))), (.ow (.dct s236)), (.fz x15), (.fz x31), .un, .un, (.fz x65), .un, .un, .un, .un, .un, .un, .un])) (s0 := s112) (st := (fun (s146 : List (Key × PV)) => s146)) (ρs' := fun (s147 : List (Key × PV)) => [(.fz (PV.fls (List.map PV.int ns))), (.ow (.dct s147)), (.fz x15), (.fz x31), .un, .un, (.fz x65), .un, .un, .un, .un, .un, .un, .un]) (ρe := fun (s147 : List (Key × PV)) (a148 : PV) => [(.fz (PV.fls (List.map PV.int ns))), (.ow (.dct s147)), (.fz x15), (.fz x31), .un, .un, (.fz x65), .un, .un, (.fz a148), .un, .un, .un, .un]) (ei_seq (ef_lst (el_cons (ef_callR (i := 1) (sl := (fun (s117 : List (Key × PV)) => (.ow (.dct s117)))) (get := (fun (s117 : List (Key × PV)) => MO.dct s117)) (put := (fun (s117 : List (Key × PV)) (mo : MO) => moD mo >>= fun l => Res.val l)) (fun _ => rfl) (fun _ => Or.inl rfl) (fun s mo s' h => by cases mo <;> first | (cases h; rfl) | cases h) (el_cons (ef_pure (W := (fun _ _ _ _ => False)) fun s118 => pu_int) el_nil)) (el_cons (ef_callR (i := 1) (sl := (fun (s127 : List (Key × PV)) => (.ow (.dct s127)))) (get := (fun (s127 : List (Key × PV)) => MO.dct s127)) (put := (fun (s127 : List (Key × PV)) (mo : MO) => moD mo >>= fun l => Res.val l)) (fun _ => rfl) (fun _ => Or.inl rfl) (fun s mo s' h => by cases mo <;> first | (cases h; rfl) | cases h) (el_cons (ef_pure (W := (fun _ _ _ _ => False)) fun s128 => pu_int) el_nil)) el_nil)))) rfl (fun s146 => (.keep (.keep (.keep (.keep (.keep (.keep (.keep (.keep (.keep (.keep (.keep (.keep (.keep (.keep .nil))))))))))))))) (fun s147 => (tg_name (i := 9) rfl (Or.inl rfl))) (fun a148 s147 => run_one (run_assoc (run_setow (i := 10) (nw_listRg (rg_1 (Pur.vw (pu_var rfl)))) rfl (wk_uns rfl) fun l152 => (run_assoc (run_setE (i := 11) (ρs := (fun (s232 : List PV × List (Key × PV)) => [(.fz (PV.fls (List.map PV.int ns))), (.ow (.dct s232.2)), (.fz x15), (.fz x31), .un, .un, (.fz x65), .un, .un, (.fz a148), (.ow (.lst s232.1)), .un, .un, .un])) (s0 := (l152, s147)) (ef_cb1 KT.b1_tupleK (ef_lc (ρe := fun (a158 : PV) (s159 : List PV × List (Key × PV)) => [(.fz (PV.fls (List.map PV.int ns))), (.ow (.dct s159.2)), (.fz x15), (.fz x31), .un, .un, (.fz x65), .un, .un, (.fz a148), (.ow (.lst s159.1)), .un, (.fz a158), .un]) (ei_pure (W := (fun _ _ _ _ => False)) fun s155 => (it_rng1 (Pur.vw (pu_var rfl)))) (fun _ => rfl) (by decide) (fun _ => (tg_name (i := 12) rfl (Or.inr (by decide)))) (fun _ _ => rfl) (fun _ _ => rfl) (fun a158 => et_yes) (fun a158 => (ef_pop (i := 10) (sl := (fun (s161 : List PV × List (Key × PV)) => (.ow (.lst s161.1)))) (get := (fun (s161 : List PV × List (Key × PV)) => s161.1)) (put := (fun (s161 : List PV × List (Key × PV)) (l : List PV) => (l, s161.2))) (fun _ => rfl) (fun _ => Or.inl rfl) (fun _ _ => rfl) (ef_callR (i := 1) (sl := (fun (s162 : List PV × List (Key × PV)) => (.ow (.dct s162.2)))) (get := (fun (s162 : List PV × List (Key × PV)) => MO.dct s162.2)) (put := (fun (s162 : List PV × List (Key × PV)) (mo : MO) => moD mo >>= fun l => Res.val (s162.1, l))) (fun _ => rfl) (fun _ => Or.inl rfl) (fun s mo s' h => by cases mo <;> first | (cases h; rfl) | cases h) (el_cons (ef_pure (W := (fun _ _ _ _ => False)) fun s163 => (pu_cb1 b1_len (vw_own rfl))) el_nil)))))) rfl (fun _ => rfl) fun x179 s180 => (run_assoc (run_set (i := 13) (pu_callKS g_settings_for_0_places_is pl_nil (pl_cons (pu_var rfl) pl_nil)) rfl (wk_uns rfl) fun x186 => (run_assoc (run_if (ts_or (ts_not (ts_val (Pur.vw (pu_call2 (pu_var rfl) (pu_call1 (pu_var rfl)))))) (ts_not (ts_val (Pur.vw (pu_call2 (pu_call2 (pu_var rfl) (pu_var rfl)) (pu_varK rfl)))))) (wk_uns rfl) (run_ret pu_bl rfl rfl (wk_uns rfl)) (run_skip (run_assoc (run_if (ts_cmp (Pur.vw (pu_op o2_ne (Pur.vw (pu_call2 (pu_var rfl) (pu_var rfl))) (Pur.vw (pu_varK rfl))))) (wk_uns rfl) (run_ret pu_bl rfl rfl (wk_uns rfl)) (run_skip (run_seq (ρj := fun (s231 : List (Key × PV)) => [(.fz (PV.fls (List.map PV.int ns))), (.ow (.dct s231)), (.fz x15), (.fz x31), .un, .un, (.fz x65), .un, .un, (.fz a148), (.ow (.lst s180.1)), (.fz x179), .un, (.fz x186)]) (run_forE (ρs := (fun (s230 : List (Key × PV)) => [(.fz (PV.fls (List.map PV.int ns))), (.ow (.dct s230)), (.fz x15), (.fz x31), .un, .un, (.fz x65), .un, .un, (.fz a148), (.ow (.lst s180.1)), (.fz x179), .un, (.fz x186)])) (s0 := s180.2) (st := (fun (s218 : List (Key × PV)) => s218)) (ρs' := fun (s219 : List (Key × PV)) => [(.fz (PV.fls (List.map PV.int ns))), (.ow (.dct s219)), (.fz x15), (.fz x31), .un, .un, (.fz x65), .un, .un, (.fz a148), (.ow (.lst s180.1)), (.fz x179), .un, (.fz x186)]) (ρe := fun (s219 : List (Key × PV)) (a220 : PV) => [(.fz (PV.fls (List.map PV.int ns))), (.ow (.dct s219)), (.fz x15), (.fz x31), .un, .un, (.fz x65), .un, (.fz a220), (.fz a148), (.ow (.lst s180.1)), (.fz x179), .un, (.fz x186)]) (ei_seq (ef_callR (i := 1) (sl := (fun (s208 : List (Key × PV)) => (.ow (.dct s208)))) (get := (fun (s208 : List (Key × PV)) => MO.dct s208)) (put := (fun (s208 : List (Key × PV)) (mo : MO) => moD mo >>= fun l => Res.val l)) (fun _ => rfl) (fun _ => Or.inl rfl) (fun s mo s' h => by cases mo <;> first | (cases h; rfl) | cases h) (el_cons (ef_pure (W := (fun _ _ _ _ => False)) fun s209 => (pu_varK rfl)) el_nil))) rfl (fun s218 => (.keep (.keep (.keep (.keep (.keep (.keep (.keep (.keep (.keep (.keep (.keep (.keep (.keep (.keep .nil))))))))))))))) (fun s219 => (tg_name (i := 8) rfl (Or.inl rfl))) (fun a220 s219 => run_one (run_if (ts_not (ts_val (Pur.vw (pu_call3 (pu_var rfl) (pu_var rfl) pu_int)))) (wk_uns rfl) (run_ret pu_bl rfl rfl (wk_uns rfl)) (run_skip (run_next (s := s219) (.keep (.keep (.keep (.keep (.keep (.keep (.keep (.keep (.drop (.keep (.keep (.keep (.keep (.keep .nil))))))))))))))))))) fun s231 => (run_next (s := s231) (.keep (.keep (.keep (.keep (.keep (.keep (.keep (.keep (.keep (.drop (.drop (.drop (.keep (.drop .nil)))))))))))))))))))))))))))))) fun s237 => (run_ret pu_bl rfl rfl (wk_uns rfl)))))))))))))))))))), by unfold m_law; dsimp only [brs, List.set]⟩
end
section
variable {S L S1 : Type}
@[simp] theorem retF_rt {v : PV} {r : List MO} : retF (.val (.rt v r)) = .val v := rfl
@[simp] theorem retF_nx : retF (.val (.nx ())) = .val .non := rfl
@[simp] theorem retF_exc {c : Str} : retF (.exc c) = .exc c := rfl
@[simp] theorem retR_rt {v : PV} {mo : MO} : retR (.val (.rt v [mo])) = .val (v, mo) := rfl
@[simp] theorem retR_nx {mo : MO} : retR (.val (.nx mo)) = .val (.non, mo) := rfl
@[simp] theorem retN_ro {mo : MO} {r : List MO} : retN (.val (.ro mo r)) = .val mo := rfl
@[simp] theorem seqF_nx {s : S1} {n : S1 → Res (Fl S L)} : seqF (.val (.nx s)) n = n s := rfl
@[simp] theorem seqF_rt {v : PV} {r : List MO} {n : S1 → Res (Fl S L)} : seqF (.val (.rt v r)) n = .val (.rt v r) := rfl
@[simp] theorem seqF_exc {c : Str} {n : S1 → Res (Fl S L)} : seqF (.exc c) n = .exc c := rfl
@[simp] theorem noX_val {α : Type} {a : α} : noX (.val a) = .val a := rfl
@[simp] theorem asB_bl {b : Bool} : asB (.bl b) = .val b := rfl
@[simp] theorem asSq_tup {l : List PV} : asSq (.tup l) = .val l := rfl
@[simp] theorem asSq_lst {l : List PV} : asSq (.lst l) = .val l := rfl
@[simp] theorem asSq_fls {l : List PV} : asSq (.fls l) = .val l := rfl
@[simp] theorem asLi_lst {l : List PV} : asLi (.lst l) = .val l := rfl
@[simp] theorem asTu_tup {l : List PV} : asTu (.tup l) = .val l := rfl
@[simp] theorem partP_int {i : Int} : partP (.int i) = .val i := rfl
@[simp] theorem moL_lst {l : List PV} : moL (.lst l) = .val l := rfl
@[simp] theorem moD_dct {l : List (Key × PV)} : moD (.dct l) = .val l := rfl
@[simp] theorem addP_int {a b : Int} : addP (.int a) (.int b) = .val (.int (a + b)) := rfl
@[simp] theorem subP_int {a b : Int} : subP (.int a) (.int b) = .val (.int (a - b)) := rfl
@[simp] theorem negP_int {a : Int} : negP (.int a) = .val (.int (-a)) := rfl
@[simp] theorem ltP_int {a b : Int} : ltP (.int a) (.int b) = .val (.bl (decide (a < b))) := rfl
@[simp] theorem leP_int {a b : Int} : leP (.int a) (.int b) = .val (.bl (decide (a ≤ b))) := rfl
@[simp] theorem gtP_int {a b : Int} : gtP (.int a) (.int b) = .val (.bl (decide (b < a))) := rfl
@[simp] theorem geP_int {a b : Int} : geP (.int a) (.int b) = .val (.bl (decide (b ≤ a))) := rfl
@[simp] theorem intP_int {a : Int} : intP (.int a) = .val (.int a) := rfl
@[simp] theorem intP_bl {b : Bool} : intP (.bl b) = .val (.int (if b then 1 else 0)) := rfl
@[simp] theorem listP_sq {l : List PV} : listP (.tup l) = .val (.lst l) := rfl
@[simp] theorem listP_lst {l : List PV} : listP (.lst l) = .val (.lst l) := rfl
@[simp] theorem listP_fls {l : List PV} : listP (.fls l) = .val (.lst l) := rfl
@[simp] theorem tupleP_lst {l : List PV} : tupleP (.lst l) = .val (.tup l) := rfl
@[simp] theorem tupleP_tup {l : List PV} : tupleP (.tup l) = .val (.tup l) := rfl
@[simp] theorem lenP_tup {l : List PV} : lenP (.tup l) = .val (.int l.length) := rfl
@[simp] theorem lenP_lst {l : List PV} : lenP (.lst l) = .val (.int l.length) := rfl
@[simp] theorem lenP_fls {l : List PV} : lenP (.fls l) = .val (.int l.length) := rfl
@[simp] theorem isP_non {p : PV} : isP p .non = .val (.bl (isNo p)) := rfl
@[simp] theorem isnP_non {p : PV} : isnP p .non = .val (.bl (!isNo p)) := rfl
@[simp] theorem ap1_one {f : PV → Res PV} {a : PV} : ap1 f [a] = f a := rfl
@[simp] theorem ap2_two {f : PV → PV → Res PV} {a b : PV} : ap2 f [a, b] = f a b := rfl
@[simp] theorem ap3_three {f : PV → PV → PV → Res PV} {a b c : PV} : ap3 f [a, b, c] = f a b c := rfl
@[simp] theorem ap4_four {f : PV → PV → PV → PV → Res PV} {a b c d : PV} : ap4 f [a, b, c, d] = f a b c d := rfl
@[simp] theorem ap5_five {f : PV → PV → PV → PV → PV → Res PV} {a b c d e : PV} : ap5 f [a, b, c, d, e] = f a b c d e := rfl
@[simp] theorem apR0_z {f : MO → Res (PV × MO)} {mo : MO} : apR0 f mo [] = f mo := rfl
@[simp] theorem apR1_o {f : MO → PV → Res (PV × MO)} {mo : MO} {a : PV} : apR1 f mo [a] = f mo a := rfl
@[simp] theorem apR2_t {f : MO → PV → PV → Res (PV × MO)} {mo : MO} {a b : PV} : apR2 f mo [a, b] = f mo a b := rfl
@[simp] theorem apR3_t {f : MO → PV → PV → PV → Res (PV × MO)} {mo : MO} {a b c : PV} : apR3 f mo [a, b, c] = f mo a b c := rfl
@[simp] theorem apN1_o {f : PV → Res MO} {a : PV} : apN1 f [a] = f a := rfl
@[simp] theorem apN2_t {f : PV → PV → Res MO} {a b : PV} : apN2 f [a, b] = f a b := rfl
theorem sized_small {n : Nat} (h : n ≤ 10000000) : sized n = .val () := if_pos (Nat.le_trans h (by unfold sizeLine; decide))
theorem mkT_ok {l : List PV} (h : l.length ≤ 10000000) : mkT l = .val (.tup l) := by unfold mkT; rw [sized_small h]; rfl
theorem mkL_ok {l : List PV} (h : l.length ≤ 10000000) : mkL l = .val (.lst l) := by unfold mkL; rw [sized_small h]; rfl
theorem mkN_ok {l : List PV} (h : l.length ≤ 10000000) : mkN l = .val l := by unfold mkN; rw [sized_small h]; rfl
theorem mulI_int {a b : Int} (h : CMul a b) : mulI (.int a) (.int b) = .val (.int (a * b)) := by
  unfold mulI orS ints2
  simp only [if_pos h]
theorem mulP_int {a b : Int} (h : CMul a b) : mulP (.int a) (.int b) = .val (.int (a * b)) := by
  unfold mulP orS
  rw [mulI_int h]
theorem mulP_l {a b : Int} (h1 : -(2 ^ 64) < a) (h2 : a < 2 ^ 64) : mulP (.int a) (.int b) = .val (.int (a * b)) := mulP_int (.inl ⟨h1, h2⟩)
theorem mulP_r {a b : Int} (h1 : -(2 ^ 64) < b) (h2 : b < 2 ^ 64) : mulP (.int a) (.int b) = .val (.int (a * b)) := mulP_int (.inr ⟨h1, h2⟩)
theorem modP_int {a b : Int} (h : b ≠ 0) : modP (.int a) (.int b) = .val (.int (a.fmod b)) := if_pos h
theorem modP_pos {a b : Int} (h : 0 < b) : modP (.int a) (.int b) = .val (.int (a % b)) := by
  rw [modP_int (by omega), Int.fmod_eq_emod_of_nonneg a (by omega)]
theorem fdivP_pos {a b : Int} (h : 0 < b) (h2 : b < 10000000000000000000000000000000000000000000000000000000000000000000000) : fdivP (.int a) (.int b) = .val (.int (a / b)) := by
  unfold fdivP orS ints2
  by_cases c : CDivN a b
  · simp only [if_pos c]
    rw [Int.fdiv_eq_ediv_of_nonneg a (by omega)]
  · have c2 : CDivW a b := ⟨h, Nat.lt_of_lt_of_le ((Nat.log2_lt (k := 250) (by omega)).mpr (Nat.lt_of_lt_of_le (show b.natAbs < 10000000000000000000000000000000000000000000000000000000000000000000000 by omega) (by decide))) (by decide)⟩
    simp only [if_neg c, if_pos c2]
theorem ixP_tup {l : List PV} {i : Nat} {p : PV} (h : l[i]? = some p) : ixP (.tup l) (.int (i : Nat)) = .val p := by
  unfold ixP
  have : atI l ((i : Nat) : Int) = some p := atI_nat h
  simp only [this]
theorem ixP_lst {l : List PV} {i : Nat} {p : PV} (h : l[i]? = some p) : ixP (.lst l) (.int (i : Nat)) = .val p := by
  unfold ixP
  have : atI l ((i : Nat) : Int) = some p := atI_nat h
  simp only [this]
theorem rng1_ok {j : Int} (h : 0 ≤ j) (h2 : j < 2 ^ 62) : rng1 (.int j) = .val (rngP 0 j) := if_pos ⟨by omega, h2⟩
theorem allP_bls {bs : List Bool} : allP (.lst (bs.map PV.bl)) = .val (.bl (bs.all id)) := by
  unfold allP
  rw [asLi_lst, bind_val, allB_map]
end
theorem eqB_int {a b : Int} : eqB (.int a) (.int b) = some (decide (a = b)) := by
  show (if SeqAt.shaped (.int a) = true ∧ SeqAt.shaped (.int b) = true then some (PyData.eqv (.int a) (.int b)) else none) = _
  rw [if_pos ⟨rfl, rfl⟩]
  unfold PyData.eqv
  rfl
theorem eqB_bl {a b : Bool} : eqB (.bl a) (.bl b) = some (decide (a = b)) := by
  show (if SeqAt.shaped (.bool a) = true ∧ SeqAt.shaped (.bool b) = true then some (PyData.eqv (.bool a) (.bool b)) else none) = _
  rw [if_pos ⟨rfl, rfl⟩]
  unfold PyData.eqv
  cases a <;> cases b <;> rfl
theorem eqB_str {a b : Str} (h : SeqAt.shaped (.str a) = true) (h2 : SeqAt.shaped (.str b) = true) : eqB (.str a) (.str b) = some (decide (a = b)) := by
  show (if SeqAt.shaped (.str a) = true ∧ SeqAt.shaped (.str b) = true then some (PyData.eqv (.str a) (.str b)) else none) = _
  rw [if_pos ⟨h, h2⟩]
  unfold PyData.eqv
  rfl
theorem eqP_int {a b : Int} : eqP (.int a) (.int b) = .val (.bl (decide (a = b))) := by unfold eqP; rw [eqB_int]
theorem neP_int {a b : Int} : neP (.int a) (.int b) = .val (.bl (!decide (a = b))) := by unfold neP; rw [eqB_int]
theorem eqP_bl {a b : Bool} : eqP (.bl a) (.bl b) = .val (.bl (decide (a = b))) := by unfold eqP; rw [eqB_bl]
theorem eqP_str {a b : Str} (h : SeqAt.shaped (.str a) = true) (h2 : SeqAt.shaped (.str b) = true) : eqP (.str a) (.str b) = .val (.bl (decide (a = b))) := by unfold eqP; rw [eqB_str h h2]
theorem addP_tups {a b : List PV} (h : a.length + b.length ≤ 10000000) : addP (.tup a) (.tup b) = .val (.tup (a ++ b)) := by
  unfold addP orS ints2 catS catL catT
  simp only
  rw [if_pos (by exact Nat.le_trans h (by unfold sizeLine; decide))]
theorem addP_lsts {a b : List PV} (h : a.length + b.length ≤ 10000000) : addP (.lst a) (.lst b) = .val (.lst (a ++ b)) := by
  unfold addP orS ints2 catS catL
  simp only
  rw [if_pos (by exact Nat.le_trans h (by unfold sizeLine; decide))]
theorem modP_ex {x b : Int} (h : 0 < b) : ∃ r, modP (.int x) (.int b) = .val (.int r) ∧ 0 ≤ r ∧ r < b := ⟨x % b, modP_pos h, Int.emod_nonneg _ (by omega), Int.emod_lt_of_pos _ h⟩
def PN (l : List Nat) : List PV := l.map fun n => PV.int (n : Nat)
theorem PN_len {l : List Nat} : (PN l).length = l.length := List.length_map ..
theorem PN_get {l : List Nat} {i n : Nat} (h : l[i]? = some n) : (PN l)[i]? = some (PV.int (n : Nat)) := by
  unfold PN
  rw [List.getElem?_map, h]
  rfl
theorem rngP_0 {hi : Nat} : rngP 0 (hi : Nat) = PN (List.range hi) := by
  unfold rngP PN
  rw [show ((hi : Int) - 0).toNat = hi by omega]
  refine List.map_congr_left fun i _ => ?_
  rw [Int.zero_add]
theorem rng1_nat {a : Nat} (ha : a < 2 ^ 62) : rng1 (.int (a : Nat)) = .val (PN (List.range a)) := by
  rw [rng1_ok (by omega) (by omega), rngP_0]
theorem forF_c {S L : Type} {body : PV → S → Res (Fl S S)} {x : PV} {xs : List PV} {s : S} : forF (L := L) body (x :: xs) s = body x s >>= fun f => match f with
    | .nx s' => forF body xs s'
    | .ct s' => forF body xs s'
    | .bk s' => .val (.nx s')
    | .rt v r => .val (.rt v r)
    | .ro mo r => .val (.ro mo r) := rfl
theorem forF_invM {S L : Type} {body : PV → S → Res (Fl S S)} {I : S → Prop} : ∀ {ps : List PV} {s : S}, I s → (∀ p, p ∈ ps → ∀ s, I s → ∃ s', body p s = .val (.nx s') ∧ I s') → ∃ s', forF (L := L) body ps s = .val (.nx s') ∧ I s'
  | [], s, h, _ => ⟨s, rfl, h⟩
  | p :: ps, s, h, hb => by
    obtain ⟨s1, e, h1⟩ := hb p List.mem_cons_self s h
    obtain ⟨s2, e2, h2⟩ := forF_invM (L := L) h1 fun q hq => hb q (List.mem_cons_of_mem _ hq)
    refine ⟨s2, ?_, h2⟩
    unfold forF
    rw [e]
    exact e2
section
variable {q : Nat} [NeZero q]
end
theorem flatsP_PN' : ∀ l : List Nat, flatsP (PN l) = some (l.map fun n : Nat => V.int (n : Nat))
  | [] => rfl
  | n :: l => by
    show ((flatP (.int (n : Nat))).bind fun v => (flatsP (PN l)).map fun vs => v :: vs) = _
    rw [flatsP_PN' l]
    rfl
theorem cutTo {l : List PV} {k : Nat} : cutP l none (some (k : Int)) = l.take k := by
  unfold cutP
  rw [HT.sIx_none, HT.sIx_nat, List.drop_zero, Nat.sub_zero]
  rcases Nat.le_total k l.length with h | h
  · rw [Nat.min_eq_left h]
  · rw [Nat.min_eq_right h, List.take_of_length_le (Nat.le_refl _), List.take_of_length_le h]
theorem cutFrom {l : List PV} {k : Nat} : cutP l (some (k : Int)) none = l.drop k := by
  unfold cutP
  rw [HT.sIx_none, HT.sIx_nat]
  rcases Nat.le_total k l.length with h | h
  · rw [Nat.min_eq_left h, List.take_of_length_le (by rw [List.length_drop]; exact Nat.le_refl _)]
  · rw [Nat.min_eq_right h, Nat.sub_self, List.take_zero, List.drop_eq_nil_of_le h]
theorem cutMid {l : List PV} {i j : Nat} : cutP l (some (i : Int)) (some (j : Int)) = (l.take j).drop i := by
  unfold cutP
  rw [HT.sIx_nat, HT.sIx_nat, List.drop_take]
  rcases Nat.le_total i l.length with h | h
  · rw [Nat.min_eq_left h]
    rcases Nat.le_total j l.length with h2 | h2
    · rw [Nat.min_eq_left h2]
    · rw [Nat.min_eq_right h2, List.take_of_length_le (by rw [List.length_drop]; exact Nat.le_refl _), List.take_of_length_le (by rw [List.length_drop]; omega)]
  · rw [Nat.min_eq_right h, List.drop_eq_nil_of_le h, List.take_nil, List.drop_length, List.take_nil]
theorem slP_to {l : List PV} {k : Nat} : slP (.lst l) none (some (k : Int)) = .val (.lst (l.take k)) := by unfold slP; simp only [cutTo]
theorem slP_from {l : List PV} {k : Nat} : slP (.lst l) (some (k : Int)) none = .val (.lst (l.drop k)) := by unfold slP; simp only [cutFrom]
theorem slT_to {l : List PV} {k : Nat} : slP (.tup l) none (some (k : Int)) = .val (.tup (l.take k)) := by unfold slP; simp only [cutTo]
theorem slT_from {l : List PV} {k : Nat} : slP (.tup l) (some (k : Int)) none = .val (.tup (l.drop k)) := by unfold slP; simp only [cutFrom]
theorem slT_mid {l : List PV} {i j : Nat} : slP (.tup l) (some (i : Int)) (some (j : Int)) = .val (.tup ((l.take j).drop i)) := by unfold slP; simp only [cutMid]
inductive F2 {α β : Type} (R : α → β → Prop) : List α → List β → Prop
  | nil : F2 R [] []
  | cons {a : α} {b : β} {l : List α} {m : List β} : R a b → F2 R l m → F2 R (a :: l) (b :: m)
theorem F2.len {α β : Type} {R : α → β → Prop} {l : List α} {m : List β} (h : F2 R l m) : l.length = m.length := by
  induction h with
  | nil => rfl
  | cons _ _ ih => rw [List.length_cons, List.length_cons, ih]
theorem F2.imp {α β : Type} {R R' : α → β → Prop} {l : List α} {m : List β} (h : F2 R l m) (f : ∀ a b, R a b → R' a b) : F2 R' l m := by
  induction h with
  | nil => exact .nil
  | cons a _ ih => exact .cons (f _ _ a) ih
theorem F2.right {α β : Type} {R : α → β → Prop} {P : β → Prop} {l : List α} {m : List β} (h : F2 R l m) (f : ∀ a b, R a b → P b) : ∀ b, b ∈ m → P b := by
  induction h with
  | nil => exact fun _ z => nomatch z
  | cons a _ ih =>
    intro b hb
    rcases List.mem_cons.mp hb with e | hb
    · subst e; exact f _ _ a
    · exact ih b hb
theorem lcFil {α β γ : Type} {d : PV → Res β} {c : β → Res Bool} {e : β → Res PV} (ea : α → PV) (dd : α → β) (k : α → Bool) (g : α → PV) : ∀ (l : List α), (∀ a, a ∈ l → d (ea a) = .val (dd a)) → (∀ a, a ∈ l → c (dd a) = .val (k a)) → (∀ a, a ∈ l → k a = true → e (dd a) = .val (g a)) → lcF d c e (l.map ea) = .val ((l.filter k).map g)
  | [], _, _, _ => rfl
  | a :: l, hd, hc, he => by
    have ih := lcFil (γ := γ) ea dd k g l (fun b hb => hd b (List.mem_cons_of_mem _ hb)) (fun b hb => hc b (List.mem_cons_of_mem _ hb)) (fun b hb => he b (List.mem_cons_of_mem _ hb))
    rw [List.map_cons]
    unfold lcF
    rw [hd a List.mem_cons_self, noX_val, bind_val, hc a List.mem_cons_self, noX_val, bind_val]
    cases hk : k a with
    | true =>
      rw [if_pos rfl, he a List.mem_cons_self hk, noX_val, bind_val, ih, List.filter_cons, hk, if_pos rfl]
      rfl
    | false =>
      rw [if_neg (by decide), ih, List.filter_cons, hk, if_neg (by decide)]
theorem lcMap {α β : Type} {d : PV → Res β} {e : β → Res PV} (ea : α → PV) (dd : α → β) (g : α → PV) (l : List α) (hd : ∀ a, a ∈ l → d (ea a) = .val (dd a)) (he : ∀ a, a ∈ l → e (dd a) = .val (g a)) : lcF d (fun _ => .val true) e (l.map ea) = .val (l.map g) := by
  have := lcFil (γ := Unit) (c := fun _ => .val true) ea dd (fun _ => true) g l hd (fun _ _ => rfl) (fun a ha _ => he a ha)
  rwa [List.filter_eq_self.mpr (fun _ _ => rfl)] at this
theorem lcE_rel {S α β γ : Type} {J : S → Prop} {d : PV → Res α} {e : α → S → Res (PV × S)} (ea : β → PV) (eb : γ → PV) (dd : β → α) (R : β → γ → Prop) : ∀ (l : List β) (s : S), J s → (∀ b, b ∈ l → d (ea b) = .val (dd b)) → (∀ b, b ∈ l → ∀ s, J s → ∃ c s', e (dd b) s = .val (eb c, s') ∧ R b c ∧ J s') →
    ∃ (rs : List γ) (s' : S), lcE d (fun _ s => .val (true, s)) e (l.map ea) s = .val (rs.map eb, s') ∧ F2 R l rs ∧ J s'
  | [], s, hs, _, _ => ⟨[], s, rfl, .nil, hs⟩
  | b :: l, s, hs, hd, he => by
    obtain ⟨c, s1, e1, r1, j1⟩ := he b List.mem_cons_self s hs
    obtain ⟨rs, s2, e2, r2, j2⟩ := lcE_rel ea eb dd R l s1 j1 (fun x hx => hd x (List.mem_cons_of_mem _ hx)) (fun x hx => he x (List.mem_cons_of_mem _ hx))
    refine ⟨c :: rs, s2, ?_, .cons r1 r2, j2⟩
    rw [List.map_cons]
    unfold lcE
    rw [hd b List.mem_cons_self, noX_val, bind_val, bind_val]
    show (if true = true then _ else _) = _
    rw [if_pos rfl, e1, bind_val, e2, bind_val]
    rfl
def PZ (l : List Int) : List PV := l.map PV.int
theorem PZ_len {l : List Int} : (PZ l).length = l.length := List.length_map _
theorem lcE_relX {S α β γ : Type} {J : S → Prop} {d : PV → Res α} {e : α → S → Res (PV × S)} {s : S} {PL : List PV} {X : Res (List PV × S)} (hE : lcE d (fun _ s => .val (true, s)) e PL s = X) (ea : β → PV) (eb : γ → PV) (dd : β → α) (R : β → γ → Prop) (l : List β) (hl : PL = l.map ea) (hs : J s) (hd : ∀ b, b ∈ l → d (ea b) = .val (dd b))
    (he : ∀ b, b ∈ l → ∀ s, J s → ∃ c s', e (dd b) s = .val (eb c, s') ∧ R b c ∧ J s') : ∃ (rs : List γ) (s' : S), X = .val (rs.map eb, s') ∧ F2 R l rs ∧ J s' := by
  subst hl hE
  exact lcE_rel ea eb dd R l s hs hd he
theorem forF_invX {S L : Type} {body : PV → S → Res (Fl S S)} {I : S → Prop} {ps : List PV} {s : S} {X : Res (Fl S L)} (hF : forF body ps s = X) (hI : I s) (hb : ∀ p, p ∈ ps → ∀ s, I s → ∃ s', body p s = .val (.nx s') ∧ I s') : ∃ s', X = .val (.nx s') ∧ I s' := by
  subst hF
  exact forF_invM hI hb
def memN (p q : Nat) : List Nat := (List.range' 1 (p - 1)).filter fun x => Nat.beq (x ^ q % p) 1
def prB (n : Nat) : Bool := Nat.ble 2 n && (List.range' 2 38).all fun k => Nat.blt n (k * k) || !(Nat.beq (n % k) 0)
def fbN (p e : Nat) : List Nat → Nat → Nat
  | [], c => c
  | a :: l, _ => if Nat.beq (a ^ e % p) 1 = true then fbN p e l (a ^ e % p) else a ^ e % p
def baseN (p q : Nat) : Nat := fbN p ((p - 1) / q) (List.range' 2 (p - 2)) 1
structure PG (p q g : Nat) : Prop where
  p1 : p ≤ 1000
  q3 : 3 ≤ q
  q127 : q ≤ 127
  pp : prB p = true
  qp : prB q = true
  dv : (p - 1) % q = 0
  p2 : 2 ≤ p
  h0 : (memN p q)[0]? = some 1
  h1 : (memN p q)[1]? = some g
  len : (memN p q).length = q
  gq : g ^ q % p = 1
  all : ∀ x, x ∈ memN p q → ∃ i, i < q ∧ g ^ i % p = x
  ins : ∀ i, i < q → g ^ i % p ∈ memN p q
  inj : ∀ i j, i < q → j < q → g ^ i % p = g ^ j % p → i = j
  bas : ∀ x, x ∈ memN p q → ∃ i, i < q ∧ baseN p q ^ i % p = x
  bq : baseN p q ^ q % p = 1
theorem eqP_nat {a b : Nat} : eqP (.int (a : Nat)) (.int (b : Nat)) = .val (.bl (Nat.beq a b)) := by
  rw [eqP_int]
  by_cases c : a = b
  · subst c
    rw [decide_eq_true rfl, Nat.beq_refl]
  · rw [decide_eq_false (by omega), show Nat.beq a b = false from Bool.eq_false_iff.mpr fun z => c (Nat.beq_eq.mp z)]
theorem setL_nat {l : List PV} {i : Nat} {x : PV} (h : i < l.length) : setL l (.int (i : Nat)) x = .val (l.set i x) := by
  have e : ixN l.length ((i : Nat) : Int) = some i := by
    unfold ixN
    rw [if_pos (by omega), if_pos (by omega)]
    rfl
  unfold setL
  simp only [e]
theorem tupL {l : List PV} : tupleP (.lst l) = .val (.tup l) := rfl
theorem forF_inv {S L : Type} {body : PV → S → Res (Fl S S)} {I : S → Prop} : ∀ {ps : List PV} {s : S}, I s → (∀ p, p ∈ ps → ∀ s, I s → ∃ s', body p s = .val (.nx s') ∧ I s') → ∃ s', forF (L := L) body ps s = .val (.nx s') ∧ I s'
  | [], s, h, _ => ⟨s, rfl, h⟩
  | p :: ps, s, h, hb => by
    obtain ⟨s1, e, h1⟩ := hb p List.mem_cons_self s h
    obtain ⟨s2, e2, h2⟩ := forF_inv (L := L) h1 fun q hq => hb q (List.mem_cons_of_mem _ hq)
    refine ⟨s2, ?_, h2⟩
    unfold forF
    rw [e]
    exact e2
theorem neP_nat {a b : Nat} : neP (.int (a : Nat)) (.int (b : Nat)) = .val (.bl (!Nat.beq a b)) := by
  have h : (decide ((a : Int) = (b : Int))) = Nat.beq a b := by
    have := eqP_nat (a := a) (b := b)
    rw [eqP_int] at this
    exact PV.bl.inj (Res.val.inj this)
  rw [neP_int, h]
theorem forF_invNX {S L : Type} {body : PV → S → Res (Fl S S)} {I : Nat → S → Prop} {ps : List PV} {s : S} {X : Res (Fl S L)} (hF : forF body ps s = X) (hI : I 0 s) (hb : ∀ i p, ps[i]? = some p → ∀ s, I i s → ∃ s', body p s = .val (.nx s') ∧ I (i + 1) s') : ∃ s', X = .val (.nx s') ∧ I ps.length s' := by
  subst hF
  have key : ∀ (ps : List PV) (k : Nat) (s : S), I k s → (∀ i p, ps[i]? = some p → ∀ s, I (k + i) s → ∃ s', body p s = .val (.nx s') ∧ I (k + i + 1) s') → ∃ s', forF (L := L) body ps s = .val (.nx s') ∧ I (k + ps.length) s' := by
    intro ps
    induction ps with
    | nil => exact fun k s h _ => ⟨s, rfl, h⟩
    | cons p ps ih =>
      intro k s h hb
      obtain ⟨s1, e1, h1⟩ := hb 0 p rfl s h
      obtain ⟨s2, e2, h2⟩ := ih (k + 1) s1 h1 fun i q hq s hs => by
        have := hb (i + 1) q (by simpa using hq) s (by rw [show k + (i + 1) = k + 1 + i by omega]; exact hs)
        rwa [show k + (i + 1) + 1 = k + 1 + i + 1 by omega] at this
      refine ⟨s2, ?_, ?_⟩
      · unfold forF
        rw [e1, bind_val]
        exact e2
      · rw [List.length_cons, show k + (ps.length + 1) = k + 1 + ps.length by omega]
        exact h2
  obtain ⟨s', e, h⟩ := key ps 0 s hI fun i p hp s hs => by
    rw [Nat.zero_add] at hs
    have := hb i p hp s hs
    rwa [Nat.zero_add]
  rw [Nat.zero_add] at h
  exact ⟨s', e, h⟩
theorem lcMapX {α β : Type} {d : PV → Res β} {e : β → Res PV} {PL : List PV} {X : Res (List PV)} (hE : lcF d (fun _ => .val true) e PL = X) (ea : α → PV) (dd : α → β) (g : α → PV) (l : List α) (hl : PL = l.map ea) (hd : ∀ a, a ∈ l → d (ea a) = .val (dd a)) (he : ∀ a, a ∈ l → e (dd a) = .val (g a)) : X = .val (l.map g) := by
  subst hE hl
  exact lcMap ea dd g l hd he
def Pl (cells : List Int) (at_ : Nat) (rest left : Int) (small : Bool) (seed turn : Int) : List (Key × PV) :=
  [(.inr "cells", .lst (cells.map PV.int)), (.inr "at", .int (at_ : Nat)), (.inr "rest", .int rest), (.inr "left", .int left), (.inr "small", .bl small), (.inr "seed", .int seed), (.inr "turn", .int turn)]
def Px (d : List (Key × PV)) : Prop := ∃ cells at_ rest left small seed turn, d = Pl cells at_ rest left small seed turn
section
variable {cells : List Int} {at_ : Nat} {rest left seed turn x : Int} {small b : Bool}
theorem pg_cells : dgetP (.dct (Pl cells at_ rest left small seed turn)) (.str "cells") = .val (.lst (cells.map PV.int)) := rfl
theorem pg_at : dgetP (.dct (Pl cells at_ rest left small seed turn)) (.str "at") = .val (.int (at_ : Nat)) := rfl
theorem pg_rest : dgetP (.dct (Pl cells at_ rest left small seed turn)) (.str "rest") = .val (.int rest) := rfl
theorem pg_left : dgetP (.dct (Pl cells at_ rest left small seed turn)) (.str "left") = .val (.int left) := rfl
theorem pg_small : dgetP (.dct (Pl cells at_ rest left small seed turn)) (.str "small") = .val (.bl small) := rfl
theorem pg_seed : dgetP (.dct (Pl cells at_ rest left small seed turn)) (.str "seed") = .val (.int seed) := rfl
theorem pg_turn : dgetP (.dct (Pl cells at_ rest left small seed turn)) (.str "turn") = .val (.int turn) := rfl
theorem pp_at {n : Nat} : putP (Pl cells at_ rest left small seed turn) (.inr "at") (.int (n : Nat)) = Pl cells n rest left small seed turn := rfl
theorem pp_rest : putP (Pl cells at_ rest left small seed turn) (.inr "rest") (.int x) = Pl cells at_ x left small seed turn := rfl
theorem pp_left : putP (Pl cells at_ rest left small seed turn) (.inr "left") (.int x) = Pl cells at_ rest x small seed turn := rfl
theorem pp_small : putP (Pl cells at_ rest left small seed turn) (.inr "small") (.bl b) = Pl cells at_ rest left b seed turn := rfl
theorem pp_turn : putP (Pl cells at_ rest left small seed turn) (.inr "turn") (.int x) = Pl cells at_ rest left small seed x := rfl
theorem p_sz : sized ((Pl cells at_ rest left small seed turn).length + 1) = .val () := sized_small (by show 8 ≤ 10000000; decide)
end
theorem keyP_str {s : Str} : keyP (.str s) = .val (.inr s) := rfl
def GoodD (m : Int) (R : Res (PV × MO)) : Prop := ∃ r d', R = .val (.int r, .dct d') ∧ 0 ≤ r ∧ r < m ∧ Px d'
theorem partD {m : Int} {M : Res (Fl (List (Key × PV)) Empty)} {N : List (Key × PV) → Res (Fl MO Empty)} (h1 : ∃ d, M = .val (.nx d) ∧ Px d) (h2 : ∀ d, Px d → GoodD m (retR (N d))) : GoodD m (retR (seqF M N)) := by
  obtain ⟨d, rfl, hb⟩ := h1
  exact h2 d hb
theorem mixed_ok (c t : Int) {m : Int} (hm : 0 < m) : ∃ r : Int, m__law_mixed (.int c) (.int t) (.int m) = .val (.int r) ∧ 0 ≤ r ∧ r < m := by
  have m1 : ∀ a, mulP (.int a) (.int 48271) = .val (.int (a * 48271)) := fun a => mulP_r (by decide) (by decide)
  have m2 : ∀ a, mulP (.int a) (.int 1000000000039) = .val (.int (a * 1000000000039)) := fun a => mulP_r (by decide) (by decide)
  have m3 : ∀ a, mulP (.int a) (.int 7046029254386353) = .val (.int (a * 7046029254386353)) := fun a => mulP_r (by decide) (by decide)
  obtain ⟨o, e, h1, h2⟩ := modP_ex (x := c * 48271 + t * 1000000000039 + 12345678910111213) (b := 2305843009213693951) (by decide)
  have m5 : mulP (.int o) (.int o) = .val (.int (o * o)) := mulP_l (by omega) (by omega)
  obtain ⟨r, e2, _⟩ := modP_ex (x := (o * o + t) * 7046029254386353) (b := 2305843009213693951) (by decide)
  have f8 : fdivP (.int r) (.int 8) = .val (.int (r / 8)) := fdivP_pos (by decide) (by decide)
  obtain ⟨z, e3, h3⟩ := modP_ex (x := r / 8) hm
  refine ⟨z, ?_, h3⟩
  unfold m__law_mixed
  simp -implicitDefEqProofs only [bind_val, asB_bl, if_true, Bool.not_true, Bool.not_false, Bool.false_eq_true, if_false, retF_rt, seqF_nx, seqF_rt, asSq_lst, asSq_tup, partP_int, leP_int, ltP_int, gtP_int, geP_int, addP_int, subP_int, intP_int, tupleP_lst, asLi_lst, m1, m2, e, m5, m3, e2, f8, e3]
theorem take_ok {d : List (Key × PV)} (hd : Px d) {m : Int} (hm : 0 < m) (hm2 : m < 10000000000000000000000000000000000000000000000000000000000000000000000) : GoodD m (m__law_take (.dct d) (.int m)) := by
  obtain ⟨cells, a, rest, left, small, seed, turn, rfl⟩ := hd
  have p18 : powP (.int 10) (.int 18) = .val (.int 1000000000000000000) := rfl
  have c0 : eqP (.int left) (.int 0) = .val (.bl (decide (left = 0))) := eqP_int
  have mk : mkL [PV.int 60, PV.int 2] = .val (.lst [PV.int 60, PV.int 2]) := mkL_ok (by show 2 ≤ 10000000; decide)
  have ll : lenP (.lst (cells.map PV.int)) = .val (.int (cells.length : Nat)) := by rw [lenP_lst, List.length_map]
  have c1 : ∀ a : Nat, ((a : Nat) : Int) + 1 = ((a + 1 : Nat) : Int) := fun _ => rfl
  unfold m__law_take
  simp -implicitDefEqProofs only [bind_val, asB_bl, if_true, Bool.not_true, Bool.not_false, Bool.false_eq_true, if_false, retF_rt, seqF_nx, seqF_rt, asSq_lst, asSq_tup, partP_int, leP_int, ltP_int, gtP_int, geP_int, addP_int, subP_int, intP_int, tupleP_lst, asLi_lst, pg_turn, keyP_str, p_sz, pp_turn]
  refine partD ?_ ?_
  · by_cases h1 : left = 0
    · by_cases h2 : (a : Int) < (cells.length : Int)
      · have ic : ixP (.lst (cells.map PV.int)) (.int (a : Nat)) = .val (.int (cells.getD a 0)) := ixP_lst (by
          rw [List.getElem?_map, List.getElem?_eq_getElem (by omega), List.getD_eq_getElem?_getD, List.getElem?_eq_getElem (by omega)]; rfl)
        cases h3 : decide (cells.getD a 0 < 1000000000000000000) with
        | true =>
          have ix : ixP (.lst [PV.int 60, PV.int 2]) (.int 1) = .val (.int 2) := rfl
          refine ⟨Pl cells (a + 1) (cells.getD a 0) 2 true seed (turn + 1), ?_, ⟨_, _, _, _, _, _, _, rfl⟩⟩
          simp -implicitDefEqProofs only [bind_val, asB_bl, if_true, Bool.not_true, Bool.not_false, Bool.false_eq_true, if_false, retF_rt, seqF_nx, seqF_rt, asSq_lst, asSq_tup, partP_int, leP_int, ltP_int, gtP_int, geP_int, addP_int, subP_int, intP_int, tupleP_lst, asLi_lst, pg_left, c0, decide_eq_true h1, pg_at, pg_cells, ll, decide_eq_true h2, ic, keyP_str, p_sz, pp_rest, c1, pp_at, pg_rest, p18, h3, pp_small, mk, pg_small, intP_bl, ix, pp_left]
        | false =>
          have ix : ixP (.lst [PV.int 60, PV.int 2]) (.int 0) = .val (.int 60) := rfl
          refine ⟨Pl cells (a + 1) (cells.getD a 0) 60 false seed (turn + 1), ?_, ⟨_, _, _, _, _, _, _, rfl⟩⟩
          simp -implicitDefEqProofs only [bind_val, asB_bl, if_true, Bool.not_true, Bool.not_false, Bool.false_eq_true, if_false, retF_rt, seqF_nx, seqF_rt, asSq_lst, asSq_tup, partP_int, leP_int, ltP_int, gtP_int, geP_int, addP_int, subP_int, intP_int, tupleP_lst, asLi_lst, pg_left, c0, decide_eq_true h1, pg_at, pg_cells, ll, decide_eq_true h2, ic, keyP_str, p_sz, pp_rest, c1, pp_at, pg_rest, p18, h3, pp_small, mk, pg_small, intP_bl, ix, pp_left]
      · refine ⟨_, ?_, ⟨cells, a, rest, left, small, seed, turn + 1, rfl⟩⟩
        simp -implicitDefEqProofs only [bind_val, asB_bl, if_true, Bool.not_true, Bool.not_false, Bool.false_eq_true, if_false, retF_rt, seqF_nx, seqF_rt, asSq_lst, asSq_tup, partP_int, leP_int, ltP_int, gtP_int, geP_int, addP_int, subP_int, intP_int, tupleP_lst, asLi_lst, pg_left, c0, decide_eq_true h1, pg_at, pg_cells, ll, decide_eq_false h2]
    · refine ⟨_, ?_, ⟨cells, a, rest, left, small, seed, turn + 1, rfl⟩⟩
      simp -implicitDefEqProofs only [bind_val, asB_bl, if_true, Bool.not_true, Bool.not_false, Bool.false_eq_true, if_false, retF_rt, seqF_nx, seqF_rt, asSq_lst, asSq_tup, partP_int, leP_int, ltP_int, gtP_int, geP_int, addP_int, subP_int, intP_int, tupleP_lst, asLi_lst, pg_left, c0, decide_eq_false h1]
  · intro d hd
    obtain ⟨cells, a, rest, left, small, seed, turn, rfl⟩ := hd
    have c0 : eqP (.int left) (.int 0) = .val (.bl (decide (left = 0))) := eqP_int
    obtain ⟨r1, e1, h1⟩ := mixed_ok seed turn hm
    obtain ⟨r2, e2, h2⟩ := mixed_ok rest turn hm
    obtain ⟨r3, e3, h3⟩ := modP_ex (x := rest) hm
    by_cases hl : left = 0
    · refine ⟨r1, Pl cells a rest left small seed turn, ?_, h1.1, h1.2, ⟨_, _, _, _, _, _, _, rfl⟩⟩
      simp -implicitDefEqProofs only [bind_val, asB_bl, if_true, Bool.not_true, Bool.not_false, Bool.false_eq_true, if_false, retF_rt, seqF_nx, seqF_rt, asSq_lst, asSq_tup, partP_int, leP_int, ltP_int, gtP_int, geP_int, addP_int, subP_int, intP_int, tupleP_lst, asLi_lst, pg_left, c0, decide_eq_true hl, pg_seed, pg_turn, e1, retR_rt]
    · cases small with
      | true =>
        refine ⟨r2, Pl cells a rest (left - 1) true seed turn, ?_, h2.1, h2.2, ⟨_, _, _, _, _, _, _, rfl⟩⟩
        simp -implicitDefEqProofs only [bind_val, asB_bl, if_true, Bool.not_true, Bool.not_false, Bool.false_eq_true, if_false, retF_rt, seqF_nx, seqF_rt, asSq_lst, asSq_tup, partP_int, leP_int, ltP_int, gtP_int, geP_int, addP_int, subP_int, intP_int, tupleP_lst, asLi_lst, pg_left, c0, decide_eq_false hl, keyP_str, p_sz, pp_left, pg_small, pg_rest, pg_turn, e2, retR_rt]
      | false =>
        have z0 : eqP (.int (rest / m)) (.int 0) = .val (.bl (decide (rest / m = 0))) := eqP_int
        cases hz : decide (rest / m = 0) with
        | true =>
          refine ⟨r3, Pl cells a (rest / m) 0 false seed turn, ?_, h3.1, h3.2, ⟨_, _, _, _, _, _, _, rfl⟩⟩
          simp -implicitDefEqProofs only [bind_val, asB_bl, if_true, Bool.not_true, Bool.not_false, Bool.false_eq_true, if_false, retF_rt, seqF_nx, seqF_rt, asSq_lst, asSq_tup, partP_int, leP_int, ltP_int, gtP_int, geP_int, addP_int, subP_int, intP_int, tupleP_lst, asLi_lst, pg_left, c0, decide_eq_false hl, keyP_str, p_sz, pp_left, pg_small, pg_rest, e3, fdivP_pos hm hm2, pp_rest, z0, hz, retR_rt]
        | false =>
          refine ⟨r3, Pl cells a (rest / m) (left - 1) false seed turn, ?_, h3.1, h3.2, ⟨_, _, _, _, _, _, _, rfl⟩⟩
          simp -implicitDefEqProofs only [bind_val, asB_bl, if_true, Bool.not_true, Bool.not_false, Bool.false_eq_true, if_false, retF_rt, seqF_nx, seqF_rt, asSq_lst, asSq_tup, partP_int, leP_int, ltP_int, gtP_int, geP_int, addP_int, subP_int, intP_int, tupleP_lst, asLi_lst, pg_left, c0, decide_eq_false hl, keyP_str, p_sz, pp_left, pg_small, pg_rest, e3, fdivP_pos hm hm2, pp_rest, z0, hz, retR_rt]
theorem take_nat {d : List (Key × PV)} (hd : Px d) {m : Nat} (hm : 0 < m) (hm2 : m < 10000000000000000000000000000000000000000000000000000000000000000000000) : ∃ (r : Nat) (d' : List (Key × PV)), m__law_take (.dct d) (.int (m : Nat)) = .val (.int (r : Nat), .dct d') ∧ r < m ∧ Px d' := by
  obtain ⟨r, d', e, h0, h1, hb'⟩ := take_ok hd (m := (m : Nat)) (by omega) (by omega)
  obtain ⟨n, rfl⟩ := Int.eq_ofNat_of_zero_le h0
  exact ⟨n, d', e, by omega, hb'⟩
theorem pool_ok (ns : List Int) (h : ns.length ≤ 63) : ∃ d, m__law_pool (.fls (ns.map PV.int)) = .val (.dct d) ∧ Px d := by
  have m1 : ∀ a, mulP (.int a) (.int 1000003) = .val (.int (a * 1000003)) := fun a => mulP_r (by decide) (by decide)
  obtain ⟨s1, e1, i, rfl⟩ := forF_inv (S := PV) (L := Empty) (body := fun (x12 : PV) (s2 : PV) => (((mulP s2 (.int 1000003) >>= fun x6 => addP x6 x12) >>= intP) >>= fun x8 => modP x8 (PV.int 2305843009213693951)) >>= fun x10 => Res.val (.nx x10)) (I := fun s => ∃ i, s = .int i) (ps := ns.map PV.int) (s := .int 7) ⟨7, rfl⟩ (fun p hp s hs => by
    obtain ⟨n, _, rfl⟩ := List.mem_map.mp hp
    obtain ⟨i, rfl⟩ := hs
    obtain ⟨o, eo, _⟩ := modP_ex (x := i * 1000003 + n) (b := 2305843009213693951) (by decide)
    refine ⟨.int o, ?_, o, rfl⟩
    simp -implicitDefEqProofs only [bind_val, asB_bl, if_true, Bool.not_true, Bool.not_false, Bool.false_eq_true, if_false, retF_rt, seqF_nx, seqF_rt, asSq_lst, asSq_tup, partP_int, leP_int, ltP_int, gtP_int, geP_int, addP_int, subP_int, intP_int, tupleP_lst, asLi_lst, m1, eo])
  have mk : mkN [] = .val [] := mkN_ok (by decide)
  have up : upto15 [((.inr "cells" : Key), PV.non), (.inr "at", .non), (.inr "rest", .non), (.inr "left", .non), (.inr "small", .non), (.inr "seed", .non), (.inr "turn", .non)].length = .val () := rfl
  have up7 : ∀ a b c d e f g : Key × PV, upto15 [a, b, c, d, e, f, g].length = .val () := fun _ _ _ _ _ _ _ => rfl
  have mg : ∀ cells : List Int, mergeP [] [((.inr "cells" : Key), PV.lst (cells.map PV.int)), (.inr "at", .int 0), (.inr "rest", .int 0), (.inr "left", .int 0), (.inr "small", .bl true), (.inr "seed", .int i), (.inr "turn", .int 0)] = Pl cells 0 0 0 true i 0 := fun _ => rfl
  cases ns with
  | nil =>
    have g0 : decide ((0 : Int) < (([] : List PV).length : Nat)) = false := rfl
    refine ⟨Pl [] 0 0 0 true i 0, ?_, ⟨_, _, _, _, _, _, _, rfl⟩⟩
    have mg0 := mg []
    rw [List.map_nil] at e1 mg0
    unfold m__law_pool
    rw [List.map_nil]
    simp -implicitDefEqProofs only [bind_val, asB_bl, if_true, Bool.not_true, Bool.not_false, Bool.false_eq_true, if_false, retF_rt, seqF_nx, seqF_rt, asSq_lst, asSq_tup, partP_int, leP_int, ltP_int, gtP_int, geP_int, addP_int, subP_int, intP_int, tupleP_lst, asLi_lst, asSq_fls, e1, lenP_lst, g0, keyP_str, up7, mg0, retN_ro]
  | cons n ns =>
    have g0 : ∀ l : List PV, decide ((0 : Int) < ((PV.int n :: l).length : Nat)) = true := fun l => by
      rw [decide_eq_true]
      rw [List.length_cons]
      omega
    have g1 : decide ((0 : Int) < (([] : List PV).length : Nat)) = false := rfl
    have ix : ∀ l : List PV, ixP (.lst (PV.int n :: l)) (.int 0) = .val (.int n) := fun l => ixP_lst (i := 0) rfl
    have md : modP (.int n) (.int 2) = .val (.int (n % 2)) := modP_pos (by decide)
    have fd : fdivP (.int n) (.int 2) = .val (.int (n / 2)) := fdivP_pos (by decide) (by decide)
    have sl : ∀ l : List PV, setL (PV.int n :: l) (.int 0) (.int (n / 2)) = .val (PV.int (n / 2) :: l) := fun l => setL_nat (i := 0) (by rw [List.length_cons]; omega)
    have q1 : eqP (.int (n % 2)) (.int 1) = .val (.bl (decide (n % 2 = 1))) := eqP_int
    cases hc : decide (n % 2 = 1) with
    | true =>
      refine ⟨Pl [] 0 0 0 true i 0, ?_, ⟨_, _, _, _, _, _, _, rfl⟩⟩
      have mg0 := mg []
      rw [List.map_nil] at mg0
      unfold m__law_pool
      simp -implicitDefEqProofs only [bind_val, asB_bl, if_true, Bool.not_true, Bool.not_false, Bool.false_eq_true, if_false, retF_rt, seqF_nx, seqF_rt, asSq_lst, asSq_tup, partP_int, leP_int, ltP_int, gtP_int, geP_int, addP_int, subP_int, intP_int, tupleP_lst, asLi_lst, asSq_fls, e1]
      rw [List.map_cons]
      simp -implicitDefEqProofs only [bind_val, asB_bl, if_true, Bool.not_true, Bool.not_false, Bool.false_eq_true, if_false, retF_rt, seqF_nx, seqF_rt, asSq_lst, asSq_tup, partP_int, leP_int, ltP_int, gtP_int, geP_int, addP_int, subP_int, intP_int, tupleP_lst, asLi_lst, lenP_lst, g0, ix, md, q1, hc, mk, g1, keyP_str, up7, mg0, retN_ro]
    | false =>
      refine ⟨Pl (n / 2 :: ns) 0 0 0 true i 0, ?_, ⟨_, _, _, _, _, _, _, rfl⟩⟩
      have mg0 := mg (n / 2 :: ns)
      rw [List.map_cons] at mg0
      unfold m__law_pool
      simp -implicitDefEqProofs only [bind_val, asB_bl, if_true, Bool.not_true, Bool.not_false, Bool.false_eq_true, if_false, retF_rt, seqF_nx, seqF_rt, asSq_lst, asSq_tup, partP_int, leP_int, ltP_int, gtP_int, geP_int, addP_int, subP_int, intP_int, tupleP_lst, asLi_lst, asSq_fls, e1]
      rw [List.map_cons]
      simp -implicitDefEqProofs only [bind_val, asB_bl, if_true, Bool.not_true, Bool.not_false, Bool.false_eq_true, if_false, retF_rt, seqF_nx, seqF_rt, asSq_lst, asSq_tup, partP_int, leP_int, ltP_int, gtP_int, geP_int, addP_int, subP_int, intP_int, tupleP_lst, asLi_lst, lenP_lst, g0, ix, md, q1, hc, fd, sl, keyP_str, up7, mg0, retN_ro]
inductive Pn : Nat → PV → Prop
  | int {n : Nat} {i : Int} : Pn (n + 1) (.int i)
  | bl {n : Nat} {b : Bool} : Pn (n + 1) (.bl b)
  | non {n : Nat} : Pn (n + 1) .non
  | str {n : Nat} {s : Str} (h : SeqAt.shaped (.str s) = true) : Pn (n + 1) (.str s)
  | tup {n : Nat} {ps : List PV} (h : ∀ p, p ∈ ps → Pn n p) (hl : ps.length ≤ 10000000) : Pn (n + 1) (.tup ps)
theorem forF_chkN {L : Type} {body : PV → Unit → Res (Fl Unit Unit)} (f : PV → Bool) : ∀ {ps : List PV}, (∀ p, p ∈ ps → body p () = .val (if f p = true then .nx () else .rt (.bl false) [])) → forF (L := L) body ps () = .val (if ps.all f = true then .nx () else .rt (.bl false) [])
  | [], _ => rfl
  | p :: ps, h => by
    unfold forF
    rw [h p List.mem_cons_self]
    cases e : f p with
    | false =>
      rw [if_neg (by decide), bind_val, List.all_cons, e, Bool.false_and, if_neg (by decide)]
    | true =>
      rw [if_pos rfl, bind_val, List.all_cons, e, Bool.true_and]
      exact forF_chkN f fun q hq => h q (List.mem_cons_of_mem _ hq)
theorem all_range {n : Nat} {g : Nat → Bool} (f : PV → Bool) (h : ∀ i, i < n → f (.int (i : Nat)) = g i) : (PN (List.range n)).all f = (List.range n).all g := by
  rw [Bool.eq_iff_iff, List.all_eq_true, List.all_eq_true]
  constructor
  · intro a i hi
    rw [← h i (List.mem_range.mp hi)]
    exact a _ (List.mem_map.mpr ⟨i, hi, rfl⟩)
  · intro a p hp
    obtain ⟨i, hi, rfl⟩ := List.mem_map.mp hp
    rw [h i (List.mem_range.mp hi)]
    exact a i hi
open Classical in
theorem same_ok : ∀ (n : Nat) (b : PV), Pn n b → ∀ (m : Nat) (a : PV), Pn m a → m__law_same n a b = .val (.bl (decide (a = b))) := by
  intro n b hb
  induction hb with
  | int =>
    intro m a ha
    have i1 : ∀ j, isiP (.int j) (.ty "tuple") = .val (.bl false) := fun _ => rfl
    have i2 : ∀ j, isP (.int j) .non = .val (.bl false) := fun _ => rfl
    have i3 : ∀ j, isiP (.int j) (.ty "str") = .val (.bl false) := fun _ => rfl
    have i4 : ∀ j, isiP (.int j) (.ty "bool") = .val (.bl false) := fun _ => rfl
    unfold m__law_same
    cases ha with
    | int =>
      have i5 : ∀ j, isiP (.int j) (.ty "int") = .val (.bl true) := fun _ => rfl
      simp -implicitDefEqProofs only [bind_val, asB_bl, if_true, Bool.not_true, Bool.not_false, Bool.false_eq_true, if_false, retF_rt, seqF_nx, seqF_rt, asSq_lst, asSq_tup, partP_int, leP_int, ltP_int, gtP_int, geP_int, addP_int, subP_int, intP_int, tupleP_lst, asLi_lst, i1, i2, i3, i4, i5, eqP_int, PV.int.injEq]
    | bl =>
      have i5 : ∀ j, isiP (.bl j) (.ty "int") = .val (.bl true) := fun _ => rfl
      have i6 : ∀ j, isiP (.bl j) (.ty "bool") = .val (.bl true) := fun _ => rfl
      simp -implicitDefEqProofs only [bind_val, asB_bl, if_true, Bool.not_true, Bool.not_false, Bool.false_eq_true, if_false, retF_rt, seqF_nx, seqF_rt, asSq_lst, asSq_tup, partP_int, leP_int, ltP_int, gtP_int, geP_int, addP_int, subP_int, intP_int, tupleP_lst, asLi_lst, i1, i2, i3, i4, i5, i6, reduceCtorEq, decide_false]
    | non =>
      have i5 : isiP .non (.ty "int") = .val (.bl false) := rfl
      simp -implicitDefEqProofs only [bind_val, asB_bl, if_true, Bool.not_true, Bool.not_false, Bool.false_eq_true, if_false, retF_rt, seqF_nx, seqF_rt, asSq_lst, asSq_tup, partP_int, leP_int, ltP_int, gtP_int, geP_int, addP_int, subP_int, intP_int, tupleP_lst, asLi_lst, i1, i2, i3, i4, i5, reduceCtorEq, decide_false]
    | str _ =>
      have i5 : ∀ j, isiP (.str j) (.ty "int") = .val (.bl false) := fun _ => rfl
      simp -implicitDefEqProofs only [bind_val, asB_bl, if_true, Bool.not_true, Bool.not_false, Bool.false_eq_true, if_false, retF_rt, seqF_nx, seqF_rt, asSq_lst, asSq_tup, partP_int, leP_int, ltP_int, gtP_int, geP_int, addP_int, subP_int, intP_int, tupleP_lst, asLi_lst, i1, i2, i3, i4, i5, reduceCtorEq, decide_false]
    | tup _ _ =>
      have i5 : ∀ j, isiP (.tup j) (.ty "int") = .val (.bl false) := fun _ => rfl
      simp -implicitDefEqProofs only [bind_val, asB_bl, if_true, Bool.not_true, Bool.not_false, Bool.false_eq_true, if_false, retF_rt, seqF_nx, seqF_rt, asSq_lst, asSq_tup, partP_int, leP_int, ltP_int, gtP_int, geP_int, addP_int, subP_int, intP_int, tupleP_lst, asLi_lst, i1, i2, i3, i4, i5, reduceCtorEq, decide_false]
  | bl =>
    intro m a ha
    have i1 : ∀ j, isiP (.bl j) (.ty "tuple") = .val (.bl false) := fun _ => rfl
    have i2 : ∀ j, isP (.bl j) .non = .val (.bl false) := fun _ => rfl
    have i3 : ∀ j, isiP (.bl j) (.ty "str") = .val (.bl false) := fun _ => rfl
    have i4 : ∀ j, isiP (.bl j) (.ty "bool") = .val (.bl true) := fun _ => rfl
    unfold m__law_same
    cases ha with
    | int =>
      have i5 : ∀ j, isiP (.int j) (.ty "bool") = .val (.bl false) := fun _ => rfl
      simp -implicitDefEqProofs only [bind_val, asB_bl, if_true, Bool.not_true, Bool.not_false, Bool.false_eq_true, if_false, retF_rt, seqF_nx, seqF_rt, asSq_lst, asSq_tup, partP_int, leP_int, ltP_int, gtP_int, geP_int, addP_int, subP_int, intP_int, tupleP_lst, asLi_lst, i1, i2, i3, i4, i5, reduceCtorEq, decide_false]
    | bl => simp -implicitDefEqProofs only [bind_val, asB_bl, if_true, Bool.not_true, Bool.not_false, Bool.false_eq_true, if_false, retF_rt, seqF_nx, seqF_rt, asSq_lst, asSq_tup, partP_int, leP_int, ltP_int, gtP_int, geP_int, addP_int, subP_int, intP_int, tupleP_lst, asLi_lst, i1, i2, i3, i4, eqP_bl, PV.bl.injEq]
    | non =>
      have i5 : isiP .non (.ty "bool") = .val (.bl false) := rfl
      simp -implicitDefEqProofs only [bind_val, asB_bl, if_true, Bool.not_true, Bool.not_false, Bool.false_eq_true, if_false, retF_rt, seqF_nx, seqF_rt, asSq_lst, asSq_tup, partP_int, leP_int, ltP_int, gtP_int, geP_int, addP_int, subP_int, intP_int, tupleP_lst, asLi_lst, i1, i2, i3, i4, i5, reduceCtorEq, decide_false]
    | str _ =>
      have i5 : ∀ j, isiP (.str j) (.ty "bool") = .val (.bl false) := fun _ => rfl
      simp -implicitDefEqProofs only [bind_val, asB_bl, if_true, Bool.not_true, Bool.not_false, Bool.false_eq_true, if_false, retF_rt, seqF_nx, seqF_rt, asSq_lst, asSq_tup, partP_int, leP_int, ltP_int, gtP_int, geP_int, addP_int, subP_int, intP_int, tupleP_lst, asLi_lst, i1, i2, i3, i4, i5, reduceCtorEq, decide_false]
    | tup _ _ =>
      have i5 : ∀ j, isiP (.tup j) (.ty "bool") = .val (.bl false) := fun _ => rfl
      simp -implicitDefEqProofs only [bind_val, asB_bl, if_true, Bool.not_true, Bool.not_false, Bool.false_eq_true, if_false, retF_rt, seqF_nx, seqF_rt, asSq_lst, asSq_tup, partP_int, leP_int, ltP_int, gtP_int, geP_int, addP_int, subP_int, intP_int, tupleP_lst, asLi_lst, i1, i2, i3, i4, i5, reduceCtorEq, decide_false]
  | non =>
    intro m a ha
    have i1 : isiP .non (.ty "tuple") = .val (.bl false) := rfl
    have i2 : ∀ p, isP p .non = .val (.bl (isNo p)) := fun _ => rfl
    have i3 : isNo .non = true := rfl
    unfold m__law_same
    cases ha <;> simp -implicitDefEqProofs only [bind_val, asB_bl, if_true, Bool.not_true, Bool.not_false, Bool.false_eq_true, if_false, retF_rt, seqF_nx, seqF_rt, asSq_lst, asSq_tup, partP_int, leP_int, ltP_int, gtP_int, geP_int, addP_int, subP_int, intP_int, tupleP_lst, asLi_lst, i1, i2, i3, reduceCtorEq, decide_false, decide_true] <;> rfl
  | str hs =>
    intro m a ha
    have i1 : ∀ j, isiP (.str j) (.ty "tuple") = .val (.bl false) := fun _ => rfl
    have i2 : ∀ j, isP (.str j) .non = .val (.bl false) := fun _ => rfl
    have i3 : ∀ j, isiP (.str j) (.ty "str") = .val (.bl true) := fun _ => rfl
    unfold m__law_same
    cases ha with
    | int =>
      have i5 : ∀ j, isiP (.int j) (.ty "str") = .val (.bl false) := fun _ => rfl
      simp -implicitDefEqProofs only [bind_val, asB_bl, if_true, Bool.not_true, Bool.not_false, Bool.false_eq_true, if_false, retF_rt, seqF_nx, seqF_rt, asSq_lst, asSq_tup, partP_int, leP_int, ltP_int, gtP_int, geP_int, addP_int, subP_int, intP_int, tupleP_lst, asLi_lst, i1, i2, i3, i5, reduceCtorEq, decide_false]
    | bl =>
      have i5 : ∀ j, isiP (.bl j) (.ty "str") = .val (.bl false) := fun _ => rfl
      simp -implicitDefEqProofs only [bind_val, asB_bl, if_true, Bool.not_true, Bool.not_false, Bool.false_eq_true, if_false, retF_rt, seqF_nx, seqF_rt, asSq_lst, asSq_tup, partP_int, leP_int, ltP_int, gtP_int, geP_int, addP_int, subP_int, intP_int, tupleP_lst, asLi_lst, i1, i2, i3, i5, reduceCtorEq, decide_false]
    | non =>
      have i5 : isiP .non (.ty "str") = .val (.bl false) := rfl
      simp -implicitDefEqProofs only [bind_val, asB_bl, if_true, Bool.not_true, Bool.not_false, Bool.false_eq_true, if_false, retF_rt, seqF_nx, seqF_rt, asSq_lst, asSq_tup, partP_int, leP_int, ltP_int, gtP_int, geP_int, addP_int, subP_int, intP_int, tupleP_lst, asLi_lst, i1, i2, i3, i5, reduceCtorEq, decide_false]
    | str h2 => simp -implicitDefEqProofs only [bind_val, asB_bl, if_true, Bool.not_true, Bool.not_false, Bool.false_eq_true, if_false, retF_rt, seqF_nx, seqF_rt, asSq_lst, asSq_tup, partP_int, leP_int, ltP_int, gtP_int, geP_int, addP_int, subP_int, intP_int, tupleP_lst, asLi_lst, i1, i2, i3, eqP_str h2 hs, PV.str.injEq]
    | tup _ _ =>
      have i5 : ∀ j, isiP (.tup j) (.ty "str") = .val (.bl false) := fun _ => rfl
      simp -implicitDefEqProofs only [bind_val, asB_bl, if_true, Bool.not_true, Bool.not_false, Bool.false_eq_true, if_false, retF_rt, seqF_nx, seqF_rt, asSq_lst, asSq_tup, partP_int, leP_int, ltP_int, gtP_int, geP_int, addP_int, subP_int, intP_int, tupleP_lst, asLi_lst, i1, i2, i3, i5, reduceCtorEq, decide_false]
  | @tup n ys hy hl ih =>
    intro m a ha
    have i1 : ∀ j, isiP (.tup j) (.ty "tuple") = .val (.bl true) := fun _ => rfl
    unfold m__law_same
    cases ha with
    | int =>
      have i5 : ∀ j, isiP (.int j) (.ty "tuple") = .val (.bl false) := fun _ => rfl
      simp -implicitDefEqProofs only [bind_val, asB_bl, if_true, Bool.not_true, Bool.not_false, Bool.false_eq_true, if_false, retF_rt, seqF_nx, seqF_rt, asSq_lst, asSq_tup, partP_int, leP_int, ltP_int, gtP_int, geP_int, addP_int, subP_int, intP_int, tupleP_lst, asLi_lst, i1, i5, reduceCtorEq, decide_false]
    | bl =>
      have i5 : ∀ j, isiP (.bl j) (.ty "tuple") = .val (.bl false) := fun _ => rfl
      simp -implicitDefEqProofs only [bind_val, asB_bl, if_true, Bool.not_true, Bool.not_false, Bool.false_eq_true, if_false, retF_rt, seqF_nx, seqF_rt, asSq_lst, asSq_tup, partP_int, leP_int, ltP_int, gtP_int, geP_int, addP_int, subP_int, intP_int, tupleP_lst, asLi_lst, i1, i5, reduceCtorEq, decide_false]
    | non =>
      have i5 : isiP .non (.ty "tuple") = .val (.bl false) := rfl
      simp -implicitDefEqProofs only [bind_val, asB_bl, if_true, Bool.not_true, Bool.not_false, Bool.false_eq_true, if_false, retF_rt, seqF_nx, seqF_rt, asSq_lst, asSq_tup, partP_int, leP_int, ltP_int, gtP_int, geP_int, addP_int, subP_int, intP_int, tupleP_lst, asLi_lst, i1, i5, reduceCtorEq, decide_false]
    | str _ =>
      have i5 : ∀ j, isiP (.str j) (.ty "tuple") = .val (.bl false) := fun _ => rfl
      simp -implicitDefEqProofs only [bind_val, asB_bl, if_true, Bool.not_true, Bool.not_false, Bool.false_eq_true, if_false, retF_rt, seqF_nx, seqF_rt, asSq_lst, asSq_tup, partP_int, leP_int, ltP_int, gtP_int, geP_int, addP_int, subP_int, intP_int, tupleP_lst, asLi_lst, i1, i5, reduceCtorEq, decide_false]
    | @tup m' xs hx hlx =>
      have ln : ∀ l : List PV, lenP (.tup l) = .val (.int (l.length : Nat)) := fun _ => rfl
      have nl : neP (.int (xs.length : Nat)) (.int (ys.length : Nat)) = .val (.bl (!Nat.beq xs.length ys.length)) := neP_nat
      have rg : rng1 (.int (ys.length : Nat)) = .val (PN (List.range ys.length)) := rng1_nat (Nat.lt_of_le_of_lt hl (by decide))
      cases el : Nat.beq xs.length ys.length with
      | false =>
        have ne : ¬ (PV.tup xs = PV.tup ys) := fun z => by
          cases z
          rw [Nat.beq_refl] at el
          cases el
        simp -implicitDefEqProofs only [bind_val, asB_bl, if_true, Bool.not_true, Bool.not_false, Bool.false_eq_true, if_false, retF_rt, seqF_nx, seqF_rt, asSq_lst, asSq_tup, partP_int, leP_int, ltP_int, gtP_int, geP_int, addP_int, subP_int, intP_int, tupleP_lst, asLi_lst, i1, ln, nl, el, decide_eq_false ne]
      | true =>
        have el' := Nat.beq_eq.mp el
        have hb := forF_chkN (L := Empty) (body := fun x24 _ => (((((ixP (.tup xs) x24) >>= fun x18 => (ixP (.tup ys) x24) >>= fun x19 => m__law_same n x18 x19) >>= asB) >>= fun b20 => Res.val (!b20)) >>= fun b21 => if b21 = true then (Res.val (.rt (.bl false) [])) else (Res.val (.nx ())))) (fun p => match p with | .int i => decide (xs[i.toNat]? = ys[i.toNat]?) | _ => false) (ps := PN (List.range ys.length)) (fun p hp => by
          obtain ⟨i, hi, rfl⟩ := List.mem_map.mp hp
          have hi := List.mem_range.mp hi
          have e1 : ixP (.tup xs) (.int (i : Nat)) = .val xs[i] := ixP_tup (List.getElem?_eq_getElem (by omega))
          have e2 : ixP (.tup ys) (.int (i : Nat)) = .val ys[i] := ixP_tup (List.getElem?_eq_getElem hi)
          have e3 := ih ys[i] (List.getElem_mem _) _ xs[i] (hx _ (List.getElem_mem _))
          have e4 : (decide (xs[((i : Nat) : Int).toNat]? = ys[((i : Nat) : Int).toNat]?) : Bool) = decide (xs[i] = ys[i]) := by
            rw [decide_eq_decide, Int.toNat_natCast, List.getElem?_eq_getElem hi, List.getElem?_eq_getElem (show i < xs.length by omega)]
            exact ⟨Option.some.inj, congrArg some⟩
          show _ = Res.val (if decide (xs[((i : Nat) : Int).toNat]? = ys[((i : Nat) : Int).toNat]?) = true then _ else _)
          rw [e4]
          simp -implicitDefEqProofs only [bind_val, asB_bl, if_true, Bool.not_true, Bool.not_false, Bool.false_eq_true, if_false, retF_rt, seqF_nx, seqF_rt, asSq_lst, asSq_tup, partP_int, leP_int, ltP_int, gtP_int, geP_int, addP_int, subP_int, intP_int, tupleP_lst, asLi_lst, e1, e2, e3]
          by_cases c : xs[i] = ys[i]
          · simp only [c, decide_true, Bool.not_true, Bool.false_eq_true, if_false, if_true]
          · simp only [c, decide_false, Bool.not_false, Bool.false_eq_true, if_false, if_true])
        have ea : ((PN (List.range ys.length)).all fun p => match p with | .int i => decide (xs[i.toNat]? = ys[i.toNat]?) | _ => false) = decide (PV.tup xs = PV.tup ys) := by
          rw [all_range (g := fun i => decide (xs[i]? = ys[i]?)) _ (fun i _ => rfl), Bool.eq_iff_iff, List.all_eq_true, decide_eq_true_eq]
          constructor
          · intro a
            refine congrArg PV.tup (List.ext_getElem? fun i => ?_)
            by_cases hi : i < ys.length
            · exact of_decide_eq_true (a i (List.mem_range.mpr hi))
            · rw [List.getElem?_eq_none (by omega), List.getElem?_eq_none (by omega)]
          · intro e i _
            cases e
            exact decide_eq_true rfl
        rw [ea] at hb
        simp -implicitDefEqProofs only [bind_val, asB_bl, if_true, Bool.not_true, Bool.not_false, Bool.false_eq_true, if_false, retF_rt, seqF_nx, seqF_rt, asSq_lst, asSq_tup, partP_int, leP_int, ltP_int, gtP_int, geP_int, addP_int, subP_int, intP_int, tupleP_lst, asLi_lst, i1, ln, nl, el, rg, hb]
        by_cases c : PV.tup xs = PV.tup ys
        · simp only [c, decide_true, if_true, seqF_nx, retF_rt]
        · simp only [c, decide_false, Bool.false_eq_true, if_false, seqF_rt, retF_rt]
open Classical in
def swp (l : List Nat) (j : Nat) : List Nat := (l.set j (l.getD (j + 1) 0)).set (j + 1) (l.getD j 0)
def exN (l : List Nat) : List (Nat × Nat) → List Nat
  | [] => l
  | p :: r => exN (if p.2 = 1 then swp l p.1 else l) r
theorem swp_len {l : List Nat} {j : Nat} : (swp l j).length = l.length := by unfold swp; rw [List.length_set, List.length_set]
theorem exN_len : ∀ {ps : List (Nat × Nat)} {l : List Nat}, (exN l ps).length = l.length
  | [], _ => rfl
  | p :: r, l => by
    show (exN (if p.2 = 1 then swp l p.1 else l) r).length = _
    rw [exN_len]
    split
    · exact swp_len
    · rfl
theorem exN_app : ∀ {ps qs : List (Nat × Nat)} {l : List Nat}, exN l (ps ++ qs) = exN (exN l ps) qs
  | [], _, _ => rfl
  | _ :: r, _, _ => exN_app (ps := r)
theorem swp_get {l : List Nat} {j k : Nat} (h : j + 1 < l.length) : (swp l j).getD k 0 = if k = j then l.getD (j + 1) 0 else if k = j + 1 then l.getD j 0 else l.getD k 0 := by
  unfold swp
  rw [List.getD_eq_getElem?_getD, List.getElem?_set, List.getElem?_set, List.length_set]
  by_cases c1 : k = j
  · subst c1
    rw [if_pos rfl, if_neg (by omega), if_pos rfl, if_pos (by omega)]
    rfl
  · rw [if_neg c1]
    by_cases c2 : k = j + 1
    · subst c2
      rw [if_pos rfl, if_pos rfl, if_pos h]
      rfl
    · rw [if_neg c2, if_neg (fun z => c2 z.symm), if_neg (fun z => c1 z.symm), List.getD_eq_getElem?_getD]
theorem exN_far : ∀ {ps : List (Nat × Nat)} {l : List Nat} {k : Nat}, (∀ p, p ∈ ps → p.1 + 1 < l.length) → (∀ p, p ∈ ps → p.1 + 2 ≤ k) → (exN l ps).getD k 0 = l.getD k 0
  | [], _, _, _, _ => rfl
  | p :: r, l, k, h1, h2 => by
    show (exN (if p.2 = 1 then swp l p.1 else l) r).getD k 0 = _
    have e : (if p.2 = 1 then swp l p.1 else l).length = l.length := by
      split
      · exact swp_len
      · rfl
    rw [exN_far (fun q hq => by rw [e]; exact h1 q (List.mem_cons_of_mem _ hq)) fun q hq => h2 q (List.mem_cons_of_mem _ hq)]
    have a := h1 p List.mem_cons_self
    have b := h2 p List.mem_cons_self
    split
    · rw [swp_get a, if_neg (by omega), if_neg (by omega)]
    · rfl
def sw1 (p : Nat × Nat) : PV := .tup [.int (p.1 : Nat), .int (p.2 : Nat)]
theorem exch_ok {row : List Nat} {ps : List (Nat × Nat)} (hp : ∀ p, p ∈ ps → p.1 + 1 < row.length) (hd : ps.Pairwise fun a b => a.1 + 2 ≤ b.1) : m__exchanged (.tup (PN row)) (.tup (ps.map sw1)) = .val (.tup (PN (exN row ps))) := by
  have as1 : ∀ l : List PV, asSq (.tup l) = .val l := fun _ => rfl
  unfold m__exchanged
  simp -implicitDefEqProofs only [bind_val, asB_bl, if_true, Bool.not_true, Bool.not_false, Bool.false_eq_true, if_false, retF_rt, seqF_nx, seqF_rt, asSq_lst, asSq_tup, partP_int, leP_int, ltP_int, gtP_int, geP_int, addP_int, subP_int, intP_int, tupleP_lst, asLi_lst, as1]
  generalize hF : forF _ _ _ = X
  obtain ⟨s', e, hs'⟩ := forF_invNX (I := fun i (s : List PV) => s = PN (exN row (ps.take i))) hF rfl (fun i x hx s hs => by
    subst hs
    have hi : i < ps.length := by
      have := (List.getElem?_eq_some_iff.mp hx).1
      rwa [List.length_map] at this
    rw [List.getElem?_map, List.getElem?_eq_getElem hi] at hx
    have hx := (Option.some.inj hx).symm
    subst hx
    have pl := hp _ (List.getElem_mem hi)
    have et : ps.take (i + 1) = ps.take i ++ [ps[i]] := by rw [List.take_add_one, List.getElem?_eq_getElem hi]; rfl
    have far : ∀ p, p ∈ ps.take i → p.1 + 2 ≤ ps[i].1 := fun p hp => by
      obtain ⟨j, hj, rfl⟩ := List.getElem_of_mem hp
      rw [List.length_take] at hj
      rw [List.getElem_take]
      exact List.pairwise_iff_getElem.mp hd j i (by omega) hi (by omega)
    have g0 := exN_far (l := row) (k := ps[i].1) (fun p hp' => hp p (List.mem_of_mem_take hp')) far
    have g1 := exN_far (l := row) (k := ps[i].1 + 1) (fun p hp' => hp p (List.mem_of_mem_take hp')) fun p hp => by have := far p hp; omega
    have ln : (exN row (ps.take i)).length = row.length := exN_len
    refine ⟨PN (exN row (ps.take (i + 1))), ?_, rfl⟩
    rw [et, exN_app]
    generalize exN row (ps.take i) = cur at g0 g1 ln
    generalize ps[i] = p at pl g0 g1
    obtain ⟨p, b⟩ := p
    have u2 : un2 (sw1 (p, b)) = .val (PV.int (p : Nat), PV.int (b : Nat)) := rfl
    have eb : eqP (.int (b : Nat)) (.int 1) = .val (.bl (decide (b = 1))) := by
      rw [eqP_int]
      refine congrArg (fun b => Res.val (PV.bl b)) (decide_eq_decide.mpr ?_)
      omega
    have a1 : ((p : Nat) : Int) + 1 = ((p + 1 : Nat) : Int) := by omega
    have x0 : ixP (.tup (PN row)) (.int (p : Nat)) = .val (.int (row.getD p 0 : Nat)) := ixP_tup (PN_get (by rw [List.getD_eq_getElem?_getD, List.getElem?_eq_getElem (show p < row.length by omega)]; rfl))
    have x1 : ixP (.tup (PN row)) (.int (p + 1 : Nat)) = .val (.int (row.getD (p + 1) 0 : Nat)) := ixP_tup (PN_get (by rw [List.getD_eq_getElem?_getD, List.getElem?_eq_getElem (show p + 1 < row.length from pl)]; rfl))
    have mk2 : ∀ a b : PV, mkT [a, b] = .val (.tup [a, b]) := fun a b => mkT_ok (by show 2 ≤ 10000000; decide)
    have u2' : ∀ a b : PV, un2 (.tup [a, b]) = .val (a, b) := fun _ _ => rfl
    by_cases c : b = 1
    · have s0 : setL (PN cur) (.int (p : Nat)) (.int (row.getD (p + 1) 0 : Nat)) = .val (PN (cur.set p (row.getD (p + 1) 0))) := by
        rw [setL_nat (by rw [PN_len]; omega)]
        unfold PN
        rw [List.map_set]
      have s1 : setL (PN (cur.set p (row.getD (p + 1) 0))) (.int (p + 1 : Nat)) (.int (row.getD p 0 : Nat)) = .val (PN ((cur.set p (row.getD (p + 1) 0)).set (p + 1) (row.getD p 0))) := by
        rw [setL_nat (by rw [PN_len, List.length_set]; omega)]
        simp only [PN, List.map_set]
      have ee : exN cur [(p, b)] = (cur.set p (row.getD (p + 1) 0)).set (p + 1) (row.getD p 0) := by
        show (if b = 1 then swp cur p else cur) = _
        rw [if_pos c]
        unfold swp
        rw [g0, g1]
      rw [ee]
      simp -implicitDefEqProofs only [bind_val, asB_bl, if_true, Bool.not_true, Bool.not_false, Bool.false_eq_true, if_false, retF_rt, seqF_nx, seqF_rt, asSq_lst, asSq_tup, partP_int, leP_int, ltP_int, gtP_int, geP_int, addP_int, subP_int, intP_int, tupleP_lst, asLi_lst, u2, eb, decide_eq_true c, a1, x0, x1, mk2, u2', noX_val, s0, s1]
    · have ee : exN cur [(p, b)] = cur := if_neg c
      rw [ee]
      simp -implicitDefEqProofs only [bind_val, asB_bl, if_true, Bool.not_true, Bool.not_false, Bool.false_eq_true, if_false, retF_rt, seqF_nx, seqF_rt, asSq_lst, asSq_tup, partP_int, leP_int, ltP_int, gtP_int, geP_int, addP_int, subP_int, intP_int, tupleP_lst, asLi_lst, u2, eb, decide_eq_false c])
  subst e hs'
  rw [List.length_map, List.take_length]
  simp -implicitDefEqProofs only [bind_val, asB_bl, if_true, Bool.not_true, Bool.not_false, Bool.false_eq_true, if_false, retF_rt, seqF_nx, seqF_rt, asSq_lst, asSq_tup, partP_int, leP_int, ltP_int, gtP_int, geP_int, addP_int, subP_int, intP_int, tupleP_lst, asLi_lst, tupL]
def layN (n : Nat) : List (List Nat) := (List.range n).map fun y => (List.range ((n - y % 2) / 2)).map fun k => y % 2 + 2 * k
def laP (l : List Nat) : PV := .tup (PN l)
def swT (n : Nat) : List PV := (List.range n).flatMap fun y => ((List.range ((n - y % 2) / 2)).map fun k => y % 2 + 2 * k).map fun j : Nat => PV.tup [.int (y : Nat), .int (j : Nat)]
theorem switch_ok : ∀ n : Nat, n < 13 → m_switch_places (.int (n : Nat)) = .val (.tup ((layN n).map laP))
  | 0, _ => rfl
  | 1, _ => rfl
  | 2, _ => rfl
  | 3, _ => rfl
  | 4, _ => rfl
  | 5, _ => rfl
  | 6, _ => rfl
  | 7, _ => rfl
  | 8, _ => rfl
  | 9, _ => rfl
  | 10, _ => rfl
  | 11, _ => rfl
  | 12, _ => rfl
  | n + 13, h => absurd h (by omega)
theorem switches_ok : ∀ n : Nat, n < 13 → m__law_switches (.int (n : Nat)) = .val (.lst (swT n))
  | 0, _ => rfl
  | 1, _ => rfl
  | 2, _ => rfl
  | 3, _ => rfl
  | 4, _ => rfl
  | 5, _ => rfl
  | 6, _ => rfl
  | 7, _ => rfl
  | 8, _ => rfl
  | 9, _ => rfl
  | 10, _ => rfl
  | 11, _ => rfl
  | 12, _ => rfl
  | n + 13, h => absurd h (by omega)
theorem swp_cut : ∀ {j : Nat} {l : List Nat}, j + 1 < l.length → l.take j ++ [l.getD (j + 1) 0, l.getD j 0] ++ l.drop (j + 2) = swp l j
  | 0, a :: b :: r, _ => rfl
  | 0, [a], h => absurd h (by simp)
  | 0, [], h => absurd h (by simp)
  | j + 1, a :: r, h => congrArg (a :: ·) (swp_cut (j := j) (l := r) (by simpa using h))
  | j + 1, [], h => absurd h (by simp)
def lay1 (n y : Nat) : List Nat := (List.range ((n - y % 2) / 2)).map fun k => y % 2 + 2 * k
theorem lay_lt {n y p : Nat} (h : p ∈ lay1 n y) : p + 1 < n := by
  obtain ⟨k, hk, rfl⟩ := List.mem_map.mp h
  have hk := List.mem_range.mp hk
  omega
theorem lay_pw {n y : Nat} : (lay1 n y).Pairwise fun a b => a + 2 ≤ b := by
  unfold lay1
  rw [List.pairwise_map]
  exact List.pairwise_lt_range.imp fun h => by omega
def swN (n : Nat) : List (Nat × Nat) := (List.range n).flatMap fun y => (lay1 n y).map fun j => (y, j)
theorem swT_swN (n : Nat) : swT n = (swN n).map fun p => PV.tup [.int (p.1 : Nat), .int (p.2 : Nat)] := by
  unfold swT swN
  rw [List.map_flatMap]
  simp only [lay1, List.map_map]
  rfl
def swL (n : Nat) : List Nat := (layN n).flatten
theorem swL_swN (n : Nat) : swL n = (swN n).map Prod.snd := by
  unfold swL swN layN
  rw [List.map_flatMap, List.flatMap_def]
  refine congrArg List.flatten (List.map_congr_left fun y _ => ?_)
  rw [List.map_map]
  show lay1 n y = (lay1 n y).map id
  rw [List.map_id]
theorem swL_lt {n p : Nat} (h : p ∈ swL n) : p + 1 < n := by
  obtain ⟨l, hl, hp⟩ := List.mem_flatten.mp h
  obtain ⟨y, _, rfl⟩ := List.mem_map.mp hl
  exact lay_lt hp
theorem swL_len : ∀ n : Nat, n < 13 → (swL n).length = n * (n - 1) / 2 := by decide
def cutL : List (List Nat) → List Nat → List (List (Nat × Nat))
  | [], _ => []
  | l :: ls, bs => l.zip (bs.take l.length) :: cutL ls (bs.drop l.length)
theorem cutL_flat : ∀ {ls : List (List Nat)} {bs : List Nat}, (cutL ls bs).flatten = ls.flatten.zip bs
  | [], bs => by
    show [] = List.zip [] bs
    rw [List.zip_nil_left]
  | l :: ls, bs => by
    show l.zip (bs.take l.length) ++ (cutL ls (bs.drop l.length)).flatten = (l ++ ls.flatten).zip bs
    rw [cutL_flat]
    by_cases h : l.length ≤ bs.length
    · conv => rhs; rw [← List.take_append_drop l.length bs]
      rw [List.zip_append (by rw [List.length_take]; omega)]
    · rw [List.drop_eq_nil_of_le (by omega), List.take_of_length_le (by omega), List.zip_nil_right, List.append_nil]
      have e : ∀ (l m b : List Nat), b.length ≤ l.length → l.zip b = (l ++ m).zip b := by
        intro l
        induction l with
        | nil =>
          intro m b hb
          have : b = [] := List.length_eq_zero_iff.mp (by simpa using hb)
          subst this
          rw [List.zip_nil_right, List.zip_nil_right]
        | cons a l ih =>
          intro m b hb
          cases b with
          | nil => rw [List.zip_nil_right, List.zip_nil_right]
          | cons c b => exact congrArg ((a, c) :: ·) (ih m b (by simpa using hb))
      exact e _ _ _ (by omega)
theorem foldEx : ∀ {zs : List (List (Nat × Nat))} {row : List Nat}, zs.foldl exN row = exN row zs.flatten
  | [], _ => rfl
  | z :: zs, row => by
    show zs.foldl exN (exN row z) = exN row (z ++ zs.flatten)
    rw [foldEx, exN_app]
theorem law_sources_ok {n : Nat} (hn : n < 13) {bs : List Nat} (hb : bs.length = (swL n).length) : m__law_sources (.int (n : Nat)) (.tup (PN bs)) = .val (.tup (PN (exN (List.range n) ((swL n).zip bs)))) := by
  have ln := swL_len n hn
  have l66 : (swL n).length ≤ 66 := by
    have : n * (n - 1) / 2 ≤ 66 := by
      have h : ∀ n : Nat, n < 13 → n * (n - 1) / 2 ≤ 66 := by decide
      exact h n hn
    omega
  have pp : ∀ n : Nat, partP (.int (n : Nat)) = .val ((n : Nat) : Int) := fun _ => rfl
  have rg : rgL 0 ((n : Nat) : Int) = .val (PN (List.range n)) := by
    unfold rgL
    rw [if_pos (by omega)]
    refine congrArg Res.val ?_
    unfold rngP PN
    rw [show (((n : Nat) : Int) - 0).toNat = n by omega]
    exact List.map_congr_left fun i _ => by rw [Int.zero_add]
  have ls : lenP (.lst (swT n)) = .val (.int ((swL n).length : Nat)) := by rw [lenP_lst, swT_swN, swL_swN, List.length_map, List.length_map]
  have rk : rng1 (.int ((swL n).length : Nat)) = .val (PN (List.range (swL n).length)) := rng1_nat (by omega)
  unfold m__law_sources
  simp -implicitDefEqProofs only [bind_val, asB_bl, if_true, Bool.not_true, Bool.not_false, Bool.false_eq_true, if_false, retF_rt, seqF_nx, seqF_rt, asSq_lst, asSq_tup, partP_int, leP_int, ltP_int, gtP_int, geP_int, addP_int, subP_int, intP_int, tupleP_lst, asLi_lst, pp, rg, switches_ok n hn, ls, rk]
  generalize hF : forF _ _ _ = X
  obtain ⟨s', e, hs'⟩ := forF_invNX (I := fun i (s : PV) => s = .lst (PN (exN (List.range n) (((swL n).zip bs).take i)))) hF rfl (fun i x hx s hs => by
    subst hs
    have hi : i < (swL n).length := by
      have := (List.getElem?_eq_some_iff.mp hx).1
      rwa [PN_len, List.length_range] at this
    rw [PN_get (n := i) (List.getElem?_range hi)] at hx
    have hx := (Option.some.inj hx).symm
    subst hx
    have hz : i < ((swL n).zip bs).length := by rw [List.length_zip]; omega
    have et : ((swL n).zip bs).take (i + 1) = ((swL n).zip bs).take i ++ [((swL n).zip bs)[i]] := by rw [List.take_add_one, List.getElem?_eq_getElem hz]; rfl
    have cl : (exN (List.range n) (((swL n).zip bs).take i)).length = n := by rw [exN_len, List.length_range]
    have jl := swL_lt (List.getElem_mem hi)
    have xb : ixP (.tup (PN bs)) (.int (i : Nat)) = .val (.int (bs[i] : Nat)) := ixP_tup (PN_get (List.getElem?_eq_getElem _))
    have hs : i < (swN n).length := by
      have := congrArg List.length (swL_swN n)
      rw [List.length_map] at this
      omega
    have xs : ixP (.lst (swT n)) (.int (i : Nat)) = .val (.tup [.int ((swN n)[i].1 : Nat), .int ((swL n)[i] : Nat)]) := ixP_lst (by
      rw [swT_swN, List.getElem?_map, List.getElem?_eq_getElem hs]
      have : (swL n)[i] = (swN n)[i].2 := by simp only [swL_swN, List.getElem_map]
      rw [this]
      rfl)
    refine ⟨.lst (PN (exN (List.range n) (((swL n).zip bs).take (i + 1)))), ?_, rfl⟩
    rw [et, exN_app, List.getElem_zip]
    generalize exN (List.range n) (((swL n).zip bs).take i) = cur at cl
    generalize (swL n)[i] = j at jl xs
    generalize bs[i] = b at xb
    have eb : eqP (.int (b : Nat)) (.int 1) = .val (.bl (decide (b = 1))) := by
      rw [eqP_int]
      refine congrArg (fun b => Res.val (PV.bl b)) (decide_eq_decide.mpr ?_)
      omega
    have i1 : ∀ a b : PV, ixP (.tup [a, b]) (.int 1) = .val b := fun _ _ => rfl
    by_cases c : b = 1
    · have ee : exN cur [(j, b)] = swp cur j := if_pos c
      have a1 : ((j : Nat) : Int) + 1 = ((j + 1 : Nat) : Int) := by omega
      have a2 : ((j : Nat) : Int) + 2 = ((j + 2 : Nat) : Int) := by omega
      have x0 : ixP (.lst (PN cur)) (.int (j : Nat)) = .val (.int (cur.getD j 0 : Nat)) := ixP_lst (PN_get (by rw [List.getD_eq_getElem?_getD, List.getElem?_eq_getElem (show j < cur.length by omega)]; rfl))
      have x1 : ixP (.lst (PN cur)) (.int (j + 1 : Nat)) = .val (.int (cur.getD (j + 1) 0 : Nat)) := ixP_lst (PN_get (by rw [List.getD_eq_getElem?_getD, List.getElem?_eq_getElem (show j + 1 < cur.length by omega)]; rfl))
      have mk2 : ∀ a b : PV, mkL [a, b] = .val (.lst [a, b]) := fun a b => mkL_ok (by show 2 ≤ 10000000; decide)
      have ad1 : addP (.lst ((PN cur).take j)) (.lst [.int (cur.getD (j + 1) 0 : Nat), .int (cur.getD j 0 : Nat)]) = .val (.lst ((PN cur).take j ++ [.int (cur.getD (j + 1) 0 : Nat), .int (cur.getD j 0 : Nat)])) := addP_lsts (by rw [List.length_take, PN_len]; show _ + 2 ≤ _; omega)
      have ad2 : addP (.lst ((PN cur).take j ++ [.int (cur.getD (j + 1) 0 : Nat), .int (cur.getD j 0 : Nat)])) (.lst ((PN cur).drop (j + 2))) = .val (.lst (PN (swp cur j))) := by
        rw [addP_lsts (by rw [List.length_append, List.length_take, List.length_drop, PN_len]; show _ + 2 + _ ≤ _; omega), ← swp_cut (l := cur) (j := j) (by omega)]
        simp only [PN, List.map_append, List.map_take, List.map_drop]
        rfl
      rw [ee]
      simp -implicitDefEqProofs only [bind_val, asB_bl, if_true, Bool.not_true, Bool.not_false, Bool.false_eq_true, if_false, retF_rt, seqF_nx, seqF_rt, asSq_lst, asSq_tup, partP_int, leP_int, ltP_int, gtP_int, geP_int, addP_int, subP_int, intP_int, tupleP_lst, asLi_lst, xb, eb, decide_eq_true c, xs, i1, slP_to, a1, a2, x0, x1, mk2, ad1, pp, slP_from, ad2]
    · have ee : exN cur [(j, b)] = cur := if_neg c
      rw [ee]
      simp -implicitDefEqProofs only [bind_val, asB_bl, if_true, Bool.not_true, Bool.not_false, Bool.false_eq_true, if_false, retF_rt, seqF_nx, seqF_rt, asSq_lst, asSq_tup, partP_int, leP_int, ltP_int, gtP_int, geP_int, addP_int, subP_int, intP_int, tupleP_lst, asLi_lst, xb, eb, decide_eq_false c])
  subst e hs'
  have tk : ((swL n).zip bs).take (PN (List.range (swL n).length)).length = (swL n).zip bs := List.take_of_length_le (by rw [PN_len, List.length_range, List.length_zip]; omega)
  rw [tk]
  simp -implicitDefEqProofs only [bind_val, asB_bl, if_true, Bool.not_true, Bool.not_false, Bool.false_eq_true, if_false, retF_rt, seqF_nx, seqF_rt, asSq_lst, asSq_tup, partP_int, leP_int, ltP_int, gtP_int, geP_int, addP_int, subP_int, intP_int, tupleP_lst, asLi_lst, tupL]
theorem lenTn {l : List PV} : lenP (.tup l) = .val (.int (l.length : Nat)) := rfl
def inQ (q : Nat) (i : Int) : Bool := decide (0 ≤ i) && decide (i < (q : Int))
theorem residue_int {q : Nat} {i : Int} : m_is_residue (.int (q : Nat)) (.int i) = .val (.bl (inQ q i)) := by
  have t1 : isiP (.int i) (.ty "int") = .val (.bl true) := rfl
  unfold m_is_residue inQ
  simp -implicitDefEqProofs only [bind_val, asB_bl, if_true, Bool.not_true, Bool.not_false, Bool.false_eq_true, if_false, retF_rt, seqF_nx, seqF_rt, asSq_lst, asSq_tup, partP_int, leP_int, ltP_int, gtP_int, geP_int, addP_int, subP_int, intP_int, tupleP_lst, asLi_lst, t1]
  by_cases c : 0 ≤ i
  · simp -implicitDefEqProofs only [bind_val, asB_bl, if_true, Bool.not_true, Bool.not_false, Bool.false_eq_true, if_false, retF_rt, seqF_nx, seqF_rt, asSq_lst, asSq_tup, partP_int, leP_int, ltP_int, gtP_int, geP_int, addP_int, subP_int, intP_int, tupleP_lst, asLi_lst, decide_eq_true c, Bool.true_and]
  · simp -implicitDefEqProofs only [bind_val, asB_bl, if_true, Bool.not_true, Bool.not_false, Bool.false_eq_true, if_false, retF_rt, seqF_nx, seqF_rt, asSq_lst, asSq_tup, partP_int, leP_int, ltP_int, gtP_int, geP_int, addP_int, subP_int, intP_int, tupleP_lst, asLi_lst, decide_eq_false c, Bool.false_and]
theorem tuple_of_len {ps : List PV} {w : Nat} : m_is_tuple_of (.int (w : Nat)) (.tup ps) = .val (.bl (decide (ps.length = w))) := by
  have t1 : isiP (.tup ps) (.ty "tuple") = .val (.bl true) := rfl
  have q1 : eqP (.int (ps.length : Nat)) (.int (w : Nat)) = .val (.bl (decide (ps.length = w))) := by
    rw [eqP_int]
    refine congrArg (fun b => Res.val (PV.bl b)) (decide_eq_decide.mpr ?_)
    omega
  unfold m_is_tuple_of
  simp -implicitDefEqProofs only [bind_val, asB_bl, if_true, Bool.not_true, Bool.not_false, Bool.false_eq_true, if_false, retF_rt, seqF_nx, seqF_rt, asSq_lst, asSq_tup, partP_int, leP_int, ltP_int, gtP_int, geP_int, addP_int, subP_int, intP_int, tupleP_lst, asLi_lst, t1, lenTn, q1]
theorem res_row_ints {q w : Nat} {x : List Int} (hx : x.length ≤ 10000) : m_is_residue_row (.int (q : Nat)) (.int (w : Nat)) (.tup (PZ x)) = .val (.bl (decide (x.length = w) && x.all (inQ q))) := by
  unfold m_is_residue_row
  simp -implicitDefEqProofs only [bind_val, asB_bl, if_true, Bool.not_true, Bool.not_false, Bool.false_eq_true, if_false, retF_rt, seqF_nx, seqF_rt, asSq_lst, asSq_tup, partP_int, leP_int, ltP_int, gtP_int, geP_int, addP_int, subP_int, intP_int, tupleP_lst, asLi_lst, tuple_of_len, PZ_len]
  by_cases c : x.length = w
  · have sz : sized x.length = .val () := sized_small (by omega)
    simp -implicitDefEqProofs only [bind_val, asB_bl, if_true, Bool.not_true, Bool.not_false, Bool.false_eq_true, if_false, retF_rt, seqF_nx, seqF_rt, asSq_lst, asSq_tup, partP_int, leP_int, ltP_int, gtP_int, geP_int, addP_int, subP_int, intP_int, tupleP_lst, asLi_lst, decide_eq_true c, PZ_len, sz]
    generalize hE : lcF _ _ _ _ = X
    have eX := lcMapX hE PV.int PV.int (fun i => PV.bl (inQ q i)) x rfl (fun _ _ => rfl) (fun i _ => residue_int)
    have eX2 : X = .val ((x.map (inQ q)).map PV.bl) := by rw [eX, List.map_map]; rfl
    subst eX2
    simp -implicitDefEqProofs only [bind_val, asB_bl, if_true, Bool.not_true, Bool.not_false, Bool.false_eq_true, if_false, retF_rt, seqF_nx, seqF_rt, asSq_lst, asSq_tup, partP_int, leP_int, ltP_int, gtP_int, geP_int, addP_int, subP_int, intP_int, tupleP_lst, asLi_lst, allP_bls, List.all_map, Bool.true_and]
    rfl
  · simp -implicitDefEqProofs only [bind_val, asB_bl, if_true, Bool.not_true, Bool.not_false, Bool.false_eq_true, if_false, retF_rt, seqF_nx, seqF_rt, asSq_lst, asSq_tup, partP_int, leP_int, ltP_int, gtP_int, geP_int, addP_int, subP_int, intP_int, tupleP_lst, asLi_lst, decide_eq_false c, Bool.false_and]
theorem PN_toZ {l : List Nat} : PN l = PZ (l.map fun n : Nat => (n : Int)) := by
  unfold PN PZ
  rw [List.map_map]
  rfl
theorem count_ok : ∀ n : Nat, n < 13 → m__count_switches (.int (n : Nat)) = .val (.int ((n * (n - 1) / 2 : Nat) : Int))
  | 0, _ => rfl
  | 1, _ => rfl
  | 2, _ => rfl
  | 3, _ => rfl
  | 4, _ => rfl
  | 5, _ => rfl
  | 6, _ => rfl
  | 7, _ => rfl
  | 8, _ => rfl
  | 9, _ => rfl
  | 10, _ => rfl
  | 11, _ => rfl
  | 12, _ => rfl
  | n + 13, h => absurd h (by omega)
theorem check_yes {n : Nat} (hn : n < 13) {x : List Int} (hl : x.length = (swL n).length) (h : ∀ i, i ∈ x → inQ 2 i = true) : m__check_settings (.int (n : Nat)) (.tup (PZ x)) = .val .non := by
  have l66 : (swL n).length ≤ 66 := by
    have h : ∀ n : Nat, n < 13 → n * (n - 1) / 2 ≤ 66 := by decide
    rw [swL_len n hn]
    exact h n hn
  have rr := res_row_ints (q := 2) (w := n * (n - 1) / 2) (x := x) (by omega)
  rw [decide_eq_true (by rw [hl, swL_len n hn]), Bool.true_and, List.all_eq_true.mpr h] at rr
  have rr : m_is_residue_row (.int 2) (.int ((n * (n - 1) / 2 : Nat) : Int)) (.tup (PZ x)) = .val (.bl true) := rr
  unfold m__check_settings
  simp -implicitDefEqProofs only [bind_val, asB_bl, if_true, Bool.not_true, Bool.not_false, Bool.false_eq_true, if_false, retF_rt, seqF_nx, seqF_rt, asSq_lst, asSq_tup, partP_int, leP_int, ltP_int, gtP_int, geP_int, addP_int, subP_int, intP_int, tupleP_lst, asLi_lst, count_ok n hn, rr]
  rfl
theorem check_no {n : Nat} (hn : n < 13) {x : List Int} (hl : x.length ≤ 10000) (h : ¬(x.length = (swL n).length ∧ ∀ i, i ∈ x → inQ 2 i = true)) : m__check_settings (.int (n : Nat)) (.tup (PZ x)) = .exc "BadTape" := by
  have rr := res_row_ints (q := 2) (w := n * (n - 1) / 2) (x := x) hl
  have e : (decide (x.length = n * (n - 1) / 2) && x.all (inQ 2)) = false := by
    cases c : (decide (x.length = n * (n - 1) / 2) && x.all (inQ 2)) with
    | false => rfl
    | true =>
      rw [Bool.and_eq_true, decide_eq_true_iff, List.all_eq_true] at c
      exact absurd ⟨by rw [swL_len n hn]; exact c.1, c.2⟩ h
  rw [e] at rr
  have rr : m_is_residue_row (.int 2) (.int ((n * (n - 1) / 2 : Nat) : Int)) (.tup (PZ x)) = .val (.bl false) := rr
  unfold m__check_settings
  simp -implicitDefEqProofs only [bind_val, asB_bl, if_true, Bool.not_true, Bool.not_false, Bool.false_eq_true, if_false, retF_rt, seqF_nx, seqF_rt, asSq_lst, asSq_tup, partP_int, leP_int, ltP_int, gtP_int, geP_int, addP_int, subP_int, intP_int, tupleP_lst, asLi_lst, count_ok n hn, rr]
  rfl
theorem zip_sw (l b : List Nat) : zipP (PN l) (PN b) = (l.zip b).map sw1 := by
  induction l generalizing b with
  | nil => rfl
  | cons a l ih =>
    cases b with
    | nil => rfl
    | cons c b => exact congrArg (sw1 (a, c) :: ·) (ih b)
theorem layer_loop {L : Type} {body : PV → List PV × PV → Res (Fl (List PV × PV) (List PV × PV))} {bs : List Nat}
    (hb : ∀ (l : List Nat) (acc : List PV) (at_ : Nat), acc.length ≤ 1000 → l.length ≤ 1000 → at_ ≤ 100000 → body (laP l) (acc, .int (at_ : Nat)) = .val (.nx (acc ++ [.tup ((l.zip ((bs.drop at_).take l.length)).map sw1)], .int (at_ + l.length : Nat)))) :
    ∀ (ls : List (List Nat)) (acc : List PV) (at_ : Nat), acc.length + ls.length ≤ 1000 → (∀ l, l ∈ ls → l.length ≤ 1000) → at_ + ls.flatten.length ≤ 100000 → forF (L := L) body (ls.map laP) (acc, .int (at_ : Nat)) = .val (.nx (acc ++ (cutL ls (bs.drop at_)).map (fun z => PV.tup (z.map sw1)), .int (at_ + ls.flatten.length : Nat)))
  | [], acc, at_, _, _, _ => by
    show Res.val (Fl.nx (acc, PV.int (at_ : Nat))) = .val (.nx (acc ++ [], .int (at_ + 0 : Nat)))
    rw [List.append_nil, Nat.add_zero]
  | l :: ls, acc, at_, h1, h2, h3 => by
    have h3' : at_ + (l.length + ls.flatten.length) ≤ 100000 := by
      have := h3
      rwa [List.flatten_cons, List.length_append] at this
    show forF body (laP l :: ls.map laP) _ = _
    rw [forF_c, hb l acc at_ (by rw [List.length_cons] at h1; omega) (h2 l List.mem_cons_self) (by omega)]
    show forF body (ls.map laP) _ = _
    rw [layer_loop hb ls _ _ (by rw [List.length_append]; rw [List.length_cons] at h1; show acc.length + 1 + _ ≤ _; omega) (fun m hm => h2 m (List.mem_cons_of_mem _ hm)) (by omega)]
    refine congrArg (fun z => Res.val (Fl.nx z)) (Prod.ext ?_ ?_)
    · show acc ++ [_] ++ _ = acc ++ _
      rw [List.append_assoc, ← List.drop_drop]
      rfl
    · show PV.int _ = PV.int _
      rw [List.flatten_cons, List.length_append, Nat.add_assoc]
theorem layer_loopX {L : Type} {body : PV → List PV × PV → Res (Fl (List PV × PV) (List PV × PV))} {bs : List Nat} {ls : List (List Nat)} {X : Res (Fl (List PV × PV) L)} (hF : forF body (ls.map laP) ([], .int 0) = X)
    (hb : ∀ (l : List Nat) (acc : List PV) (at_ : Nat), acc.length ≤ 1000 → l.length ≤ 1000 → at_ ≤ 100000 → body (laP l) (acc, .int (at_ : Nat)) = .val (.nx (acc ++ [.tup ((l.zip ((bs.drop at_).take l.length)).map sw1)], .int (at_ + l.length : Nat))))
    (h1 : ls.length ≤ 1000) (h2 : ∀ l, l ∈ ls → l.length ≤ 1000) (h3 : ls.flatten.length ≤ 100000) : X = .val (.nx ((cutL ls bs).map (fun z => PV.tup (z.map sw1)), .int (ls.flatten.length : Nat))) := by
  have e := layer_loop (L := L) hb ls [] 0 (by rw [List.length_nil]; omega) h2 (by omega)
  rw [Nat.zero_add] at e
  exact hF.symm.trans e
theorem layN_len (n : Nat) : (layN n).length = n := by unfold layN; rw [List.length_map, List.length_range]
theorem lay_len {n : Nat} {l : List Nat} (h : l ∈ layN n) : l.length ≤ n := by
  obtain ⟨y, _, rfl⟩ := List.mem_map.mp h
  rw [List.length_map, List.length_range]
  omega
theorem swL66 {n : Nat} (hn : n < 13) : (swL n).length ≤ 66 := by
  have h : ∀ n : Nat, n < 13 → n * (n - 1) / 2 ≤ 66 := by decide
  rw [swL_len n hn]
  exact h n hn
theorem by_layer_ok {n : Nat} (hn : n < 13) (bs : List Nat) : m__by_layer (.int (n : Nat)) (.tup (PN bs)) = .val (.tup ((cutL (layN n) bs).map fun z => PV.tup (z.map sw1))) := by
  have mk0 : mkN ([] : List PV) = .val [] := mkN_ok (by show 0 ≤ 10000000; decide)
  have as1 : ∀ l : List PV, asSq (.tup l) = .val l := fun _ => rfl
  have pp : ∀ n : Nat, partP (.int (n : Nat)) = .val ((n : Nat) : Int) := fun _ => rfl
  have l66 : (layN n).flatten.length ≤ 66 := swL66 hn
  unfold m__by_layer
  simp -implicitDefEqProofs only [bind_val, asB_bl, if_true, Bool.not_true, Bool.not_false, Bool.false_eq_true, if_false, retF_rt, seqF_nx, seqF_rt, asSq_lst, asSq_tup, partP_int, leP_int, ltP_int, gtP_int, geP_int, addP_int, subP_int, intP_int, tupleP_lst, asLi_lst, mk0, switch_ok n hn, as1]
  generalize hF : forF _ _ _ = X
  have e := layer_loopX (bs := bs) hF (fun l acc at_ h1 h2 h3 => by
    have ll : lenP (laP l) = .val (.int (l.length : Nat)) := by
      show Res.val (PV.int ((PN l).length : Nat)) = _
      rw [PN_len]
    have a1 : ((at_ : Nat) : Int) + ((l.length : Nat) : Int) = ((at_ + l.length : Nat) : Int) := by omega
    have sl : slP (.tup (PN bs)) (some ((at_ : Nat) : Int)) (some ((at_ + l.length : Nat) : Int)) = .val (.tup (PN ((bs.drop at_).take l.length))) := by
      rw [slT_mid]
      refine congrArg (fun z => Res.val (PV.tup z)) ?_
      simp only [PN, List.map_take, List.map_drop]
      rw [List.drop_take, Nat.add_sub_cancel_left]
    have zz : zpL2 (laP l) (.tup (PN ((bs.drop at_).take l.length))) = .val ((l.zip ((bs.drop at_).take l.length)).map sw1) := by
      show Res.val (zipP (PN l) (PN _)) = _
      rw [zip_sw]
    have sz : sized (acc.length + 1) = .val () := sized_small (by omega)
    simp -implicitDefEqProofs only [bind_val, asB_bl, if_true, Bool.not_true, Bool.not_false, Bool.false_eq_true, if_false, retF_rt, seqF_nx, seqF_rt, asSq_lst, asSq_tup, partP_int, leP_int, ltP_int, gtP_int, geP_int, addP_int, subP_int, intP_int, tupleP_lst, asLi_lst, pp, ll, a1, sl, zz, sz]) (by rw [layN_len]; omega) (fun l hl => by have := lay_len hl; omega) (by omega)
  subst e
  simp -implicitDefEqProofs only [bind_val, asB_bl, if_true, Bool.not_true, Bool.not_false, Bool.false_eq_true, if_false, retF_rt, seqF_nx, seqF_rt, asSq_lst, asSq_tup, partP_int, leP_int, ltP_int, gtP_int, geP_int, addP_int, subP_int, intP_int, tupleP_lst, asLi_lst, tupL]
theorem layer_pw {n : Nat} {ls : List (List Nat)} : ∀ {bs : List Nat} {z : List (Nat × Nat)}, (∀ l, l ∈ ls → (∀ p, p ∈ l → p + 1 < n) ∧ l.Pairwise fun a b => a + 2 ≤ b) → z ∈ cutL ls bs → (∀ p, p ∈ z → p.1 + 1 < n) ∧ z.Pairwise fun a b => a.1 + 2 ≤ b.1 := by
  induction ls with
  | nil => intro bs z _ hz; cases hz
  | cons l ls ih =>
    intro bs z h hz
    rcases List.mem_cons.mp (show z ∈ l.zip (bs.take l.length) :: cutL ls (bs.drop l.length) from hz) with rfl | hz
    · obtain ⟨h1, h2⟩ := h l List.mem_cons_self
      refine ⟨fun p hp => h1 _ (List.of_mem_zip (show (p.1, p.2) ∈ _ from hp)).1, ?_⟩
      clear ih h h1 hz
      generalize bs.take l.length = b
      induction l generalizing b with
      | nil => rw [List.zip_nil_left]; exact .nil
      | cons a l il =>
        cases b with
        | nil => rw [List.zip_nil_right]; exact .nil
        | cons c b =>
          obtain ⟨k1, k2⟩ := List.pairwise_cons.mp h2
          exact .cons (fun q hq => k1 _ (List.of_mem_zip (show (q.1, q.2) ∈ _ from hq)).1) (il k2 b)
    · exact ih (fun m hm => h m (List.mem_cons_of_mem _ hm)) hz
theorem source_ok {n : Nat} (hn : n < 13) {bs : List Nat} (hb : bs.length = (swL n).length) (h2 : ∀ b, b ∈ bs → b < 2) : m_source_places (.int (n : Nat)) (.tup (PN bs)) = .val (.tup (PN (exN (List.range n) ((swL n).zip bs)))) := by
  have as1 : ∀ l : List PV, asSq (.tup l) = .val l := fun _ => rfl
  have pp : ∀ n : Nat, partP (.int (n : Nat)) = .val ((n : Nat) : Int) := fun _ => rfl
  have rg : rgL 0 ((n : Nat) : Int) = .val (PN (List.range n)) := by
    unfold rgL
    rw [if_pos (by omega)]
    refine congrArg Res.val ?_
    unfold rngP PN
    rw [show (((n : Nat) : Int) - 0).toNat = n by omega]
    exact List.map_congr_left fun i _ => by rw [Int.zero_add]
  have ck : m__check_settings (.int (n : Nat)) (.tup (PN bs)) = .val .non := by
    rw [PN_toZ]
    refine check_yes hn (by rw [List.length_map]; exact hb) fun i hi => ?_
    obtain ⟨a, ha, rfl⟩ := List.mem_map.mp hi
    have := h2 a ha
    unfold inQ
    rw [decide_eq_true (show (0 : Int) ≤ (a : Int) by omega), decide_eq_true (show (a : Int) < ((2 : Nat) : Int) by omega)]
    rfl
  unfold m_source_places
  simp -implicitDefEqProofs only [bind_val, asB_bl, if_true, Bool.not_true, Bool.not_false, Bool.false_eq_true, if_false, retF_rt, seqF_nx, seqF_rt, asSq_lst, asSq_tup, partP_int, leP_int, ltP_int, gtP_int, geP_int, addP_int, subP_int, intP_int, tupleP_lst, asLi_lst, ck, pp, rg, by_layer_ok hn, as1]
  generalize hF : forF _ _ _ = X
  obtain ⟨s', e, hs'⟩ := forF_invNX (I := fun i (s : PV) => s = .tup (PN (((cutL (layN n) bs).take i).foldl exN (List.range n)))) hF rfl (fun i x hx s hs => by
    subst hs
    have hi : i < (cutL (layN n) bs).length := by
      have := (List.getElem?_eq_some_iff.mp hx).1
      rwa [List.length_map] at this
    rw [List.getElem?_map, List.getElem?_eq_getElem hi] at hx
    have hx := (Option.some.inj hx).symm
    subst hx
    have cl : (((cutL (layN n) bs).take i).foldl exN (List.range n)).length = n := by rw [foldEx, exN_len, List.length_range]
    obtain ⟨q1, q2⟩ := layer_pw (n := n) (fun l hl => by
      obtain ⟨y, _, rfl⟩ := List.mem_map.mp hl
      exact ⟨fun p hp => lay_lt hp, lay_pw⟩) (List.getElem_mem hi)
    have ex := exch_ok (row := ((cutL (layN n) bs).take i).foldl exN (List.range n)) (fun p hp => by rw [cl]; exact q1 p hp) q2
    refine ⟨_, ?_, by rw [List.take_add_one, List.getElem?_eq_getElem hi, List.foldl_append]⟩
    simp -implicitDefEqProofs only [bind_val, asB_bl, if_true, Bool.not_true, Bool.not_false, Bool.false_eq_true, if_false, retF_rt, seqF_nx, seqF_rt, asSq_lst, asSq_tup, partP_int, leP_int, ltP_int, gtP_int, geP_int, addP_int, subP_int, intP_int, tupleP_lst, asLi_lst, ex]
    rfl)
  subst e hs'
  rw [List.length_map, List.take_length, foldEx, cutL_flat]
  simp -implicitDefEqProofs only [bind_val, asB_bl, if_true, Bool.not_true, Bool.not_false, Bool.false_eq_true, if_false, retF_rt, seqF_nx, seqF_rt, asSq_lst, asSq_tup, partP_int, leP_int, ltP_int, gtP_int, geP_int, addP_int, subP_int, intP_int, tupleP_lst, asLi_lst]
  rfl
def stB (v j : Nat) : Nat := bif Nat.beq (v / 2 ^ j % 4) 1 then v + 2 ^ j else v
def upB (w : Nat) : Nat → Bool
  | 0 => true
  | i + 1 => !(Nat.beq (w / 2 ^ i % 4) 1) && upB w i
def netB (n : Nat) (L : List Nat) : Nat → Bool
  | 0 => true
  | v + 1 => upB (L.foldl stB v) (n - 1) && netB n L v
theorem netB_at {n : Nat} {L : List Nat} : ∀ {m : Nat}, netB n L m = true → ∀ v, v < m → upB (L.foldl stB v) (n - 1) = true
  | m + 1, h, v, hv => by
    have h : upB (L.foldl stB m) (n - 1) = true ∧ netB n L m = true := by
      have h : (upB (L.foldl stB m) (n - 1) && netB n L m) = true := h
      rwa [Bool.and_eq_true] at h
    by_cases c : v = m
    · rw [c]; exact h.1
    · exact netB_at h.2 v (by omega)
theorem upB_at {w : Nat} : ∀ {m : Nat}, upB w m = true → ∀ i, i < m → w / 2 ^ i % 4 ≠ 1
  | m + 1, h, i, hi => by
    have h : (!(Nat.beq (w / 2 ^ m % 4) 1)) = true ∧ upB w m = true := by
      have h : (!(Nat.beq (w / 2 ^ m % 4) 1) && upB w m) = true := h
      rwa [Bool.and_eq_true] at h
    by_cases c : i = m
    · subst c
      intro z
      rw [z] at h
      exact absurd h.1 (by decide)
    · exact upB_at h.2 i (by omega)
theorem net_all : ∀ n : Nat, n < 13 → netB n (swL n) (2 ^ n) = true
  | 0, _ => by decide +kernel
  | 1, _ => by decide +kernel
  | 2, _ => by decide +kernel
  | 3, _ => by decide +kernel
  | 4, _ => by decide +kernel
  | 5, _ => by decide +kernel
  | 6, _ => by decide +kernel
  | 7, _ => by decide +kernel
  | 8, _ => by decide +kernel
  | 9, _ => by decide +kernel
  | 10, _ => by decide +kernel
  | 11, _ => by decide +kernel
  | 12, _ => by decide +kernel
  | n + 13, h => absurd h (by omega)
def vt (t : Nat) : List Nat → Nat
  | [] => 0
  | a :: r => (if t ≤ a then 1 else 0) + 2 * vt t r
def cxl (l : List Nat) (j : Nat) : List Nat := if l.getD (j + 1) 0 < l.getD j 0 then swp l j else l
theorem cxl_len {l : List Nat} {j : Nat} : (cxl l j).length = l.length := by
  unfold cxl
  split
  · exact swp_len
  · rfl
theorem vt_lt {t : Nat} : ∀ {l : List Nat}, vt t l < 2 ^ l.length
  | [] => by show 0 < 1; decide
  | a :: r => by
    have := vt_lt (t := t) (l := r)
    show (if t ≤ a then 1 else 0) + 2 * vt t r < 2 ^ (r.length + 1)
    rw [Nat.pow_succ]
    split <;> omega
theorem div_sh {b v j : Nat} (hb : b < 2) : (b + 2 * v) / 2 ^ (j + 1) = v / 2 ^ j := by
  rw [Nat.pow_succ, Nat.mul_comm (2 ^ j) 2, ← Nat.div_div_eq_div_mul, show (b + 2 * v) / 2 = v by omega]
theorem vt_bits {t : Nat} : ∀ {i : Nat} {l : List Nat}, i + 1 < l.length → vt t l / 2 ^ i % 4 = (if t ≤ l.getD i 0 then 1 else 0) + 2 * (if t ≤ l.getD (i + 1) 0 then 1 else 0)
  | 0, a :: b :: r, _ => by
    show ((if t ≤ a then 1 else 0) + 2 * ((if t ≤ b then 1 else 0) + 2 * vt t r)) / 1 % 4 = (if t ≤ a then 1 else 0) + 2 * (if t ≤ b then 1 else 0)
    rw [Nat.div_one]
    split <;> split <;> omega
  | 0, [a], h => absurd h (by simp)
  | 0, [], h => absurd h (by simp)
  | i + 1, a :: r, h => by
    show ((if t ≤ a then 1 else 0) + 2 * vt t r) / 2 ^ (i + 1) % 4 = _
    rw [div_sh (by split <;> omega)]
    exact vt_bits (by simpa using h)
  | i + 1, [], h => absurd h (by simp)
theorem vt_cx {t : Nat} : ∀ {j : Nat} {l : List Nat}, j + 1 < l.length → vt t (cxl l j) = stB (vt t l) j
  | 0, a :: b :: r, _ => by
    have b1 := vt_bits (t := t) (i := 0) (l := a :: b :: r) (by simp)
    unfold stB
    rw [b1]
    show vt t (if b < a then b :: a :: r else a :: b :: r) = bif Nat.beq ((if t ≤ a then 1 else 0) + 2 * (if t ≤ b then 1 else 0)) 1 then vt t (a :: b :: r) + 1 else vt t (a :: b :: r)
    by_cases c1 : t ≤ a <;> by_cases c2 : t ≤ b <;> by_cases c3 : b < a <;> simp [c1, c2, c3, vt, show Nat.beq 3 1 = false from rfl, show Nat.beq 2 1 = false from rfl, show Nat.beq 1 1 = true from rfl, show Nat.beq 0 1 = false from rfl] <;> omega
  | 0, [a], h => absurd h (by simp)
  | 0, [], h => absurd h (by simp)
  | j + 1, a :: r, h => by
    have ih := vt_cx (t := t) (j := j) (l := r) (by simpa using h)
    have e : cxl (a :: r) (j + 1) = a :: cxl r j := by
      unfold cxl
      show (if r.getD (j + 1) 0 < r.getD j 0 then a :: swp r j else a :: r) = a :: (if r.getD (j + 1) 0 < r.getD j 0 then swp r j else r)
      split <;> rfl
    rw [e]
    show (if t ≤ a then 1 else 0) + 2 * vt t (cxl r j) = stB ((if t ≤ a then 1 else 0) + 2 * vt t r) (j + 1)
    rw [ih]
    unfold stB
    rw [div_sh (by split <;> omega)]
    cases Nat.beq (vt t r / 2 ^ j % 4) 1 with
    | true =>
      show _ + 2 * (vt t r + 2 ^ j) = _ + 2 * vt t r + 2 ^ (j + 1)
      rw [Nat.pow_succ]
      omega
    | false => rfl
  | j + 1, [], h => absurd h (by simp)
theorem vt_run {t : Nat} : ∀ {L : List Nat} {l : List Nat}, (∀ j, j ∈ L → j + 1 < l.length) → vt t (L.foldl cxl l) = L.foldl stB (vt t l) ∧ (L.foldl cxl l).length = l.length
  | [], _, _ => ⟨rfl, rfl⟩
  | j :: L, l, h => by
    obtain ⟨h1, h2⟩ := vt_run (t := t) (L := L) (l := cxl l j) fun k hk => by rw [cxl_len]; exact h k (List.mem_cons_of_mem _ hk)
    exact ⟨by show vt t (L.foldl cxl (cxl l j)) = L.foldl stB (stB (vt t l) j); rw [h1, vt_cx (h j List.mem_cons_self)], by show (L.foldl cxl (cxl l j)).length = _; rw [h2, cxl_len]⟩
theorem net_sorts {n : Nat} (hn : n < 13) {l : List Nat} (hl : l.length = n) : ∀ i, i + 1 < n → ((swL n).foldl cxl l).getD i 0 ≤ ((swL n).foldl cxl l).getD (i + 1) 0 := fun i hi => by
  obtain ⟨r1, r2⟩ := vt_run (t := ((swL n).foldl cxl l).getD i 0) (L := swL n) (l := l) fun j hj => by rw [hl]; exact swL_lt hj
  have u := upB_at (netB_at (net_all n hn) (vt (((swL n).foldl cxl l).getD i 0) l) (by rw [← hl]; exact vt_lt)) i (by omega)
  rw [← r1, vt_bits (by rw [r2, hl]; exact hi), if_pos (Nat.le_refl _)] at u
  by_cases c : ((swL n).foldl cxl l).getD i 0 ≤ ((swL n).foldl cxl l).getD (i + 1) 0
  · exact c
  · rw [if_neg c] at u
    exact absurd rfl u
theorem idxQ_PN {l : List Nat} {a : Nat} (h : a ∈ l) : idxQ (PN l) (.int (a : Nat)) = .val (.int (l.idxOf a : Nat)) := by
  have key : ∀ l : List Nat, a ∈ l → (l.map fun n : Nat => V.int (n : Nat)).findIdx? (fun z => eqV z (V.int (a : Nat))) = some (l.idxOf a) := by
    intro l
    induction l with
    | nil => intro h; cases h
    | cons n l ih =>
      intro h
      rw [List.map_cons, List.findIdx?_cons, List.idxOf_cons]
      have e : eqV (V.int (n : Nat)) (V.int (a : Nat)) = (n == a) := by
        show ((n : Int) == (a : Int)) = _
        rw [Bool.eq_iff_iff, beq_iff_eq, beq_iff_eq]
        omega
      rw [e]
      cases c : n == a with
      | true => rfl
      | false =>
        rcases List.mem_cons.mp h with rfl | h
        · rw [beq_self_eq_true] at c; cases c
        · rw [ih h]
          rfl
  have f1 : flatP (.int (a : Nat)) = some (V.int (a : Nat)) := rfl
  unfold idxQ
  simp only [f1, flatsP_PN', key l h]
def bitsOf (g : List Nat) : List Nat → List Nat
  | [] => []
  | j :: L => (if g.getD (j + 1) 0 < g.getD j 0 then 1 else 0) :: bitsOf (cxl g j) L
theorem bits_len : ∀ {L : List Nat} {g : List Nat}, (bitsOf g L).length = L.length
  | [], _ => rfl
  | _ :: L, _ => congrArg (· + 1) (bits_len (L := L))
theorem bits_lt : ∀ {L : List Nat} {g : List Nat} {b : Nat}, b ∈ bitsOf g L → b < 2
  | j :: L, g, b, h => by
    rcases List.mem_cons.mp (show b ∈ (if g.getD (j + 1) 0 < g.getD j 0 then 1 else 0) :: bitsOf (cxl g j) L from h) with rfl | h
    · split <;> omega
    · exact bits_lt h
theorem two_get {l : List Nat} {j : Nat} (h : j + 1 < l.length) : l = l.take j ++ [l.getD j 0, l.getD (j + 1) 0] ++ l.drop (j + 2) := by
  have e1 : l.drop j = l.getD j 0 :: l.getD (j + 1) 0 :: l.drop (j + 2) := by
    rw [List.drop_eq_getElem_cons (by omega), List.drop_eq_getElem_cons h, List.getD_eq_getElem?_getD, List.getD_eq_getElem?_getD, List.getElem?_eq_getElem (show j < l.length by omega), List.getElem?_eq_getElem h]
    rfl
  conv => lhs; rw [← List.take_append_drop j l, e1]
  rw [List.append_assoc]
  rfl
theorem swp_perm {l : List Nat} {j : Nat} (h : j + 1 < l.length) : (swp l j).Perm l := by
  rw [← swp_cut h]
  conv => rhs; rw [two_get h]
  exact List.Perm.append (List.Perm.append_left _ (List.Perm.swap _ _ _)) (List.Perm.refl _)
theorem cxl_perm {l : List Nat} {j : Nat} (h : j + 1 < l.length) : (cxl l j).Perm l := by
  unfold cxl
  split
  · exact swp_perm h
  · exact List.Perm.refl _
theorem run_perm : ∀ {L : List Nat} {l : List Nat}, (∀ j, j ∈ L → j + 1 < l.length) → (L.foldl cxl l).Perm l
  | [], _, _ => List.Perm.refl _
  | j :: L, l, h => (run_perm (L := L) (l := cxl l j) fun k hk => by rw [cxl_len]; exact h k (List.mem_cons_of_mem _ hk)).trans (cxl_perm (h j List.mem_cons_self))
theorem sorted_id {g : List Nat} {n : Nat} (hl : g.length = n) (nd : g.Nodup) (lt : ∀ a, a ∈ g → a < n) (inc : ∀ i, i + 1 < n → g.getD i 0 ≤ g.getD (i + 1) 0) : ∀ p, p < n → g.getD p 0 = p := by
  have gd : ∀ p (h : p < g.length), g.getD p 0 = g[p] := fun p h => by rw [List.getD_eq_getElem?_getD, List.getElem?_eq_getElem h]; rfl
  have st : ∀ i, i + 1 < n → g.getD i 0 < g.getD (i + 1) 0 := fun i hi => by
    have h1 := inc i hi
    have h2 : g.getD i 0 ≠ g.getD (i + 1) 0 := fun z => by
      rw [gd i (by omega), gd (i + 1) (by omega)] at z
      have := (List.getElem_inj nd).mp z
      omega
    omega
  have lo : ∀ p, p < n → p ≤ g.getD p 0 := by
    intro p
    induction p with
    | zero => intro _; exact Nat.zero_le _
    | succ p ih => intro hp; have := ih (by omega); have := st p hp; omega
  have hi : ∀ k, k < n → g.getD (n - 1 - k) 0 ≤ n - 1 - k := by
    intro k
    induction k with
    | zero =>
      intro h
      have := lt _ (List.getElem_mem (show n - 1 - 0 < g.length by omega))
      rw [← gd _ (by omega)] at this
      omega
    | succ k ih =>
      intro h
      have := ih (by omega)
      have s := st (n - 1 - (k + 1)) (by omega)
      rw [show n - 1 - (k + 1) + 1 = n - 1 - k by omega] at s
      omega
  intro p hp
  have a := lo p hp
  have b := hi (n - 1 - p) (by omega)
  rw [show n - 1 - (n - 1 - p) = p by omega] at b
  omega
theorem track {G : List Nat} {n : Nat} : ∀ {L : List Nat} {g row : List Nat}, g.length = n → row.length = n → (∀ j, j ∈ L → j + 1 < n) → (∀ p, p < n → g.getD p 0 = G.getD (row.getD p 0) 0 ∧ row.getD p 0 < n) → ∀ p, p < n → (L.foldl cxl g).getD p 0 = G.getD ((exN row (L.zip (bitsOf g L))).getD p 0) 0 ∧ (exN row (L.zip (bitsOf g L))).getD p 0 < n
  | [], _, _, _, _, _, h => h
  | j :: L, g, row, hg, hr, hj, h => by
    have jl := hj j List.mem_cons_self
    show ∀ p, p < n → (L.foldl cxl (cxl g j)).getD p 0 = G.getD ((exN (if (if g.getD (j + 1) 0 < g.getD j 0 then 1 else 0) = 1 then swp row j else row) (L.zip (bitsOf (cxl g j) L))).getD p 0) 0 ∧ (exN (if (if g.getD (j + 1) 0 < g.getD j 0 then 1 else 0) = 1 then swp row j else row) (L.zip (bitsOf (cxl g j) L))).getD p 0 < n
    refine track (by rw [cxl_len]; exact hg) ?_ (fun k hk => hj k (List.mem_cons_of_mem _ hk)) fun p hp => ?_
    · by_cases c : g.getD (j + 1) 0 < g.getD j 0
      · rw [if_pos c, if_pos rfl, swp_len]; exact hr
      · rw [if_neg c, if_neg (by decide)]; exact hr
    · unfold cxl
      by_cases c : g.getD (j + 1) 0 < g.getD j 0
      · rw [if_pos c, if_pos c, if_pos rfl, swp_get (by omega), swp_get (by omega)]
        by_cases c1 : p = j
        · rw [if_pos c1, if_pos c1]; exact h _ jl
        · rw [if_neg c1, if_neg c1]
          by_cases c2 : p = j + 1
          · rw [if_pos c2, if_pos c2]; exact h _ (by omega)
          · rw [if_neg c2, if_neg c2]; exact h _ hp
      · rw [if_neg c, if_neg c, if_neg (by decide)]; exact h _ hp
theorem lead_back {n : Nat} (hn : n < 13) {G order : List Nat} (gl : G.length = n) (nd : G.Nodup) (lt : ∀ a, a ∈ G → a < n) (ol : order.length = n) (inv : ∀ p, p < n → order.getD p 0 < n ∧ G.getD (order.getD p 0) 0 = p) : exN (List.range n) ((swL n).zip (bitsOf G (swL n))) = order := by
  have rp : ∀ p, p < n → (List.range n).getD p 0 = p := fun p hp => by rw [List.getD_eq_getElem?_getD, List.getElem?_range hp]; rfl
  have tr := track (G := G) (n := n) (L := swL n) (g := G) (row := List.range n) gl List.length_range (fun j hj => swL_lt hj) fun p hp => by rw [rp p hp]; exact ⟨rfl, hp⟩
  have pm := run_perm (L := swL n) (l := G) fun j hj => by rw [gl]; exact swL_lt hj
  have id := sorted_id (g := (swL n).foldl cxl G) (n := n) (by rw [pm.length_eq, gl]) (pm.nodup_iff.mpr nd) (fun a ha => lt a (pm.mem_iff.mp ha)) (net_sorts hn gl)
  have el : (exN (List.range n) ((swL n).zip (bitsOf G (swL n)))).length = n := by rw [exN_len, List.length_range]
  have gd : ∀ (l : List Nat) p (h : p < l.length), l.getD p 0 = l[p] := fun l p h => by rw [List.getD_eq_getElem?_getD, List.getElem?_eq_getElem h]; rfl
  refine List.ext_getElem (by rw [el, ol]) fun p h1 h2 => ?_
  rw [← gd _ p h1, ← gd _ p h2]
  have hp : p < n := by omega
  obtain ⟨t1, t2⟩ := tr p hp
  rw [id p hp] at t1
  obtain ⟨o1, o2⟩ := inv p hp
  have z : G.getD ((exN (List.range n) ((swL n).zip (bitsOf G (swL n)))).getD p 0) 0 = G.getD (order.getD p 0) 0 := by rw [← t1, o2]
  rw [gd G _ (by omega), gd G _ (by omega)] at z
  exact (List.getElem_inj nd).mp z
def bit1 (g : List Nat) (j : Nat) : Nat := if g.getD (j + 1) 0 < g.getD j 0 then 1 else 0
theorem bits_snoc : ∀ {L : List Nat} {g : List Nat} {j : Nat}, bitsOf g (L ++ [j]) = bitsOf g L ++ [bit1 (L.foldl cxl g) j]
  | [], _, _ => rfl
  | k :: L, g, j => congrArg (bit1 g k :: ·) (bits_snoc (L := L) (g := cxl g k) (j := j))
theorem bits_app : ∀ {L M : List Nat} {g : List Nat}, bitsOf g (L ++ M) = bitsOf g L ++ bitsOf (L.foldl cxl g) M
  | [], _, _ => rfl
  | k :: L, M, g => congrArg (bit1 g k :: ·) (bits_app (L := L) (M := M) (g := cxl g k))
theorem ex_bits : ∀ {L : List Nat} {g : List Nat}, exN g (L.zip (bitsOf g L)) = L.foldl cxl g
  | [], _ => rfl
  | j :: L, g => by
    have e : (if bit1 g j = 1 then swp g j else g) = cxl g j := by
      unfold bit1 cxl
      by_cases c : g.getD (j + 1) 0 < g.getD j 0
      · rw [if_pos c, if_pos c, if_pos rfl]
      · rw [if_neg c, if_neg c, if_neg (by decide)]
    show exN (if bit1 g j = 1 then swp g j else g) (L.zip (bitsOf (cxl g j) L)) = L.foldl cxl (cxl g j)
    rw [e, ex_bits]
theorem cxl_far {g : List Nat} {j k : Nat} (h : j + 1 < g.length) (hk : j + 2 ≤ k) : (cxl g j).getD k 0 = g.getD k 0 := by
  unfold cxl
  split
  · rw [swp_get h, if_neg (by omega), if_neg (by omega)]
  · rfl
theorem bits_lay : ∀ {l : List Nat} {g : List Nat}, (∀ j, j ∈ l → j + 1 < g.length) → (l.Pairwise fun a b => a + 2 ≤ b) → bitsOf g l = l.map (bit1 g)
  | [], _, _, _ => rfl
  | j :: l, g, h, hp => by
    obtain ⟨p1, p2⟩ := List.pairwise_cons.mp hp
    have ih := bits_lay (l := l) (g := cxl g j) (fun k hk => by rw [cxl_len]; exact h k (List.mem_cons_of_mem _ hk)) p2
    show bit1 g j :: bitsOf (cxl g j) l = bit1 g j :: l.map (bit1 g)
    rw [ih]
    refine congrArg (bit1 g j :: ·) (List.map_congr_left fun k hk => ?_)
    have jl := h j List.mem_cons_self
    have := p1 k hk
    unfold bit1
    rw [cxl_far jl (by omega), cxl_far jl (by omega)]
def Gof (order : List Nat) : List Nat := (List.range order.length).map fun p => order.idxOf p
theorem fold_len : ∀ {L : List Nat} {g : List Nat}, (L.foldl cxl g).length = g.length
  | [], _ => rfl
  | j :: L, g => by
    show (L.foldl cxl (cxl g j)).length = _
    rw [fold_len, cxl_len]
theorem goals_row {order : List Nat} {n : Nat} (hl : order.length = n) (hn : n < 13) (hm : ∀ p, p < n → p ∈ order) {X : Res (List PV)} (hE : lcF (fun x => Res.val x) (fun _ => Res.val true) (fun a => idxQ (PN order) a) (PN (List.range n)) = X) : X = .val (PN (Gof order)) := by
  have e := lcMapX hE (fun i : Nat => PV.int (i : Nat)) (fun i : Nat => PV.int (i : Nat)) (fun i => PV.int (order.idxOf i : Nat)) (List.range n) rfl (fun _ _ => rfl) (fun i hi => idxQ_PN (hm i (List.mem_range.mp hi)))
  rw [e]
  unfold Gof PN
  rw [hl, List.map_map]
  rfl
theorem pnApp {a b : List Nat} : PN (a ++ b) = PN a ++ PN b := List.map_append
theorem unK_k {l : List PV} : unK (.ktp l) = .tup l := rfl
theorem asKt_k {l : List PV} : KT.asKt (.ktp l) = .val l := rfl
theorem getP {l : List Nat} {j : Nat} (h : j < l.length) : (PN l)[j]? = some (.int (l.getD j 0 : Nat)) := PN_get (by rw [List.getD_eq_getElem?_getD, List.getElem?_eq_getElem h]; rfl)
theorem gof_len {order : List Nat} : (Gof order).length = order.length := by unfold Gof; rw [List.length_map, List.length_range]
theorem law_goals_ok {order : List Nat} {n : Nat} (hl : order.length = n) (hn : n < 13) (hm : ∀ p, p < n → p ∈ order) : m__law_goals (.ktp (PN order)) = .val (.tup (PN (bitsOf (Gof order) (swL n)))) := by
  have l66 := swL66 hn
  have ln : lenP (.tup (PN order)) = .val (.int (n : Nat)) := by rw [lenTn, PN_len, hl]
  have rg : rng1 (.int (n : Nat)) = .val (PN (List.range n)) := rng1_nat (by omega)
  have szr : sized (PN (List.range n)).length = .val () := sized_small (by rw [PN_len, List.length_range]; omega)
  have mk0 : mkN ([] : List PV) = .val [] := mkN_ok (by show 0 ≤ 10000000; decide)
  have as1 : ∀ l : List PV, asSq (.lst l) = .val l := fun _ => rfl
  have pp : ∀ n : Nat, partP (.int (n : Nat)) = .val ((n : Nat) : Int) := fun _ => rfl
  have u2 : ∀ a b : PV, un2 (.tup [a, b]) = .val (a, b) := fun _ _ => rfl
  unfold m__law_goals
  simp -implicitDefEqProofs only [bind_val, asB_bl, if_true, Bool.not_true, Bool.not_false, Bool.false_eq_true, if_false, retF_rt, seqF_nx, seqF_rt, asSq_lst, asSq_tup, partP_int, leP_int, ltP_int, gtP_int, geP_int, addP_int, subP_int, intP_int, tupleP_lst, asLi_lst, unK_k, ln, rg, szr, asKt_k]
  generalize hE : lcF _ _ _ _ = X
  have e := goals_row hl hn hm hE
  subst e
  simp -implicitDefEqProofs only [bind_val, asB_bl, if_true, Bool.not_true, Bool.not_false, Bool.false_eq_true, if_false, retF_rt, seqF_nx, seqF_rt, asSq_lst, asSq_tup, partP_int, leP_int, ltP_int, gtP_int, geP_int, addP_int, subP_int, intP_int, tupleP_lst, asLi_lst, mk0, switches_ok n hn, as1]
  generalize hF : forF _ _ _ = X
  obtain ⟨s', e, hs'⟩ := forF_invNX (I := fun i (s : List PV × PV) => s = (PN (bitsOf (Gof order) ((swL n).take i)), .lst (PN (((swL n).take i).foldl cxl (Gof order))))) hF rfl (fun i x hx s hs => by
    subst hs
    have hi : i < (swL n).length := by
      have := (List.getElem?_eq_some_iff.mp hx).1
      rwa [swT_swN, List.length_map, ← List.length_map (f := Prod.snd), ← swL_swN] at this
    have hs : i < (swN n).length := by
      have := congrArg List.length (swL_swN n)
      rw [List.length_map] at this
      omega
    rw [swT_swN, List.getElem?_map, List.getElem?_eq_getElem hs] at hx
    have e2 : (swN n)[i].2 = (swL n)[i] := by simp only [swL_swN, List.getElem_map]
    have hx : x = PV.tup [.int ((swN n)[i].1 : Nat), .int ((swL n)[i] : Nat)] := by rw [← e2]; exact (Option.some.inj hx).symm
    subst hx
    have et : (swL n).take (i + 1) = (swL n).take i ++ [(swL n)[i]] := by rw [List.take_add_one, List.getElem?_eq_getElem hi]; rfl
    have jl := swL_lt (List.getElem_mem hi)
    have gl : (((swL n).take i).foldl cxl (Gof order)).length = n := by rw [fold_len, gof_len, hl]
    have bl : (bitsOf (Gof order) ((swL n).take i)).length ≤ 66 := by rw [bits_len, List.length_take]; omega
    refine ⟨(PN (bitsOf (Gof order) ((swL n).take (i + 1))), .lst (PN (((swL n).take (i + 1)).foldl cxl (Gof order)))), ?_, rfl⟩
    rw [et, bits_snoc, List.foldl_append]
    show _ = Res.val (Fl.nx (PN (bitsOf (Gof order) ((swL n).take i) ++ [bit1 (((swL n).take i).foldl cxl (Gof order)) (swL n)[i]]), PV.lst (PN (cxl (((swL n).take i).foldl cxl (Gof order)) (swL n)[i]))))
    rw [pnApp]
    generalize ((swL n).take i).foldl cxl (Gof order) = g at gl
    generalize bitsOf (Gof order) ((swL n).take i) = bs at bl
    generalize (swL n)[i] = j at jl
    have x0 : ixP (.lst (PN g)) (.int (j : Nat)) = .val (.int (g.getD j 0 : Nat)) := ixP_lst (getP (by omega))
    have x1 : ixP (.lst (PN g)) (.int (j + 1 : Nat)) = .val (.int (g.getD (j + 1) 0 : Nat)) := ixP_lst (getP (by omega))
    have a1 : ((j : Nat) : Int) + 1 = ((j + 1 : Nat) : Int) := by omega
    have a2 : ((j : Nat) : Int) + 2 = ((j + 2 : Nat) : Int) := by omega
    have sz : sized ((PN bs).length + 1) = .val () := sized_small (by rw [PN_len]; omega)
    have mk2 : ∀ a b : PV, mkL [a, b] = .val (.lst [a, b]) := fun a b => mkL_ok (by show 2 ≤ 10000000; decide)
    have ad1 : addP (.lst ((PN g).take j)) (.lst [.int (g.getD (j + 1) 0 : Nat), .int (g.getD j 0 : Nat)]) = .val (.lst ((PN g).take j ++ [.int (g.getD (j + 1) 0 : Nat), .int (g.getD j 0 : Nat)])) := addP_lsts (by rw [List.length_take, PN_len]; show _ + 2 ≤ _; omega)
    have ad2 : addP (.lst ((PN g).take j ++ [.int (g.getD (j + 1) 0 : Nat), .int (g.getD j 0 : Nat)])) (.lst ((PN g).drop (j + 2))) = .val (.lst (PN (swp g j))) := by
      rw [addP_lsts (by rw [List.length_append, List.length_take, List.length_drop, PN_len]; show _ + 2 + _ ≤ _; omega), ← swp_cut (l := g) (j := j) (by omega)]
      simp only [PN, List.map_append, List.map_take, List.map_drop]
      rfl
    have gt : decide (((g.getD (j + 1) 0 : Nat) : Int) < ((g.getD j 0 : Nat) : Int)) = decide (g.getD (j + 1) 0 < g.getD j 0) := decide_eq_decide.mpr (by omega)
    have ib1 : intP (.bl true) = .val (.int 1) := rfl
    have ib0 : intP (.bl false) = .val (.int 0) := rfl
    unfold bit1 cxl
    by_cases c : g.getD (j + 1) 0 < g.getD j 0
    · rw [if_pos c, if_pos c]
      simp -implicitDefEqProofs only [bind_val, asB_bl, if_true, Bool.not_true, Bool.not_false, Bool.false_eq_true, if_false, retF_rt, seqF_nx, seqF_rt, asSq_lst, asSq_tup, partP_int, leP_int, ltP_int, gtP_int, geP_int, addP_int, subP_int, intP_int, tupleP_lst, asLi_lst, u2, x0, a1, x1, gt, decide_eq_true c, ib1, sz, slP_to, a2, mk2, ad1, pp, slP_from, ad2]
      rfl
    · rw [if_neg c, if_neg c]
      simp -implicitDefEqProofs only [bind_val, asB_bl, if_true, Bool.not_true, Bool.not_false, Bool.false_eq_true, if_false, retF_rt, seqF_nx, seqF_rt, asSq_lst, asSq_tup, partP_int, leP_int, ltP_int, gtP_int, geP_int, addP_int, subP_int, intP_int, tupleP_lst, asLi_lst, u2, x0, a1, x1, gt, decide_eq_false c, ib0, sz]
      rfl)
  subst e hs'
  have tk : (swL n).take (swT n).length = swL n := List.take_of_length_le (by rw [swT_swN, swL_swN, List.length_map, List.length_map]; omega)
  rw [tk]
  simp -implicitDefEqProofs only [bind_val, asB_bl, if_true, Bool.not_true, Bool.not_false, Bool.false_eq_true, if_false, retF_rt, seqF_nx, seqF_rt, asSq_lst, asSq_tup, partP_int, leP_int, ltP_int, gtP_int, geP_int, addP_int, subP_int, intP_int, tupleP_lst, asLi_lst, tupL]
theorem toDs_PZ : ∀ a : List Int, toDs (PZ a) = some (a.map PyData.int)
  | [] => rfl
  | i :: a => by
    show (toD (.int i)).bind (fun d => (toDs (PZ a)).map fun ds => d :: ds) = _
    rw [toDs_PZ a]
    rfl
theorem lay_PZ : ∀ a : List Int, PyData.canLayAll0 (a.map PyData.int) = true ∧ PyData.depthAll (a.map PyData.int) ≤ 1
  | [] => ⟨by simp only [List.map_nil, PyData.canLayAll0], by simp only [List.map_nil, PyData.depthAll]; exact Nat.zero_le _⟩
  | i :: a => by
    obtain ⟨h1, h2⟩ := lay_PZ a
    refine ⟨?_, ?_⟩
    · simp only [List.map_cons, PyData.canLayAll0, PyData.canLay0, h1, Bool.and_self]
    · simp only [List.map_cons, PyData.depthAll, PyData.depth]
      exact Nat.max_le.mpr ⟨Nat.zero_le _, h2⟩
theorem eqv_PZ : ∀ a b : List Int, PyData.eqvAll (a.map PyData.int) (b.map PyData.int) = decide (a = b)
  | [], [] => by simp only [List.map_nil, PyData.eqvAll, decide_true]
  | [], j :: b => by simp only [List.map_nil, List.map_cons, PyData.eqvAll]; exact (decide_eq_false (by intro h; cases h)).symm
  | i :: a, [] => by simp only [List.map_nil, List.map_cons, PyData.eqvAll]; exact (decide_eq_false (by intro h; cases h)).symm
  | i :: a, j :: b => by
    simp only [List.map_cons, PyData.eqvAll, PyData.eqv, eqv_PZ a b]
    rw [Bool.eq_iff_iff, Bool.and_eq_true, beq_iff_eq, decide_eq_true_iff, decide_eq_true_iff]
    constructor
    · rintro ⟨rfl, rfl⟩; rfl
    · intro h; injection h with h1 h2; exact ⟨h1, h2⟩
theorem shaped_l (a : List Int) : SeqAt.shaped (.list (a.map PyData.int)) = true ∧ SeqAt.shaped (.tuple (a.map PyData.int)) = true := by
  obtain ⟨h1, h2⟩ := lay_PZ a
  unfold SeqAt.shaped
  simp only [PyData.canLay0, PyData.depth, h1, Bool.true_and]
  exact ⟨decide_eq_true (by omega), decide_eq_true (by omega)⟩
theorem eqB_lst {a b : List Int} : eqB (.lst (PZ a)) (.lst (PZ b)) = some (decide (a = b)) := by
  have e : ∀ a : List Int, toD (.lst (PZ a)) = some (.list (a.map PyData.int)) := fun a => by unfold toD; rw [toDs_PZ]; rfl
  unfold Toy.eqB
  rw [e a, e b]
  show (if SeqAt.shaped (.list (a.map PyData.int)) = true ∧ SeqAt.shaped (.list (b.map PyData.int)) = true then some (PyData.eqv (.list (a.map PyData.int)) (.list (b.map PyData.int))) else none) = _
  rw [if_pos ⟨(shaped_l a).1, (shaped_l b).1⟩]
  simp only [PyData.eqv, eqv_PZ]
theorem eqB_tup {a b : List Int} : eqB (.tup (PZ a)) (.tup (PZ b)) = some (decide (a = b)) := by
  have e : ∀ a : List Int, toD (.tup (PZ a)) = some (.tuple (a.map PyData.int)) := fun a => by unfold toD; rw [toDs_PZ]; rfl
  unfold Toy.eqB
  rw [e a, e b]
  show (if SeqAt.shaped (.tuple (a.map PyData.int)) = true ∧ SeqAt.shaped (.tuple (b.map PyData.int)) = true then some (PyData.eqv (.tuple (a.map PyData.int)) (.tuple (b.map PyData.int))) else none) = _
  rw [if_pos ⟨(shaped_l a).2, (shaped_l b).2⟩]
  simp only [PyData.eqv, eqv_PZ]
theorem neP_lst {a b : List Int} : neP (.lst (PZ a)) (.lst (PZ b)) = .val (.bl (!decide (a = b))) := by unfold neP; rw [eqB_lst]
theorem neP_tup {a b : List Int} : neP (.tup (PZ a)) (.tup (PZ b)) = .val (.bl (!decide (a = b))) := by unfold neP; rw [eqB_tup]
theorem allI_PZ : ∀ a : List Int, allI (PZ a) = some a
  | [] => rfl
  | i :: a => by
    show (allI (PZ a)).map (fun is => i :: is) = _
    rw [allI_PZ a]
    rfl
def rgZ (n : Nat) : List Int := (List.range n).map fun k : Nat => (k : Int)
theorem sort_pz {x : List Int} : sortPT (.tup (PZ x)) = .val (.lst (PZ (sortI x))) := by
  show (match allI (PZ x) with | some is => Res.val (PV.lst ((sortI is).map PV.int)) | none => .stuck) = _
  rw [allI_PZ]
  rfl
theorem settings_no {x : List Int} (hl : x.length < 10000) (h : ¬ (rgZ x.length).Perm x) : m_settings_for (.tup (PZ x)) = .exc "BadStatement" := by
  have ln : lenP (.tup (PZ x)) = .val (.int (x.length : Nat)) := by rw [lenTn, PZ_len]
  have uk : unK (.tup (PZ x)) = .tup (PZ x) := rfl
  have pp : ∀ n : Nat, partP (.int (n : Nat)) = .val ((n : Nat) : Int) := fun _ => rfl
  have rg : rgL 0 ((x.length : Nat) : Int) = .val (PZ (rgZ x.length)) := by
    unfold rgL
    rw [if_pos (by omega)]
    refine congrArg Res.val ?_
    unfold rngP PZ rgZ
    rw [show (((x.length : Nat) : Int) - 0).toNat = x.length by omega, List.map_map]
    exact List.map_congr_left fun i _ => by show PV.int (0 + _) = PV.int _; rw [Int.zero_add]
  have ne : decide (sortI x = rgZ x.length) = false := decide_eq_false fun e => h (e ▸ sortI_perm x)
  unfold m_settings_for
  simp -implicitDefEqProofs only [bind_val, asB_bl, if_true, Bool.not_true, Bool.not_false, Bool.false_eq_true, if_false, retF_rt, seqF_nx, seqF_rt, asSq_lst, asSq_tup, partP_int, leP_int, ltP_int, gtP_int, geP_int, addP_int, subP_int, intP_int, tupleP_lst, asLi_lst, uk, ln, sort_pz, pp, rg, neP_lst, ne]
  rfl
theorem settings_ok {order : List Nat} {n : Nat} (hl : order.length = n) (hn : n < 13) (hm : ∀ p, p < n → p ∈ order) (hp : (rgZ n).Perm (order.map fun k : Nat => (k : Int))) : m_settings_for (.ktp (PN order)) = .val (.tup (PN (bitsOf (Gof order) (swL n)))) := by
  have l66 := swL66 hn
  have ln : lenP (.tup (PN order)) = .val (.int (n : Nat)) := by rw [lenTn, PN_len, hl]
  have pp : ∀ n : Nat, partP (.int (n : Nat)) = .val ((n : Nat) : Int) := fun _ => rfl
  have rgz : rgL 0 ((n : Nat) : Int) = .val (PZ (rgZ n)) := by
    unfold rgL
    rw [if_pos (by omega)]
    refine congrArg Res.val ?_
    unfold rngP PZ rgZ
    rw [show (((n : Nat) : Int) - 0).toNat = n by omega, List.map_map]
    exact List.map_congr_left fun i _ => by show PV.int (0 + _) = PV.int _; rw [Int.zero_add]
  have so : sortPT (.tup (PN order)) = .val (.lst (PZ (rgZ n))) := by
    rw [PN_toZ, sort_pz]
    have inc : (rgZ n).Pairwise (· ≤ ·) := by
      unfold rgZ
      rw [List.pairwise_map]
      exact (List.pairwise_lt_range (n := n)).imp fun h => by omega
    rw [← sortI_unique hp inc]
  have ne : neP (.lst (PZ (rgZ n))) (.lst (PZ (rgZ n))) = .val (.bl false) := by rw [neP_lst, decide_eq_true rfl]; rfl
  have rg : rng1 (.int (n : Nat)) = .val (PN (List.range n)) := rng1_nat (by omega)
  have szr : sized (PN (List.range n)).length = .val () := sized_small (by rw [PN_len, List.length_range]; omega)
  have mk0 : mkN ([] : List PV) = .val [] := mkN_ok (by show 0 ≤ 10000000; decide)
  have as1 : ∀ l : List PV, asSq (.tup l) = .val l := fun _ => rfl
  have as2 : ∀ l : List PV, asSq (.lst l) = .val l := fun _ => rfl
  unfold m_settings_for
  simp -implicitDefEqProofs only [bind_val, asB_bl, if_true, Bool.not_true, Bool.not_false, Bool.false_eq_true, if_false, retF_rt, seqF_nx, seqF_rt, asSq_lst, asSq_tup, partP_int, leP_int, ltP_int, gtP_int, geP_int, addP_int, subP_int, intP_int, tupleP_lst, asLi_lst, unK_k, ln, so, pp, rgz, ne, rg, szr, asKt_k]
  generalize hE : lcF _ _ _ _ = X
  have e := goals_row hl hn hm hE
  subst e
  simp -implicitDefEqProofs only [bind_val, asB_bl, if_true, Bool.not_true, Bool.not_false, Bool.false_eq_true, if_false, retF_rt, seqF_nx, seqF_rt, asSq_lst, asSq_tup, partP_int, leP_int, ltP_int, gtP_int, geP_int, addP_int, subP_int, intP_int, tupleP_lst, asLi_lst, tupL, mk0, switch_ok n hn, as1]
  generalize hF : forF _ _ _ = X
  obtain ⟨s', e, hs'⟩ := forF_invNX (I := fun i (s : PV × List PV) => s = (.tup (PN (((layN n).take i).flatten.foldl cxl (Gof order))), PN (bitsOf (Gof order) ((layN n).take i).flatten))) hF rfl (fun i x hx s hs => by
    subst hs
    have hi : i < (layN n).length := by
      have := (List.getElem?_eq_some_iff.mp hx).1
      rwa [List.length_map] at this
    have hx : x = laP (layN n)[i] := by
      rw [List.getElem?_map, List.getElem?_eq_getElem hi] at hx
      exact (Option.some.inj hx).symm
    subst hx
    have et : (layN n).take (i + 1) = (layN n).take i ++ [(layN n)[i]] := by rw [List.take_add_one, List.getElem?_eq_getElem hi]; rfl
    have gl : (((layN n).take i).flatten.foldl cxl (Gof order)).length = n := by rw [fold_len, gof_len, hl]
    have bl : (bitsOf (Gof order) ((layN n).take i).flatten).length ≤ 66 := by
      rw [bits_len]
      have : (swL n) = ((layN n).take i).flatten ++ ((layN n).drop i).flatten := by
        unfold swL
        rw [← List.flatten_append, List.take_append_drop]
      have := congrArg List.length this
      rw [List.length_append] at this
      omega
    have mem := List.getElem_mem hi
    have ll := lay_len mem
    obtain ⟨lt, pw⟩ : (∀ p, p ∈ (layN n)[i] → p + 1 < n) ∧ (layN n)[i].Pairwise fun a b => a + 2 ≤ b := by
      obtain ⟨y, _, e⟩ := List.mem_map.mp mem
      have e : lay1 n y = (layN n)[i] := e
      rw [← e]
      exact ⟨fun p hp => lay_lt hp, lay_pw⟩
    refine ⟨_, ?_, rfl⟩
    rw [et, List.flatten_append, List.flatten_singleton, bits_app, List.foldl_append]
    show _ = Res.val (Fl.nx (PV.tup (PN ((layN n)[i].foldl cxl (((layN n).take i).flatten.foldl cxl (Gof order)))), PN (bitsOf (Gof order) ((layN n).take i).flatten ++ bitsOf (((layN n).take i).flatten.foldl cxl (Gof order)) (layN n)[i])))
    rw [pnApp]
    generalize ((layN n).take i).flatten.foldl cxl (Gof order) = g at gl
    generalize bitsOf (Gof order) ((layN n).take i).flatten = bs at bl
    generalize (layN n)[i] = l at ll lt pw
    have la : asSq (laP l) = .val (PN l) := rfl
    have szl : sized (PN l).length = .val () := sized_small (by rw [PN_len]; omega)
    simp -implicitDefEqProofs only [bind_val, asB_bl, if_true, Bool.not_true, Bool.not_false, Bool.false_eq_true, if_false, retF_rt, seqF_nx, seqF_rt, asSq_lst, asSq_tup, partP_int, leP_int, ltP_int, gtP_int, geP_int, addP_int, subP_int, intP_int, tupleP_lst, asLi_lst, la, szl]
    generalize hE : lcF _ _ _ _ = X
    have e := lcMapX hE (fun j : Nat => PV.int (j : Nat)) (fun j : Nat => PV.int (j : Nat)) (fun j => PV.int (bit1 g j : Nat)) l rfl (fun _ _ => rfl) (fun j hj => by
      have jl := lt j hj
      have x0 : ixP (.tup (PN g)) (.int (j : Nat)) = .val (.int (g.getD j 0 : Nat)) := ixP_tup (getP (by omega))
      have x1 : ixP (.tup (PN g)) (.int (j + 1 : Nat)) = .val (.int (g.getD (j + 1) 0 : Nat)) := ixP_tup (getP (by omega))
      have a1 : ((j : Nat) : Int) + 1 = ((j + 1 : Nat) : Int) := by omega
      have gt : decide (((g.getD (j + 1) 0 : Nat) : Int) < ((g.getD j 0 : Nat) : Int)) = decide (g.getD (j + 1) 0 < g.getD j 0) := decide_eq_decide.mpr (by omega)
      unfold bit1
      by_cases c : g.getD (j + 1) 0 < g.getD j 0
      · rw [if_pos c]; simp -implicitDefEqProofs only [bind_val, asB_bl, if_true, Bool.not_true, Bool.not_false, Bool.false_eq_true, if_false, retF_rt, seqF_nx, seqF_rt, asSq_lst, asSq_tup, partP_int, leP_int, ltP_int, gtP_int, geP_int, addP_int, subP_int, intP_int, tupleP_lst, asLi_lst, x0, a1, x1, gt, decide_eq_true c]; rfl
      · rw [if_neg c]; simp -implicitDefEqProofs only [bind_val, asB_bl, if_true, Bool.not_true, Bool.not_false, Bool.false_eq_true, if_false, retF_rt, seqF_nx, seqF_rt, asSq_lst, asSq_tup, partP_int, leP_int, ltP_int, gtP_int, geP_int, addP_int, subP_int, intP_int, tupleP_lst, asLi_lst, x0, a1, x1, gt, decide_eq_false c]; rfl)
    have eb : (l.map fun j => PV.int (bit1 g j : Nat)) = PN (bitsOf g l) := by
      rw [bits_lay (fun j hj => by have := lt j hj; omega) pw]
      unfold PN
      rw [List.map_map]
      rfl
    rw [eb] at e
    subst e
    have zz : zpL2 (laP l) (.lst (PN (bitsOf g l))) = .val ((l.zip (bitsOf g l)).map sw1) := congrArg Res.val (zip_sw l (bitsOf g l))
    have ex := exch_ok (row := g) (ps := l.zip (bitsOf g l)) (fun p hp => by have := lt p.1 (List.of_mem_zip hp).1; omega) (by
      have h : ∀ {l b : List Nat}, (l.Pairwise fun a b => a + 2 ≤ b) → (l.zip b).Pairwise fun a b => a.1 + 2 ≤ b.1 := fun {l} => by
        induction l with
        | nil => intro b _; exact List.Pairwise.nil
        | cons a l ih =>
          intro b hp
          cases b with
          | nil => exact List.Pairwise.nil
          | cons c b =>
            obtain ⟨p1, p2⟩ := List.pairwise_cons.mp hp
            exact List.pairwise_cons.mpr ⟨fun q hq => p1 q.1 (List.of_mem_zip hq).1, ih p2⟩
      exact h pw)
    have sz2 : sized ((PN bs).length + (PN (bitsOf g l)).length) = .val () := sized_small (by rw [PN_len, PN_len, bits_len]; omega)
    simp -implicitDefEqProofs only [bind_val, asB_bl, if_true, Bool.not_true, Bool.not_false, Bool.false_eq_true, if_false, retF_rt, seqF_nx, seqF_rt, asSq_lst, asSq_tup, partP_int, leP_int, ltP_int, gtP_int, geP_int, addP_int, subP_int, intP_int, tupleP_lst, asLi_lst, zz, ex, as2, sz2, ex_bits])
  subst e hs'
  have tk : ((layN n).take ((layN n).map laP).length).flatten = swL n := by rw [List.length_map, List.take_length]; rfl
  rw [tk]
  simp -implicitDefEqProofs only [bind_val, asB_bl, if_true, Bool.not_true, Bool.not_false, Bool.false_eq_true, if_false, retF_rt, seqF_nx, seqF_rt, asSq_lst, asSq_tup, partP_int, leP_int, ltP_int, gtP_int, geP_int, addP_int, subP_int, intP_int, tupleP_lst, asLi_lst, tupL]
def BadS (n : Nat) (p : PV) : Prop := ∃ x : List Int, p = .tup (PZ x) ∧ x.length ≤ 10000 ∧ ¬(x.length = (swL n).length ∧ ∀ i, i ∈ x → inQ 2 i = true)
def BadO (p : PV) : Prop := ∃ x : List Int, p = .tup (PZ x) ∧ x.length < 10000 ∧ ¬ (rgZ x.length).Perm x
theorem pz_app {a b : List Int} : PZ a ++ PZ b = PZ (a ++ b) := by unfold PZ; rw [List.map_append]
theorem pz_take {a : List Int} {k : Nat} : (PZ a).take k = PZ (a.take k) := by unfold PZ; rw [List.map_take]
theorem pz_drop {a : List Int} {k : Nat} : (PZ a).drop k = PZ (a.drop k) := by unfold PZ; rw [List.map_drop]
theorem refused_s {n : Nat} (hn : n < 13) {p : PV} (h : BadS n p) : m__law_refused (.int (n : Nat)) p (.int 0) = .val (.bl true) := by
  obtain ⟨x, rfl, hl, hx⟩ := h
  have e : m_source_places (.int (n : Nat)) (.tup (PZ x)) = .exc "BadTape" := by
    unfold m_source_places
    simp -implicitDefEqProofs only [bind_val, asB_bl, if_true, Bool.not_true, Bool.not_false, Bool.false_eq_true, if_false, retF_rt, seqF_nx, seqF_rt, asSq_lst, asSq_tup, partP_int, leP_int, ltP_int, gtP_int, geP_int, addP_int, subP_int, intP_int, tupleP_lst, asLi_lst, check_no hn hl hx]
    rfl
  have q : eqP (.int 0) (.int 0) = .val (.bl true) := rfl
  unfold m__law_refused
  simp -implicitDefEqProofs only [bind_val, asB_bl, if_true, Bool.not_true, Bool.not_false, Bool.false_eq_true, if_false, retF_rt, seqF_nx, seqF_rt, asSq_lst, asSq_tup, partP_int, leP_int, ltP_int, gtP_int, geP_int, addP_int, subP_int, intP_int, tupleP_lst, asLi_lst, q, e]
  rfl
theorem refused_o {n : PV} {p : PV} (h : BadO p) : m__law_refused n p (.int 1) = .val (.bl true) := by
  obtain ⟨x, rfl, hl, hx⟩ := h
  have e := settings_no hl hx
  have q : eqP (.int 1) (.int 0) = .val (.bl false) := rfl
  unfold m__law_refused
  simp -implicitDefEqProofs only [bind_val, asB_bl, if_true, Bool.not_true, Bool.not_false, Bool.false_eq_true, if_false, retF_rt, seqF_nx, seqF_rt, asSq_lst, asSq_tup, partP_int, leP_int, ltP_int, gtP_int, geP_int, addP_int, subP_int, intP_int, tupleP_lst, asLi_lst, q, e]
  rfl
theorem rg_in {n : Nat} {x : List Int} (h : (rgZ n).Perm x) : (∀ i, i ∈ x → 0 ≤ i ∧ i < (n : Nat)) ∧ x.Nodup := by
  refine ⟨fun i hi => ?_, h.nodup_iff.mp ?_⟩
  · have := h.mem_iff.mpr hi
    obtain ⟨k, hk, rfl⟩ := List.mem_map.mp this
    have := List.mem_range.mp hk
    omega
  · unfold rgZ
    exact (List.pairwise_map.mpr ((List.nodup_range (n := n)).imp fun {a b} hne he => hne (by omega)))
theorem dropset {α : Type} {l : List α} {i : Nat} {v : α} (hi : i < l.length) : l.take i ++ [v] ++ l.drop (i + 1) = l.set i v := by
  rw [List.set_eq_take_append_cons_drop, if_pos hi, List.append_assoc]
  rfl
theorem wrong_settings_ok {d : List (Key × PV)} (hd : Px d) {n : Nat} (hn : n < 13) {z : List Int} (hz : z.length = (swL n).length) (m : PV) : ∃ (ps : List PV) (d' : List (Key × PV)), m__law_wrong_settings (.dct d) m (.tup (PZ z)) = .val (.lst ps, .dct d') ∧ Px d' ∧ ∀ p, p ∈ ps → BadS n p := by
  have l66 := swL66 hn
  have mk1 : ∀ a : PV, mkT [a] = .val (.tup [a]) := fun a => mkT_ok (by show 1 ≤ 10000000; decide)
  have mk1n : ∀ a : PV, mkN [a] = .val [a] := fun a => mkN_ok (by show 1 ≤ 10000000; decide)
  have ad0 : addP (.tup (PZ z)) (.tup [.int 0]) = .val (.tup (PZ (z ++ [0]))) := by rw [addP_tups (by rw [PZ_len]; show _ + 1 ≤ _; omega), ← pz_app]; rfl
  have ln : lenP (.tup (PZ z)) = .val (.int (z.length : Nat)) := by rw [lenTn, PZ_len]
  have b0 : BadS n (.tup (PZ (z ++ [0]))) := ⟨_, rfl, by rw [List.length_append]; show _ + 1 ≤ _; omega, fun h => by have := h.1; rw [List.length_append] at this; have : z.length + 1 = (swL n).length := this; omega⟩
  unfold m__law_wrong_settings
  by_cases c : 0 < z.length
  · obtain ⟨r, d1, e1, h1, P1⟩ := take_nat hd (m := z.length) c (by omega)
    obtain ⟨u, d2, e2, h2, P2⟩ := take_nat P1 (m := 3) (by decide) (by decide)
    have e2 : m__law_take (.dct d1) (.int 3) = .val (.int (u : Nat), .dct d2) := e2
    have g0 : decide ((0 : Int) < ((z.length : Nat) : Int)) = true := decide_eq_true (by omega)
    have p1 : partP (.int 1) = .val 1 := rfl
    have p1' : partP (.int (r : Nat)) = .val ((r : Nat) : Int) := rfl
    have p2 : partP (.int ((r + 1 : Nat) : Int)) = .val ((r + 1 : Nat) : Int) := rfl
    have a1 : ((r : Nat) : Int) + 1 = ((r + 1 : Nat) : Int) := by omega
    have s1 : slP (.tup (PZ z)) (some 1) none = .val (.tup (PZ (z.drop 1))) := (slT_from (k := 1)).trans (by rw [pz_drop])
    have s2 : slP (.tup (PZ z)) none (some ((r : Nat) : Int)) = .val (.tup (PZ (z.take r))) := slT_to.trans (by rw [pz_take])
    have s3 : slP (.tup (PZ z)) (some ((r + 1 : Nat) : Int)) none = .val (.tup (PZ (z.drop (r + 1)))) := slT_from.trans (by rw [pz_drop])
    have ng : negP (.int 1) = .val (.int (-1)) := rfl
    have pw : powP (.int 10) (.int 20) = .val (.int 100000000000000000000) := rfl
    have mk3 : ∀ a b c : PV, mkL [a, b, c] = .val (.lst [a, b, c]) := fun a b c => mkL_ok (by show 3 ≤ 10000000; decide)
    have sz1 : ∀ a : PV, sized ([a].length + 1) = .val () := fun _ => rfl
    have sz2 : ∀ a b : PV, sized ([a, b].length + 1) = .val () := fun _ _ => rfl
    obtain ⟨v, ix, hv⟩ : ∃ v : Int, ixP (.lst [.int 2, .int (-1), .int 100000000000000000000]) (.int (u : Nat)) = .val (.int v) ∧ inQ 2 v = false := by
      have : u = 0 ∨ u = 1 ∨ u = 2 := by omega
      rcases this with rfl | rfl | rfl
      · exact ⟨2, rfl, rfl⟩
      · exact ⟨-1, rfl, rfl⟩
      · exact ⟨100000000000000000000, rfl, rfl⟩
    have ad1 : addP (.tup (PZ (z.take r))) (.tup [.int v]) = .val (.tup (PZ (z.take r ++ [v]))) := by rw [addP_tups (by rw [PZ_len, List.length_take]; show _ + 1 ≤ _; omega), ← pz_app]; rfl
    have ad2 : addP (.tup (PZ (z.take r ++ [v]))) (.tup (PZ (z.drop (r + 1)))) = .val (.tup (PZ (z.set r v))) := by
      rw [addP_tups (by rw [PZ_len, PZ_len, List.length_append, List.length_take, List.length_drop]; show _ + 1 + _ ≤ _; omega), pz_app, dropset h1]
    have b1 : BadS n (.tup (PZ (z.drop 1))) := ⟨_, rfl, by rw [List.length_drop]; omega, fun h => by have := h.1; rw [List.length_drop] at this; omega⟩
    have b2 : BadS n (.tup (PZ (z.set r v))) := ⟨_, rfl, by rw [List.length_set]; omega, fun h => by
      have := h.2 v (List.mem_iff_getElem.mpr ⟨r, by rw [List.length_set]; exact h1, List.getElem_set_self _⟩)
      rw [hv] at this; cases this⟩
    refine ⟨[.tup (PZ (z ++ [0])), .tup (PZ (z.drop 1)), .tup (PZ (z.set r v))], d2, ?_, P2, fun p hp => ?_⟩
    · simp -implicitDefEqProofs only [bind_val, asB_bl, if_true, Bool.not_true, Bool.not_false, Bool.false_eq_true, if_false, retF_rt, seqF_nx, seqF_rt, asSq_lst, asSq_tup, partP_int, leP_int, ltP_int, gtP_int, geP_int, addP_int, subP_int, intP_int, tupleP_lst, asLi_lst, mk1, ad0, mk1n, ln, g0, noX_val, apR1_o, moD_dct, e1, p1, s1, sz1, s2, p1', ng, pw, mk3, e2, ix, ad1, a1, p2, s3, ad2, sz2]
      rfl
    · simp only [List.mem_cons, List.not_mem_nil, or_false] at hp
      rcases hp with rfl | rfl | rfl
      · exact b0
      · exact b1
      · exact b2
  · have g0 : decide ((0 : Int) < ((z.length : Nat) : Int)) = false := decide_eq_false (by omega)
    refine ⟨[.tup (PZ (z ++ [0]))], d, ?_, hd, fun p hp => by rw [List.mem_singleton.mp hp]; exact b0⟩
    simp -implicitDefEqProofs only [bind_val, asB_bl, if_true, Bool.not_true, Bool.not_false, Bool.false_eq_true, if_false, retF_rt, seqF_nx, seqF_rt, asSq_lst, asSq_tup, partP_int, leP_int, ltP_int, gtP_int, geP_int, addP_int, subP_int, intP_int, tupleP_lst, asLi_lst, mk1, ad0, mk1n, ln, g0]
    rfl
theorem pz_get {z : List Int} {r : Nat} (h : r < z.length) : (PZ z)[r]? = some (PV.int z[r]) := by
  unfold PZ
  rw [List.getElem?_map, List.getElem?_eq_getElem h]
  rfl
theorem two_same {l : List Int} {i j : Nat} (hi : i < l.length) (hj : j < l.length) (hij : i ≠ j) (e : l[i] = l[j]) : ¬ l.Nodup := fun h => by
  rcases Nat.lt_or_gt_of_ne hij with c | c
  · exact List.pairwise_iff_getElem.mp h i j hi hj c e
  · exact List.pairwise_iff_getElem.mp h j i hj hi c e.symm
theorem wrong_orders_ok {d : List (Key × PV)} (hd : Px d) {n : Nat} (hn : n < 13) {z : List Int} (hz : z.length = n) (hp : (rgZ n).Perm z) : ∃ (ps : List PV) (d' : List (Key × PV)), m__law_wrong_orders (.dct d) (.tup (PZ z)) = .val (.lst ps, .dct d') ∧ Px d' ∧ ∀ p, p ∈ ps → BadO p := by
  obtain ⟨zi, znd⟩ := rg_in hp
  have mk1 : ∀ a : PV, mkT [a] = .val (.tup [a]) := fun a => mkT_ok (by show 1 ≤ 10000000; decide)
  have mk2n : ∀ a b : PV, mkN [a, b] = .val [a, b] := fun a b => mkN_ok (by show 2 ≤ 10000000; decide)
  have ng : negP (.int 1) = .val (.int (-1)) := rfl
  have ln : lenP (.tup (PZ z)) = .val (.int (n : Nat)) := by rw [lenTn, PZ_len, hz]
  have ad : ∀ i : Int, addP (.tup (PZ z)) (.tup [.int i]) = .val (.tup (PZ (z ++ [i]))) := fun i => by rw [addP_tups (by rw [PZ_len]; show _ + 1 ≤ _; omega), ← pz_app]; rfl
  have out : ∀ (x : List Int) (v : Int), x.length < 10000 → v ∈ x → ¬(0 ≤ v ∧ v < (x.length : Nat)) → BadO (.tup (PZ x)) := fun x v h1 h2 h3 => ⟨x, rfl, h1, fun h => h3 ((rg_in h).1 v h2)⟩
  have la : ∀ v : Int, (z ++ [v]).length = n + 1 := fun v => by rw [List.length_append, hz]; rfl
  have b0 : BadO (.tup (PZ (z ++ [((n : Nat) : Int) + 1]))) := out _ (((n : Nat) : Int) + 1) (by rw [la]; omega) (by simp) (by rw [la]; omega)
  have b1 : BadO (.tup (PZ (z ++ [-1]))) := out _ (-1) (by rw [la]; omega) (by simp) (by omega)
  have sz2 : ∀ a b : PV, sized ([a, b].length + 1) = .val () := fun _ _ => rfl
  have sz3 : ∀ a b c : PV, sized ([a, b, c].length + 1) = .val () := fun _ _ _ => rfl
  have sz4 : ∀ a b c d : PV, sized ([a, b, c, d].length + 1) = .val () := fun _ _ _ _ => rfl
  unfold m__law_wrong_orders
  by_cases c : 0 < n
  · obtain ⟨r, d1, e1, h1, P1⟩ := take_nat hd (m := n) c (by omega)
    obtain ⟨u, d2, e2, h2, P2⟩ := take_nat P1 (m := 4) (by decide) (by decide)
    have e2 : m__law_take (.dct d1) (.int 4) = .val (.int (u : Nat), .dct d2) := e2
    have hr : r < z.length := by omega
    have g0 : decide ((0 : Int) < ((n : Nat) : Int)) = true := decide_eq_true (by omega)
    have ix : ixP (.tup (PZ z)) (.int (r : Nat)) = .val (.int z[r]) := ixP_tup (pz_get hr)
    have pp : ∀ k : Nat, partP (.int (k : Nat)) = .val ((k : Nat) : Int) := fun _ => rfl
    have s2 : ∀ k : Nat, slP (.tup (PZ z)) none (some ((k : Nat) : Int)) = .val (.tup (PZ (z.take k))) := fun k => slT_to.trans (by rw [pz_take])
    have s3 : ∀ k : Nat, slP (.tup (PZ z)) (some ((k : Nat) : Int)) none = .val (.tup (PZ (z.drop k))) := fun k => slT_from.trans (by rw [pz_drop])
    have pw : powP (.int 10) (.int 20) = .val (.int 100000000000000000000) := rfl
    have mk4 : ∀ a b c d : PV, mkL [a, b, c, d] = .val (.lst [a, b, c, d]) := fun a b c d => mkL_ok (by show 4 ≤ 10000000; decide)
    have zr := zi _ (List.getElem_mem hr)
    obtain ⟨v, iv, hv⟩ : ∃ v : Int, ixP (.lst [.int (n : Nat), .int (-1), .int (z[r] - (n : Nat)), .int 100000000000000000000]) (.int (u : Nat)) = .val (.int v) ∧ ¬(0 ≤ v ∧ v < (n : Nat)) := by
      have : u = 0 ∨ u = 1 ∨ u = 2 ∨ u = 3 := by omega
      rcases this with rfl | rfl | rfl | rfl
      · exact ⟨(n : Nat), rfl, by omega⟩
      · exact ⟨-1, rfl, by omega⟩
      · exact ⟨z[r] - (n : Nat), rfl, by omega⟩
      · exact ⟨100000000000000000000, rfl, by omega⟩
    have ad1 : ∀ (k : Nat) (v : Int), addP (.tup (PZ (z.take k))) (.tup [.int v]) = .val (.tup (PZ (z.take k ++ [v]))) := fun k v => by rw [addP_tups (by rw [PZ_len, List.length_take]; show _ + 1 ≤ _; omega), ← pz_app]; rfl
    have ad2 : ∀ (k : Nat) (v : Int), k < z.length → addP (.tup (PZ (z.take k ++ [v]))) (.tup (PZ (z.drop (k + 1)))) = .val (.tup (PZ (z.set k v))) := fun k v hk => by
      rw [addP_tups (by rw [PZ_len, PZ_len, List.length_append, List.length_take, List.length_drop]; show _ + 1 + _ ≤ _; omega), pz_app, dropset hk]
    have a1 : ((r : Nat) : Int) + 1 = ((r + 1 : Nat) : Int) := by omega
    have b2 : BadO (.tup (PZ (z ++ [z[r]]))) := ⟨_, rfl, by rw [la]; omega, fun h => by
      have nd := (rg_in h).2
      refine two_same (i := r) (j := n) (by rw [la]; omega) (by rw [la]; omega) (by omega) ?_ nd
      rw [List.getElem_append_left hr, List.getElem_append_right (by omega)]
      simp [hz]⟩
    have b3 : BadO (.tup (PZ (z.set r v))) := out _ v (by rw [List.length_set]; omega) (List.mem_iff_getElem.mpr ⟨r, by rw [List.length_set]; exact hr, List.getElem_set_self _⟩) (by rw [List.length_set, hz]; exact hv)
    by_cases c1 : 1 < n
    · obtain ⟨w, d3, e3, h3, P3⟩ := take_nat P2 (m := n) c (by omega)
      have hw : w < z.length := by omega
      have g1 : decide ((1 : Int) < ((n : Nat) : Int)) = true := decide_eq_true (by omega)
      have aw : ((w : Nat) : Int) + 1 = ((w + 1 : Nat) : Int) := by omega
      obtain ⟨k, hk, kw, ik⟩ : ∃ (k : Nat) (hk : k < z.length), k ≠ w ∧ ixP (.tup (PZ z)) (.int (((w : Nat) : Int) - 1)) = .val (.int z[k]) := by
        cases w with
        | zero =>
          refine ⟨z.length - 1, by omega, by omega, ?_⟩
          have e : atI (PZ z) (-1) = some (.int (z[z.length - 1]'(by omega))) := by
            have e0 : ixN (PZ z).length (-1) = some (z.length - 1) := by
              unfold ixN
              rw [PZ_len]
              rw [if_neg (by decide), if_pos (by omega)]
              exact congrArg some (by omega)
            unfold atI
            rw [e0]
            exact pz_get (by omega)
          show (match atI (PZ z) (-1) with | some p => Res.val p | none => .stuck) = _
          rw [e]
        | succ w =>
          refine ⟨w, by omega, by omega, ?_⟩
          rw [show (((w + 1 : Nat) : Int) - 1) = ((w : Nat) : Int) by omega]
          exact ixP_tup (pz_get (by omega))
      have b4 : BadO (.tup (PZ (z.set w z[k]))) := ⟨_, rfl, by rw [List.length_set]; omega, fun h => by
        have nd := (rg_in h).2
        refine two_same (i := w) (j := k) (by rw [List.length_set]; exact hw) (by rw [List.length_set]; exact hk) (by omega) ?_ nd
        rw [List.getElem_set_self, List.getElem_set_ne (by omega)]⟩
      refine ⟨[.tup (PZ (z ++ [((n : Nat) : Int) + 1])), .tup (PZ (z ++ [-1])), .tup (PZ (z ++ [z[r]])), .tup (PZ (z.set r v)), .tup (PZ (z.set w z[k]))], d3, ?_, P3, fun p hp => ?_⟩
      · simp -implicitDefEqProofs only [bind_val, asB_bl, if_true, Bool.not_true, Bool.not_false, Bool.false_eq_true, if_false, retF_rt, seqF_nx, seqF_rt, asSq_lst, asSq_tup, partP_int, leP_int, ltP_int, gtP_int, geP_int, addP_int, subP_int, intP_int, tupleP_lst, asLi_lst, ln, mk1, ng, ad, mk2n, g0, noX_val, apR1_o, moD_dct, e1, ix, List.cons_append, List.nil_append, sz2, pp, s2, pw, mk4, e2, iv, ad1, a1, s3, ad2 r v hr, sz3, g1, e3, ik, aw, ad2 w _ hw, sz4]
        rfl
      · simp only [List.mem_cons, List.not_mem_nil, or_false] at hp
        rcases hp with rfl | rfl | rfl | rfl | rfl
        · exact b0
        · exact b1
        · exact b2
        · exact b3
        · exact b4
    · have g1 : decide ((1 : Int) < ((n : Nat) : Int)) = false := decide_eq_false (by omega)
      refine ⟨[.tup (PZ (z ++ [((n : Nat) : Int) + 1])), .tup (PZ (z ++ [-1])), .tup (PZ (z ++ [z[r]])), .tup (PZ (z.set r v))], d2, ?_, P2, fun p hp => ?_⟩
      · simp -implicitDefEqProofs only [bind_val, asB_bl, if_true, Bool.not_true, Bool.not_false, Bool.false_eq_true, if_false, retF_rt, seqF_nx, seqF_rt, asSq_lst, asSq_tup, partP_int, leP_int, ltP_int, gtP_int, geP_int, addP_int, subP_int, intP_int, tupleP_lst, asLi_lst, ln, mk1, ng, ad, mk2n, g0, noX_val, apR1_o, moD_dct, e1, ix, List.cons_append, List.nil_append, sz2, pp, s2, pw, mk4, e2, iv, ad1, a1, s3, ad2 r v hr, sz3, g1]
        rfl
      · simp only [List.mem_cons, List.not_mem_nil, or_false] at hp
        rcases hp with rfl | rfl | rfl | rfl
        · exact b0
        · exact b1
        · exact b2
        · exact b3
  · have g0 : decide ((0 : Int) < ((n : Nat) : Int)) = false := decide_eq_false (by omega)
    have g1 : decide ((1 : Int) < ((n : Nat) : Int)) = false := decide_eq_false (by omega)
    refine ⟨[.tup (PZ (z ++ [((n : Nat) : Int) + 1])), .tup (PZ (z ++ [-1]))], d, ?_, hd, fun p hp => ?_⟩
    · simp -implicitDefEqProofs only [bind_val, asB_bl, if_true, Bool.not_true, Bool.not_false, Bool.false_eq_true, if_false, retF_rt, seqF_nx, seqF_rt, asSq_lst, asSq_tup, partP_int, leP_int, ltP_int, gtP_int, geP_int, addP_int, subP_int, intP_int, tupleP_lst, asLi_lst, ln, mk1, ng, ad, mk2n, g0, g1]
      rfl
    · simp only [List.mem_cons, List.not_mem_nil, or_false] at hp
      rcases hp with rfl | rfl
      · exact b0
      · exact b1
theorem lcFilX {α β : Type} {d : PV → Res β} {c : β → Res Bool} {e : β → Res PV} {PL : List PV} {X : Res (List PV)} (hE : lcF d c e PL = X) (ea : α → PV) (dd : α → β) (k : α → Bool) (g : α → PV) (l : List α) (hl : PL = l.map ea) (hd : ∀ a, a ∈ l → d (ea a) = .val (dd a)) (hc : ∀ a, a ∈ l → c (dd a) = .val (k a)) (he : ∀ a, a ∈ l → k a = true → e (dd a) = .val (g a)) : X = .val ((l.filter k).map g) := by
  subst hE hl
  exact lcFil (γ := Unit) ea dd k g l hd hc he
theorem pop_perm : ∀ {l : List Nat} {i : Nat} (h : i < l.length), (l[i] :: l.eraseIdx i).Perm l
  | x :: l, 0, _ => List.Perm.refl _
  | x :: l, i + 1, h => (List.Perm.swap x _ _).trans (List.Perm.cons x (pop_perm (Nat.lt_of_succ_lt_succ h)))
theorem PN_erase : ∀ {l : List Nat} {i : Nat}, (PN l).eraseIdx i = PN (l.eraseIdx i)
  | [], _ => rfl
  | x :: l, 0 => rfl
  | x :: l, i + 1 => congrArg (PV.int (x : Nat) :: ·) (PN_erase (l := l) (i := i))
theorem popL_PN {l : List Nat} {i : Nat} (h : i < l.length) (h2 : i < 100000) : popL (PN l) (.int (i : Nat)) = .val (.int (l[i] : Nat), PN (l.eraseIdx i)) := by
  have e : seqIndex? ((i : Nat) : Int) (PN l).length = some i := by
    have := (ixN_seq (n := (PN l).length) (i := ((i : Nat) : Int)) (j := i) (by
      unfold ixN
      rw [if_pos (by omega), if_pos (by rw [PN_len]; omega)]
      rfl)).1
    exact this
  unfold popL
  show (if -(2 ^ 63) ≤ ((i : Nat) : Int) ∧ ((i : Nat) : Int) < 2 ^ 63 then _ else _) = _
  rw [if_pos ⟨by omega, by omega⟩, e]
  show (match (PN l)[i]? with | some y => Res.val (y, (PN l).eraseIdx i) | none => .stuck) = _
  rw [PN_get (List.getElem?_eq_getElem h), PN_erase]
theorem order_runS {T : Type} (I : T → Prop) (body : PV → (List PV × T) → Res (PV × (List PV × T))) (hb : ∀ (x : PV) (L : List Nat) (s : T), I s → 0 < L.length → L.length < 100000 → ∃ (i : Nat) (h : i < L.length) (s' : T), body x (PN L, s) = .val (.int (L[i] : Nat), (PN (L.eraseIdx i), s')) ∧ I s') :
    ∀ (ps : List PV) (L : List Nat) (s : T), ps.length = L.length → L.length < 100000 → I s → ∃ (ys : List Nat) (s' : T), lcE (fun x => Res.val x) (fun (_ : PV) (t : List PV × T) => Res.val (true, t)) body ps (PN L, s) = .val (PN ys, ([], s')) ∧ ys.Perm L ∧ I s'
  | [], L, s, h, _, hs => by
    have : L = [] := List.length_eq_zero_iff.mp h.symm
    subst this
    exact ⟨[], s, rfl, List.Perm.refl _, hs⟩
  | p :: ps, L, s, h, h2, hs => by
    have hl : 0 < L.length := by rw [← h]; exact Nat.succ_pos _
    obtain ⟨i, hi, s1, e, h1⟩ := hb p L s hs hl h2
    have len : (L.eraseIdx i).length = L.length - 1 := by rw [List.length_eraseIdx, if_pos hi]
    obtain ⟨ys, s2, e2, pm, h3⟩ := order_runS I body hb ps (L.eraseIdx i) s1 (by rw [len]; simp only [List.length_cons] at h; omega) (by rw [len]; omega) h1
    refine ⟨L[i] :: ys, s2, ?_, (List.Perm.cons _ pm).trans (pop_perm hi), h3⟩
    unfold lcE
    rw [noX_val, bind_val, bind_val, if_pos rfl, e, bind_val, e2, bind_val]
    rfl
theorem order_runX {T : Type} {I : T → Prop} {body : PV → (List PV × T) → Res (PV × (List PV × T))} {ps : List PV} {L : List Nat} {s : T} {X : Res (List PV × (List PV × T))} (hE : lcE (fun x => Res.val x) (fun (_ : PV) (t : List PV × T) => Res.val (true, t)) body ps (PN L, s) = X) (hs : I s) (hl : ps.length = L.length) (h2 : L.length < 100000)
    (hb : ∀ (x : PV) (L : List Nat) (s : T), I s → 0 < L.length → L.length < 100000 → ∃ (i : Nat) (h : i < L.length) (s' : T), body x (PN L, s) = .val (.int (L[i] : Nat), (PN (L.eraseIdx i), s')) ∧ I s') : ∃ (ys : List Nat) (s' : T), X = .val (PN ys, ([], s')) ∧ ys.Perm L ∧ I s' := by
  subst hE
  exact order_runS I body hb ps L s hl h2 hs
structure Ord (order : List Nat) (n : Nat) : Prop where
  len : order.length = n
  mem : ∀ p, p < n → p ∈ order
  prm : (rgZ n).Perm (order.map fun k : Nat => (k : Int))
  back : exN (List.range n) ((swL n).zip (bitsOf (Gof order) (swL n))) = order
theorem idx_at {l : List Nat} (nd : l.Nodup) {i : Nat} (h : i < l.length) : l.idxOf l[i] = i := by
  have lt : l.idxOf l[i] < l.length := List.idxOf_lt_length_of_mem (List.getElem_mem h)
  have e : l[l.idxOf l[i]] = l[i] := List.getElem_idxOf lt
  rcases Nat.lt_trichotomy (l.idxOf l[i]) i with c | c | c
  · exact absurd e (List.pairwise_iff_getElem.mp nd _ _ lt h c)
  · exact c
  · exact absurd e.symm (List.pairwise_iff_getElem.mp nd _ _ h lt c)
theorem ord_of {order : List Nat} {n : Nat} (hn : n < 13) (h : order.Perm (List.range n)) : Ord order n := by
  have len : order.length = n := by rw [h.length_eq, List.length_range]
  have mem : ∀ p, p < n → p ∈ order := fun p hp => h.mem_iff.mpr (List.mem_range.mpr hp)
  have nd : order.Nodup := h.nodup_iff.mpr List.nodup_range
  have lt : ∀ a, a ∈ order → a < n := fun a ha => List.mem_range.mp (h.mem_iff.mp ha)
  refine ⟨len, mem, (h.map fun k : Nat => (k : Int)).symm, ?_⟩
  have gl : (Gof order).length = n := by rw [gof_len, len]
  have gg : ∀ k, k < n → (Gof order).getD k 0 = order.idxOf k := fun k hk => by
    unfold Gof
    rw [List.getD_eq_getElem?_getD, List.getElem?_map, List.getElem?_range (by omega)]
    rfl
  refine lead_back hn gl ?_ (fun a ha => ?_) len fun p hp => ?_
  · unfold Gof
    refine List.pairwise_map.mpr ((List.nodup_range (n := order.length)).imp_of_mem fun {a b} ha hb ne e => ne ?_)
    have ma := mem a (by have := List.mem_range.mp ha; omega)
    have mb := mem b (by have := List.mem_range.mp hb; omega)
    have ea : order[order.idxOf a]'(List.idxOf_lt_length_of_mem ma) = a := List.getElem_idxOf _
    have eb : order[order.idxOf b]'(List.idxOf_lt_length_of_mem mb) = b := List.getElem_idxOf _
    rw [← ea, ← eb]
    simp only [e]
  · obtain ⟨k, hk, rfl⟩ := List.mem_map.mp ha
    have := List.idxOf_lt_length_of_mem (mem k (by have := List.mem_range.mp hk; omega))
    omega
  · have hp' : p < order.length := by omega
    have e : order.getD p 0 = order[p] := by rw [List.getD_eq_getElem?_getD, List.getElem?_eq_getElem hp']; rfl
    have l := lt _ (List.getElem_mem hp')
    rw [e, gg _ l]
    exact ⟨l, idx_at nd hp'⟩
theorem pn_row {n : Nat} {x : List Nat} (h : x.length ≤ 10000000) : Pn (n + 2) (.tup (PN x)) := .tup (fun p hp => by
  obtain ⟨a, _, rfl⟩ := List.mem_map.mp hp
  exact .int) (by rw [PN_len]; exact h)
open Classical in
theorem same_self {p : PV} (h : Pn 5 p) : m__law_same 5 p p = .val (.bl true) := by rw [same_ok 5 p h 5 p h, decide_eq_true rfl]
theorem lay_of : ∀ n, n < 9 → ∀ y, y < n → ((swN n).filter fun p => Nat.beq p.1 y).map (fun p => p.2) = lay1 n y := by decide
theorem law_true (ns : List Int) (hl : ns.length ≤ 63) : m_law ns = .val (.bl true) := by
  obtain ⟨d0, p0, P0⟩ := pool_ok ns hl
  obtain ⟨n, d1, t1, h1, P1⟩ := take_nat P0 (m := 9) (by decide) (by decide)
  have t1 : m__law_take (.dct d0) (.int 9) = .val (.int (n : Nat), .dct d1) := t1
  have hn : n < 13 := by omega
  have l66 := swL66 hn
  have rg : rng1 (.int (n : Nat)) = .val (PN (List.range n)) := rng1_nat (by omega)
  have szr : sized (PN (List.range n)).length = .val () := sized_small (by rw [PN_len, List.length_range]; omega)
  have szt : sized (swT n).length = .val () := sized_small (by rw [swT_swN, List.length_map, ← List.length_map (f := Prod.snd), ← swL_swN]; omega)
  have as1 : ∀ l : List PV, asSq (.lst l) = .val l := fun _ => rfl
  have mk0 : mkN ([] : List PV) = .val [] := mkN_ok (by show 0 ≤ 10000000; decide)
  unfold m_law
  simp -implicitDefEqProofs only [bind_val, asB_bl, if_true, Bool.not_true, Bool.not_false, Bool.false_eq_true, if_false, retF_rt, seqF_nx, seqF_rt, asSq_lst, asSq_tup, partP_int, leP_int, ltP_int, gtP_int, geP_int, addP_int, subP_int, intP_int, tupleP_lst, asLi_lst, noX_val, apN1_o, p0, moD_dct, apR1_o, t1, rg, szr, switches_ok n hn, as1, szt]
  generalize hE : lcF _ _ _ _ = X
  have e := lcMapX hE (fun y : Nat => PV.int (y : Nat)) (fun y : Nat => PV.int (y : Nat)) (fun y => laP (lay1 n y)) (List.range n) rfl (fun _ _ => rfl) (fun y hy => by
    generalize hG : lcF _ _ _ _ = Y
    have e := lcFilX hG (fun p : Nat × Nat => PV.tup [.int (p.1 : Nat), .int (p.2 : Nat)]) (fun p => PV.tup [.int (p.1 : Nat), .int (p.2 : Nat)]) (fun p => Nat.beq p.1 y) (fun p => PV.int (p.2 : Nat)) (swN n) (swT_swN n) (fun _ _ => rfl) (fun p _ => by
      have i0 : ∀ a b : PV, ixP (.tup [a, b]) (.int 0) = .val a := fun _ _ => rfl
      have q : eqP (.int (p.1 : Nat)) (.int (y : Nat)) = .val (.bl (Nat.beq p.1 y)) := eqP_nat
      simp -implicitDefEqProofs only [bind_val, asB_bl, if_true, Bool.not_true, Bool.not_false, Bool.false_eq_true, if_false, retF_rt, seqF_nx, seqF_rt, asSq_lst, asSq_tup, partP_int, leP_int, ltP_int, gtP_int, geP_int, addP_int, subP_int, intP_int, tupleP_lst, asLi_lst, i0, q]) (fun p _ _ => rfl)
    have e2 : ((swN n).filter fun p => Nat.beq p.1 y).map (fun p => PV.int (p.2 : Nat)) = PN (lay1 n y) := by
      rw [← lay_of n (by omega) y (List.mem_range.mp hy)]
      unfold PN
      rw [List.map_map]
      rfl
    rw [e2] at e
    subst e
    simp -implicitDefEqProofs only [bind_val, asB_bl, if_true, Bool.not_true, Bool.not_false, Bool.false_eq_true, if_false, retF_rt, seqF_nx, seqF_rt, asSq_lst, asSq_tup, partP_int, leP_int, ltP_int, gtP_int, geP_int, addP_int, subP_int, intP_int, tupleP_lst, asLi_lst, tupL]
    rfl)
  have eL : (List.range n).map (fun y => laP (lay1 n y)) = (layN n).map laP := by unfold layN; rw [List.map_map]; rfl
  rw [eL] at e
  subst e
  have ka : ∀ a : PV, ap1 m_switch_places (g_switch_places_0_many [] [a]) = m_switch_places a := fun _ => rfl
  have pL : Pn 5 (.tup ((layN n).map laP)) := .tup (fun p hp => by
    obtain ⟨l, hl, rfl⟩ := List.mem_map.mp hp
    exact pn_row (by have := lay_len hl; omega)) (by rw [List.length_map, layN_len]; omega)
  simp -implicitDefEqProofs only [bind_val, asB_bl, if_true, Bool.not_true, Bool.not_false, Bool.false_eq_true, if_false, retF_rt, seqF_nx, seqF_rt, asSq_lst, asSq_tup, partP_int, leP_int, ltP_int, gtP_int, geP_int, addP_int, subP_int, intP_int, tupleP_lst, asLi_lst, tupL, ka, switch_ok n hn, same_self pL]
  generalize hE : lcE _ _ _ _ _ = X
  obtain ⟨rs, d2, e, rr, P2⟩ := lcE_relX (J := Px) hE (fun p : PV => p) (fun k : Nat => PV.int (k : Nat)) (fun p => p) (fun _ k => k < 2) (swT n) (List.map_id _).symm P1 (fun _ _ => rfl) (fun _ _ s hs => by
    obtain ⟨k, s', t, h, P⟩ := take_nat hs (m := 2) (by decide) (by decide)
    have t : m__law_take (.dct s) (.int 2) = .val (.int (k : Nat), .dct s') := t
    exact ⟨k, s', by simp -implicitDefEqProofs only [bind_val, asB_bl, if_true, Bool.not_true, Bool.not_false, Bool.false_eq_true, if_false, retF_rt, seqF_nx, seqF_rt, asSq_lst, asSq_tup, partP_int, leP_int, ltP_int, gtP_int, geP_int, addP_int, subP_int, intP_int, tupleP_lst, asLi_lst, noX_val, apR1_o, moD_dct, t], h, P⟩)
  subst e
  have lr : rs.length = (swL n).length := by rw [← rr.len, swT_swN, swL_swN, List.length_map, List.length_map]
  have r2 : ∀ b, b ∈ rs → b < 2 := rr.right fun _ _ h => h
  have ern : rs.map (fun k : Nat => PV.int (k : Nat)) = PN rs := rfl
  rw [ern]
  have kb : ∀ a b : PV, ap2 m_source_places (g_source_places_0_many_settings [] [a, b]) = m_source_places a b := fun _ _ => rfl
  have ps1 : Pn 5 (.tup (PN (exN (List.range n) ((swL n).zip rs)))) := pn_row (by rw [exN_len, List.length_range]; omega)
  obtain ⟨ws, d3, e3, P3, hw⟩ := wrong_settings_ok P2 hn (z := rs.map fun k : Nat => (k : Int)) (by rw [List.length_map]; exact lr) (.int (n : Nat))
  rw [← PN_toZ] at e3
  have apR2_t : ∀ {f : MO → PV → PV → Res (PV × MO)} {mo : MO} {a b : PV}, apR2 f mo [a, b] = f mo a b := rfl
  simp -implicitDefEqProofs only [bind_val, asB_bl, if_true, Bool.not_true, Bool.not_false, Bool.false_eq_true, if_false, retF_rt, seqF_nx, seqF_rt, asSq_lst, asSq_tup, partP_int, leP_int, ltP_int, gtP_int, geP_int, addP_int, subP_int, intP_int, tupleP_lst, asLi_lst, noX_val, tupL, kb, source_ok hn lr r2, law_sources_ok hn lr, same_self ps1, apR2_t, moD_dct, e3, as1]
  generalize hF : forF _ _ _ = X
  obtain ⟨s4, e, P4⟩ := forF_invX (I := Px) hF P3 (fun p hp s hs => ⟨s, by simp -implicitDefEqProofs only [bind_val, asB_bl, if_true, Bool.not_true, Bool.not_false, Bool.false_eq_true, if_false, retF_rt, seqF_nx, seqF_rt, asSq_lst, asSq_tup, partP_int, leP_int, ltP_int, gtP_int, geP_int, addP_int, subP_int, intP_int, tupleP_lst, asLi_lst, refused_s hn (hw p hp)], hs⟩)
  subst e
  obtain ⟨a, d5, t5, h5, P5⟩ := take_nat P4 (m := 7) (by decide) (by decide)
  have t5 : m__law_take (.dct s4) (.int 7) = .val (.int (a : Nat), .dct d5) := t5
  obtain ⟨b, d6, t6, h6, P6⟩ := take_nat P5 (m := 13) (by decide) (by decide)
  have t6 : m__law_take (.dct d5) (.int 13) = .val (.int (b : Nat), .dct d6) := t6
  have mk2 : ∀ a b : PV, mkL [a, b] = .val (.lst [a, b]) := fun a b => mkL_ok (by show 2 ≤ 10000000; decide)
  simp -implicitDefEqProofs only [bind_val, asB_bl, if_true, Bool.not_true, Bool.not_false, Bool.false_eq_true, if_false, retF_rt, seqF_nx, seqF_rt, asSq_lst, asSq_tup, partP_int, leP_int, ltP_int, gtP_int, geP_int, addP_int, subP_int, intP_int, tupleP_lst, asLi_lst, noX_val, apR1_o, moD_dct, t5, t6, mk2, as1]
  generalize hF : forF _ _ _ = X
  obtain ⟨s7, e, P7⟩ := forF_invX (I := Px) hF P6 (fun p hp s hs => by
    obtain ⟨m, hm, rfl⟩ : ∃ m : Nat, m < 13 ∧ p = .int (m : Nat) := by
      simp only [List.mem_cons, List.not_mem_nil, or_false] at hp
      rcases hp with rfl | rfl
      · exact ⟨a, by omega, rfl⟩
      · exact ⟨b, by omega, rfl⟩
    have pp : ∀ n : Nat, partP (.int (n : Nat)) = .val ((n : Nat) : Int) := fun _ => rfl
    have rgl : rgL 0 ((m : Nat) : Int) = .val (PN (List.range m)) := by
      unfold rgL
      rw [if_pos (by omega)]
      refine congrArg Res.val ?_
      unfold rngP PN
      rw [show (((m : Nat) : Int) - 0).toNat = m by omega]
      exact List.map_congr_left fun i _ => by rw [Int.zero_add]
    have rg : rng1 (.int (m : Nat)) = .val (PN (List.range m)) := rng1_nat (by omega)
    have szr : sized (PN (List.range m)).length = .val () := sized_small (by rw [PN_len, List.length_range]; omega)
    simp -implicitDefEqProofs only [bind_val, asB_bl, if_true, Bool.not_true, Bool.not_false, Bool.false_eq_true, if_false, retF_rt, seqF_nx, seqF_rt, asSq_lst, asSq_tup, partP_int, leP_int, ltP_int, gtP_int, geP_int, addP_int, subP_int, intP_int, tupleP_lst, asLi_lst, pp, rgl, rg, noX_val, szr]
    generalize hE : lcE _ _ _ _ _ = X
    obtain ⟨od, s8, e, pm, P8⟩ := order_runX (I := Px) hE hs (by rw [PN_len]) (by rw [List.length_range]; omega) (fun x L s hs h0 h1 => by
      obtain ⟨i, s', ti, hi, Pi⟩ := take_nat hs (m := L.length) h0 (by omega)
      have ln : lenP (.lst (PN L)) = .val (.int (L.length : Nat)) := by rw [lenP_lst, PN_len]
      exact ⟨i, hi, s', by simp -implicitDefEqProofs only [bind_val, asB_bl, if_true, Bool.not_true, Bool.not_false, Bool.false_eq_true, if_false, retF_rt, seqF_nx, seqF_rt, asSq_lst, asSq_tup, partP_int, leP_int, ltP_int, gtP_int, geP_int, addP_int, subP_int, intP_int, tupleP_lst, asLi_lst, noX_val, ln, apR1_o, moD_dct, ti, popL_PN hi (by omega)], Pi⟩)
    subst e
    have O := ord_of hm pm
    have tk : ∀ l : List PV, KT.tupleK (.lst l) = .val (.ktp l) := fun _ => rfl
    have kc : ∀ a : PV, ap1 m_settings_for (g_settings_for_0_places [] [a]) = m_settings_for a := fun _ => rfl
    have lb : (bitsOf (Gof od) (swL m)).length = (swL m).length := bits_len
    have so := source_ok hm (bs := bitsOf (Gof od) (swL m)) lb (fun b hb => bits_lt hb)
    have ls := law_sources_ok hm (bs := bitsOf (Gof od) (swL m)) lb
    rw [O.back] at so ls
    have l66 := swL66 hm
    have sb : Pn 5 (.tup (PN (bitsOf (Gof od) (swL m)))) := pn_row (by omega)
    have sd : Pn 5 (.tup (PN od)) := pn_row (by rw [O.len]; omega)
    have nd : neP (.tup (PN od)) (.tup (PN od)) = .val (.bl false) := by rw [PN_toZ, neP_tup, decide_eq_true rfl]; rfl
    obtain ⟨wo, d9, e9, P9, hw9⟩ := wrong_orders_ok P8 hm (z := od.map fun k : Nat => (k : Int)) (by rw [List.length_map]; exact O.len) O.prm
    rw [← PN_toZ] at e9
    simp -implicitDefEqProofs only [bind_val, asB_bl, if_true, Bool.not_true, Bool.not_false, Bool.false_eq_true, if_false, retF_rt, seqF_nx, seqF_rt, asSq_lst, asSq_tup, partP_int, leP_int, ltP_int, gtP_int, geP_int, addP_int, subP_int, intP_int, tupleP_lst, asLi_lst, tk, kc, settings_ok O.len hm O.mem O.prm, law_goals_ok O.len hm O.mem, same_self sb, so, unK_k, same_self sd, ls, nd, noX_val, apR1_o, moD_dct, e9, as1]
    generalize hG : forF _ _ _ = Y
    obtain ⟨s10, e, P10⟩ := forF_invX (I := Px) hG P9 (fun p hp s hs => ⟨s, by simp -implicitDefEqProofs only [bind_val, asB_bl, if_true, Bool.not_true, Bool.not_false, Bool.false_eq_true, if_false, retF_rt, seqF_nx, seqF_rt, asSq_lst, asSq_tup, partP_int, leP_int, ltP_int, gtP_int, geP_int, addP_int, subP_int, intP_int, tupleP_lst, asLi_lst, refused_o (hw9 p hp)], hs⟩)
    subst e
    exact ⟨s10, by simp -implicitDefEqProofs only [bind_val, asB_bl, if_true, Bool.not_true, Bool.not_false, Bool.false_eq_true, if_false, retF_rt, seqF_nx, seqF_rt, asSq_lst, asSq_tup, partP_int, leP_int, ltP_int, gtP_int, geP_int, addP_int, subP_int, intP_int, tupleP_lst, asLi_lst], P10⟩)
  subst e
  simp -implicitDefEqProofs only [bind_val, asB_bl, if_true, Bool.not_true, Bool.not_false, Bool.false_eq_true, if_false, retF_rt, seqF_nx, seqF_rt, asSq_lst, asSq_tup, partP_int, leP_int, ltP_int, gtP_int, geP_int, addP_int, subP_int, intP_int, tupleP_lst, asLi_lst]
theorem all_mk {l : PySem.W.OpenLaw} {w : World} {K : PySem.W.Frag} {h : Heap} {mg : Str → Option Value} {fa : Addr} (X : K.In h) (G : h.Ns mainGlobals mg) (hfa : mg "law" = some (.ref fa))
    {f__law_pool : Addr} {od__law_pool an__law_pool : Option Addr} {sl__law_pool : Array (Option Value)} {oc__law_pool kV__law_pool dc__law_pool pm__law_pool cd__law_pool ct__law_pool : Value}
    {f__law_mixed : Addr} {od__law_mixed an__law_mixed : Option Addr} {sl__law_mixed : Array (Option Value)} {oc__law_mixed kV__law_mixed dc__law_mixed pm__law_mixed cd__law_mixed ct__law_mixed : Value}
    {f__law_take : Addr} {od__law_take an__law_take : Option Addr} {sl__law_take : Array (Option Value)} {oc__law_take kV__law_take dc__law_take pm__law_take cd__law_take ct__law_take : Value}
    {f__law_wrong_settings : Addr} {od__law_wrong_settings an__law_wrong_settings : Option Addr} {sl__law_wrong_settings : Array (Option Value)} {oc__law_wrong_settings kV__law_wrong_settings dc__law_wrong_settings pm__law_wrong_settings cd__law_wrong_settings ct__law_wrong_settings : Value}
    {f__law_same : Addr} {od__law_same an__law_same : Option Addr} {sl__law_same : Array (Option Value)} {oc__law_same kV__law_same dc__law_same pm__law_same cd__law_same ct__law_same : Value}
    {f_switch_places : Addr} {od_switch_places an_switch_places : Option Addr} {sl_switch_places : Array (Option Value)} {oc_switch_places kV_switch_places dc_switch_places pm_switch_places cd_switch_places ct_switch_places : Value}
    {f__exchanged : Addr} {od__exchanged an__exchanged : Option Addr} {sl__exchanged : Array (Option Value)} {oc__exchanged kV__exchanged dc__exchanged pm__exchanged cd__exchanged ct__exchanged : Value}
    {f_settings_for : Addr} {od_settings_for an_settings_for : Option Addr} {sl_settings_for : Array (Option Value)} {oc_settings_for kV_settings_for dc_settings_for pm_settings_for cd_settings_for ct_settings_for : Value}
    {f__law_wrong_orders : Addr} {od__law_wrong_orders an__law_wrong_orders : Option Addr} {sl__law_wrong_orders : Array (Option Value)} {oc__law_wrong_orders kV__law_wrong_orders dc__law_wrong_orders pm__law_wrong_orders cd__law_wrong_orders ct__law_wrong_orders : Value}
    {f_is_tuple_of : Addr} {od_is_tuple_of an_is_tuple_of : Option Addr} {sl_is_tuple_of : Array (Option Value)} {oc_is_tuple_of kV_is_tuple_of dc_is_tuple_of pm_is_tuple_of cd_is_tuple_of ct_is_tuple_of : Value}
    {f_is_residue : Addr} {od_is_residue an_is_residue : Option Addr} {sl_is_residue : Array (Option Value)} {oc_is_residue kV_is_residue dc_is_residue pm_is_residue cd_is_residue ct_is_residue : Value}
    {f_is_residue_row : Addr} {od_is_residue_row an_is_residue_row : Option Addr} {sl_is_residue_row : Array (Option Value)} {oc_is_residue_row kV_is_residue_row dc_is_residue_row pm_is_residue_row cd_is_residue_row ct_is_residue_row : Value}
    {f__count_switches : Addr} {od__count_switches an__count_switches : Option Addr} {sl__count_switches : Array (Option Value)} {oc__count_switches kV__count_switches dc__count_switches pm__count_switches cd__count_switches ct__count_switches : Value}
    {f__check_settings : Addr} {od__check_settings an__check_settings : Option Addr} {sl__check_settings : Array (Option Value)} {oc__check_settings kV__check_settings dc__check_settings pm__check_settings cd__check_settings ct__check_settings : Value}
    {f__by_layer : Addr} {od__by_layer an__by_layer : Option Addr} {sl__by_layer : Array (Option Value)} {oc__by_layer kV__by_layer dc__by_layer pm__by_layer cd__by_layer ct__by_layer : Value}
    {f_source_places : Addr} {od_source_places an_source_places : Option Addr} {sl_source_places : Array (Option Value)} {oc_source_places kV_source_places dc_source_places pm_source_places cd_source_places ct_source_places : Value}
    {f__law_switches : Addr} {od__law_switches an__law_switches : Option Addr} {sl__law_switches : Array (Option Value)} {oc__law_switches kV__law_switches dc__law_switches pm__law_switches cd__law_switches ct__law_switches : Value}
    {f__law_sources : Addr} {od__law_sources an__law_sources : Option Addr} {sl__law_sources : Array (Option Value)} {oc__law_sources kV__law_sources dc__law_sources pm__law_sources cd__law_sources ct__law_sources : Value}
    {f__law_refused : Addr} {od__law_refused an__law_refused : Option Addr} {sl__law_refused : Array (Option Value)} {oc__law_refused kV__law_refused dc__law_refused pm__law_refused cd__law_refused ct__law_refused : Value}
    {f__law_goals : Addr} {od__law_goals an__law_goals : Option Addr} {sl__law_goals : Array (Option Value)} {oc__law_goals kV__law_goals dc__law_goals pm__law_goals cd__law_goals ct__law_goals : Value}
    {f_law : Addr} {od_law an_law : Option Addr} {sl_law : Array (Option Value)} {oc_law kV_law dc_law pm_law cd_law ct_law : Value}
    {c_BadStatement : Addr}
    {c_BadTape : Addr}
    {c_HushError : Addr}
    {t_CROSSED : Tok}
    {t_STRAIGHT : Tok}
    (a__law_pool : PySem.W.nsIn K mainGlobals "_law_pool" = some (some (.ref f__law_pool))) (l__law_pool : K.lookup f__law_pool = some ⟨oc__law_pool, od__law_pool, .func (PySem.W.fnOf "_law_pool" "_law_pool" (defArgs s_Lpool) (defBody s_Lpool) (defScope s_Lpool) .none kV__law_pool dc__law_pool pm__law_pool an__law_pool cd__law_pool ct__law_pool), sl__law_pool⟩) (c__law_pool : PySem.W.codeIn K cd__law_pool "_law_pool" = true) (k__law_pool : PySem.W.keepIn K (.ref f__law_pool) = true)
    (a__law_mixed : PySem.W.nsIn K mainGlobals "_law_mixed" = some (some (.ref f__law_mixed))) (l__law_mixed : K.lookup f__law_mixed = some ⟨oc__law_mixed, od__law_mixed, .func (PySem.W.fnOf "_law_mixed" "_law_mixed" (defArgs s_Lmixed) (defBody s_Lmixed) (defScope s_Lmixed) .none kV__law_mixed dc__law_mixed pm__law_mixed an__law_mixed cd__law_mixed ct__law_mixed), sl__law_mixed⟩) (c__law_mixed : PySem.W.codeIn K cd__law_mixed "_law_mixed" = true) (k__law_mixed : PySem.W.keepIn K (.ref f__law_mixed) = true)
    (a__law_take : PySem.W.nsIn K mainGlobals "_law_take" = some (some (.ref f__law_take))) (l__law_take : K.lookup f__law_take = some ⟨oc__law_take, od__law_take, .func (PySem.W.fnOf "_law_take" "_law_take" (defArgs s_Ltake) (defBody s_Ltake) (defScope s_Ltake) .none kV__law_take dc__law_take pm__law_take an__law_take cd__law_take ct__law_take), sl__law_take⟩) (c__law_take : PySem.W.codeIn K cd__law_take "_law_take" = true) (k__law_take : PySem.W.keepIn K (.ref f__law_take) = true)
    (a__law_wrong_settings : PySem.W.nsIn K mainGlobals "_law_wrong_settings" = some (some (.ref f__law_wrong_settings))) (l__law_wrong_settings : K.lookup f__law_wrong_settings = some ⟨oc__law_wrong_settings, od__law_wrong_settings, .func (PySem.W.fnOf "_law_wrong_settings" "_law_wrong_settings" (defArgs s_Lwrong_settings) (defBody s_Lwrong_settings) (defScope s_Lwrong_settings) .none kV__law_wrong_settings dc__law_wrong_settings pm__law_wrong_settings an__law_wrong_settings cd__law_wrong_settings ct__law_wrong_settings), sl__law_wrong_settings⟩) (c__law_wrong_settings : PySem.W.codeIn K cd__law_wrong_settings "_law_wrong_settings" = true) (k__law_wrong_settings : PySem.W.keepIn K (.ref f__law_wrong_settings) = true)
    (a__law_same : PySem.W.nsIn K mainGlobals "_law_same" = some (some (.ref f__law_same))) (l__law_same : K.lookup f__law_same = some ⟨oc__law_same, od__law_same, .func (PySem.W.fnOf "_law_same" "_law_same" (defArgs s_Lsame) (defBody s_Lsame) (defScope s_Lsame) .none kV__law_same dc__law_same pm__law_same an__law_same cd__law_same ct__law_same), sl__law_same⟩) (c__law_same : PySem.W.codeIn K cd__law_same "_law_same" = true) (k__law_same : PySem.W.keepIn K (.ref f__law_same) = true)
    (a_switch_places : PySem.W.nsIn K mainGlobals "switch_places" = some (some (.ref f_switch_places))) (l_switch_places : K.lookup f_switch_places = some ⟨oc_switch_places, od_switch_places, .func (PySem.W.fnOf "switch_places" "switch_places" (defArgs s_switch_places) (defBody s_switch_places) (defScope s_switch_places) .none kV_switch_places dc_switch_places pm_switch_places an_switch_places cd_switch_places ct_switch_places), sl_switch_places⟩) (c_switch_places : PySem.W.codeIn K cd_switch_places "switch_places" = true) (k_switch_places : PySem.W.keepIn K (.ref f_switch_places) = true)
    (a__exchanged : PySem.W.nsIn K mainGlobals "_exchanged" = some (some (.ref f__exchanged))) (l__exchanged : K.lookup f__exchanged = some ⟨oc__exchanged, od__exchanged, .func (PySem.W.fnOf "_exchanged" "_exchanged" (defArgs s__exchanged) (defBody s__exchanged) (defScope s__exchanged) .none kV__exchanged dc__exchanged pm__exchanged an__exchanged cd__exchanged ct__exchanged), sl__exchanged⟩) (c__exchanged : PySem.W.codeIn K cd__exchanged "_exchanged" = true) (k__exchanged : PySem.W.keepIn K (.ref f__exchanged) = true)
    (a_settings_for : PySem.W.nsIn K mainGlobals "settings_for" = some (some (.ref f_settings_for))) (l_settings_for : K.lookup f_settings_for = some ⟨oc_settings_for, od_settings_for, .func (PySem.W.fnOf "settings_for" "settings_for" (defArgs s_settings_for) (defBody s_settings_for) (defScope s_settings_for) .none kV_settings_for dc_settings_for pm_settings_for an_settings_for cd_settings_for ct_settings_for), sl_settings_for⟩) (c_settings_for : PySem.W.codeIn K cd_settings_for "settings_for" = true) (k_settings_for : PySem.W.keepIn K (.ref f_settings_for) = true)
    (a__law_wrong_orders : PySem.W.nsIn K mainGlobals "_law_wrong_orders" = some (some (.ref f__law_wrong_orders))) (l__law_wrong_orders : K.lookup f__law_wrong_orders = some ⟨oc__law_wrong_orders, od__law_wrong_orders, .func (PySem.W.fnOf "_law_wrong_orders" "_law_wrong_orders" (defArgs s_Lwrong_orders) (defBody s_Lwrong_orders) (defScope s_Lwrong_orders) .none kV__law_wrong_orders dc__law_wrong_orders pm__law_wrong_orders an__law_wrong_orders cd__law_wrong_orders ct__law_wrong_orders), sl__law_wrong_orders⟩) (c__law_wrong_orders : PySem.W.codeIn K cd__law_wrong_orders "_law_wrong_orders" = true) (k__law_wrong_orders : PySem.W.keepIn K (.ref f__law_wrong_orders) = true)
    (a_is_tuple_of : PySem.W.nsIn K mainGlobals "is_tuple_of" = some (some (.ref f_is_tuple_of))) (l_is_tuple_of : K.lookup f_is_tuple_of = some ⟨oc_is_tuple_of, od_is_tuple_of, .func (PySem.W.fnOf "is_tuple_of" "is_tuple_of" (defArgs s_is_tuple_of) (defBody s_is_tuple_of) (defScope s_is_tuple_of) .none kV_is_tuple_of dc_is_tuple_of pm_is_tuple_of an_is_tuple_of cd_is_tuple_of ct_is_tuple_of), sl_is_tuple_of⟩) (c_is_tuple_of : PySem.W.codeIn K cd_is_tuple_of "is_tuple_of" = true) (k_is_tuple_of : PySem.W.keepIn K (.ref f_is_tuple_of) = true)
    (a_is_residue : PySem.W.nsIn K mainGlobals "is_residue" = some (some (.ref f_is_residue))) (l_is_residue : K.lookup f_is_residue = some ⟨oc_is_residue, od_is_residue, .func (PySem.W.fnOf "is_residue" "is_residue" (defArgs s_is_residue) (defBody s_is_residue) (defScope s_is_residue) .none kV_is_residue dc_is_residue pm_is_residue an_is_residue cd_is_residue ct_is_residue), sl_is_residue⟩) (c_is_residue : PySem.W.codeIn K cd_is_residue "is_residue" = true) (k_is_residue : PySem.W.keepIn K (.ref f_is_residue) = true)
    (a_is_residue_row : PySem.W.nsIn K mainGlobals "is_residue_row" = some (some (.ref f_is_residue_row))) (l_is_residue_row : K.lookup f_is_residue_row = some ⟨oc_is_residue_row, od_is_residue_row, .func (PySem.W.fnOf "is_residue_row" "is_residue_row" (defArgs s_is_residue_row) (defBody s_is_residue_row) (defScope s_is_residue_row) .none kV_is_residue_row dc_is_residue_row pm_is_residue_row an_is_residue_row cd_is_residue_row ct_is_residue_row), sl_is_residue_row⟩) (c_is_residue_row : PySem.W.codeIn K cd_is_residue_row "is_residue_row" = true) (k_is_residue_row : PySem.W.keepIn K (.ref f_is_residue_row) = true)
    (a__count_switches : PySem.W.nsIn K mainGlobals "_count_switches" = some (some (.ref f__count_switches))) (l__count_switches : K.lookup f__count_switches = some ⟨oc__count_switches, od__count_switches, .func (PySem.W.fnOf "_count_switches" "_count_switches" (defArgs s__count_switches) (defBody s__count_switches) (defScope s__count_switches) .none kV__count_switches dc__count_switches pm__count_switches an__count_switches cd__count_switches ct__count_switches), sl__count_switches⟩) (c__count_switches : PySem.W.codeIn K cd__count_switches "_count_switches" = true) (k__count_switches : PySem.W.keepIn K (.ref f__count_switches) = true)
    (a__check_settings : PySem.W.nsIn K mainGlobals "_check_settings" = some (some (.ref f__check_settings))) (l__check_settings : K.lookup f__check_settings = some ⟨oc__check_settings, od__check_settings, .func (PySem.W.fnOf "_check_settings" "_check_settings" (defArgs s__check_settings) (defBody s__check_settings) (defScope s__check_settings) .none kV__check_settings dc__check_settings pm__check_settings an__check_settings cd__check_settings ct__check_settings), sl__check_settings⟩) (c__check_settings : PySem.W.codeIn K cd__check_settings "_check_settings" = true) (k__check_settings : PySem.W.keepIn K (.ref f__check_settings) = true)
    (a__by_layer : PySem.W.nsIn K mainGlobals "_by_layer" = some (some (.ref f__by_layer))) (l__by_layer : K.lookup f__by_layer = some ⟨oc__by_layer, od__by_layer, .func (PySem.W.fnOf "_by_layer" "_by_layer" (defArgs s__by_layer) (defBody s__by_layer) (defScope s__by_layer) .none kV__by_layer dc__by_layer pm__by_layer an__by_layer cd__by_layer ct__by_layer), sl__by_layer⟩) (c__by_layer : PySem.W.codeIn K cd__by_layer "_by_layer" = true) (k__by_layer : PySem.W.keepIn K (.ref f__by_layer) = true)
    (a_source_places : PySem.W.nsIn K mainGlobals "source_places" = some (some (.ref f_source_places))) (l_source_places : K.lookup f_source_places = some ⟨oc_source_places, od_source_places, .func (PySem.W.fnOf "source_places" "source_places" (defArgs s_source_places) (defBody s_source_places) (defScope s_source_places) .none kV_source_places dc_source_places pm_source_places an_source_places cd_source_places ct_source_places), sl_source_places⟩) (c_source_places : PySem.W.codeIn K cd_source_places "source_places" = true) (k_source_places : PySem.W.keepIn K (.ref f_source_places) = true)
    (a__law_switches : PySem.W.nsIn K mainGlobals "_law_switches" = some (some (.ref f__law_switches))) (l__law_switches : K.lookup f__law_switches = some ⟨oc__law_switches, od__law_switches, .func (PySem.W.fnOf "_law_switches" "_law_switches" (defArgs s_Lswitches) (defBody s_Lswitches) (defScope s_Lswitches) .none kV__law_switches dc__law_switches pm__law_switches an__law_switches cd__law_switches ct__law_switches), sl__law_switches⟩) (c__law_switches : PySem.W.codeIn K cd__law_switches "_law_switches" = true) (k__law_switches : PySem.W.keepIn K (.ref f__law_switches) = true)
    (a__law_sources : PySem.W.nsIn K mainGlobals "_law_sources" = some (some (.ref f__law_sources))) (l__law_sources : K.lookup f__law_sources = some ⟨oc__law_sources, od__law_sources, .func (PySem.W.fnOf "_law_sources" "_law_sources" (defArgs s_Lsources) (defBody s_Lsources) (defScope s_Lsources) .none kV__law_sources dc__law_sources pm__law_sources an__law_sources cd__law_sources ct__law_sources), sl__law_sources⟩) (c__law_sources : PySem.W.codeIn K cd__law_sources "_law_sources" = true) (k__law_sources : PySem.W.keepIn K (.ref f__law_sources) = true)
    (a__law_refused : PySem.W.nsIn K mainGlobals "_law_refused" = some (some (.ref f__law_refused))) (l__law_refused : K.lookup f__law_refused = some ⟨oc__law_refused, od__law_refused, .func (PySem.W.fnOf "_law_refused" "_law_refused" (defArgs s_Lrefused) (defBody s_Lrefused) (defScope s_Lrefused) .none kV__law_refused dc__law_refused pm__law_refused an__law_refused cd__law_refused ct__law_refused), sl__law_refused⟩) (c__law_refused : PySem.W.codeIn K cd__law_refused "_law_refused" = true) (k__law_refused : PySem.W.keepIn K (.ref f__law_refused) = true)
    (a__law_goals : PySem.W.nsIn K mainGlobals "_law_goals" = some (some (.ref f__law_goals))) (l__law_goals : K.lookup f__law_goals = some ⟨oc__law_goals, od__law_goals, .func (PySem.W.fnOf "_law_goals" "_law_goals" (defArgs s_Lgoals) (defBody s_Lgoals) (defScope s_Lgoals) .none kV__law_goals dc__law_goals pm__law_goals an__law_goals cd__law_goals ct__law_goals), sl__law_goals⟩) (c__law_goals : PySem.W.codeIn K cd__law_goals "_law_goals" = true) (k__law_goals : PySem.W.keepIn K (.ref f__law_goals) = true)
    (a_law : PySem.W.nsIn K mainGlobals "law" = some (some (.ref f_law))) (l_law : K.lookup f_law = some ⟨oc_law, od_law, .func (PySem.W.fnOf "law" "law" (defArgs s_law) (defBody s_law) (defScope s_law) .none kV_law dc_law pm_law an_law cd_law ct_law), sl_law⟩) (c_law : PySem.W.codeIn K cd_law "law" = true) (k_law : PySem.W.keepIn K (.ref f_law) = true)
    (z_all : PySem.W.nsIn K mainGlobals "all" = some none)
    (z_bool : PySem.W.nsIn K mainGlobals "bool" = some none)
    (z_int : PySem.W.nsIn K mainGlobals "int" = some none)
    (z_isinstance : PySem.W.nsIn K mainGlobals "isinstance" = some none)
    (z_len : PySem.W.nsIn K mainGlobals "len" = some none)
    (z_list : PySem.W.nsIn K mainGlobals "list" = some none)
    (z_range : PySem.W.nsIn K mainGlobals "range" = some none)
    (z_sorted : PySem.W.nsIn K mainGlobals "sorted" = some none)
    (z_str : PySem.W.nsIn K mainGlobals "str" = some none)
    (z_tuple : PySem.W.nsIn K mainGlobals "tuple" = some none)
    (z_zip : PySem.W.nsIn K mainGlobals "zip" = some none)
    (a_BadStatement : PySem.W.nsIn K mainGlobals "BadStatement" = some (some (.ref c_BadStatement)))
    (kc_BadStatement : PySem.W.keepIn K (.ref c_BadStatement) = true)
    (s_BadStatement : PySem.W.subIn K (.ref c_BadStatement) (.type "BaseException") = some true)
    (t_BadStatement : PySem.W.typeIn K (.ref c_BadStatement) = some (.type "type"))
    (i_BadStatement : PySem.W.isClsIn K c_BadStatement = true)
    (hd_BadStatement : PySem.W.hasDictIn K c_BadStatement = true)
    (x_BadStatement : PySem.W.excIn K c_BadStatement [.type "ValueError", .type "Exception", .type "BaseException", .type "object"] "ValueError.__new__" = true)
    (a_BadTape : PySem.W.nsIn K mainGlobals "BadTape" = some (some (.ref c_BadTape)))
    (kc_BadTape : PySem.W.keepIn K (.ref c_BadTape) = true)
    (s_BadTape : PySem.W.subIn K (.ref c_BadTape) (.type "BaseException") = some true)
    (t_BadTape : PySem.W.typeIn K (.ref c_BadTape) = some (.type "type"))
    (i_BadTape : PySem.W.isClsIn K c_BadTape = true)
    (hd_BadTape : PySem.W.hasDictIn K c_BadTape = true)
    (x_BadTape : PySem.W.excIn K c_BadTape [.type "ValueError", .type "Exception", .type "BaseException", .type "object"] "ValueError.__new__" = true)
    (a_HushError : PySem.W.nsIn K mainGlobals "HushError" = some (some (.ref c_HushError)))
    (kc_HushError : PySem.W.keepIn K (.ref c_HushError) = true)
    (s_HushError : PySem.W.subIn K (.ref c_HushError) (.type "BaseException") = some true)
    (t_HushError : PySem.W.typeIn K (.ref c_HushError) = some (.type "type"))
    (i_HushError : PySem.W.isClsIn K c_HushError = true)
    (hd_HushError : PySem.W.hasDictIn K c_HushError = true)
    (x_HushError : PySem.W.excIn K c_HushError [.type "ValueError", .type "Exception", .type "BaseException", .type "object"] "ValueError.__new__" = true)
    (u_BadStatement_HushError : PySem.W.subIn K (.ref c_BadStatement) (.ref c_HushError) = some true)
    (u_BadTape_HushError : PySem.W.subIn K (.ref c_BadTape) (.ref c_HushError) = some true)
    (u_HushError_HushError : PySem.W.subIn K (.ref c_HushError) (.ref c_HushError) = some true)
    (i_get : PySem.W.specialIn K (.builtin "object.__class__") "__get__" = some (some (.builtin "getset_descriptor.__get__")))
    (i_tk : PySem.W.takesIn K (.builtin "object.__class__") = some true)
    (xg_BadStatement : PySem.W.findIn K (.ref c_BadStatement) "__getattribute__" = some (some (.builtin "BaseException.__getattribute__")))
    (xk_BadStatement : PySem.W.findIn K (.ref c_BadStatement) "__getattr__" = some none)
    (xa_BadStatement : PySem.W.findIn K (.ref c_BadStatement) "__class__" = some (some (.builtin "object.__class__")))
    (xm_BadStatement : PySem.W.mroIn K c_BadStatement (.type "object") = some true)
    (u_BadStatement_BadStatement : PySem.W.subIn K (.ref c_BadStatement) (.ref c_BadStatement) = some true)
    (u_BadStatement_BadTape : PySem.W.subIn K (.ref c_BadStatement) (.ref c_BadTape) = some false)
    (ine_x_BadStatement_BadTape : (Value.ref c_BadStatement == Value.ref c_BadTape) = false)
    (xg_BadTape : PySem.W.findIn K (.ref c_BadTape) "__getattribute__" = some (some (.builtin "BaseException.__getattribute__")))
    (xk_BadTape : PySem.W.findIn K (.ref c_BadTape) "__getattr__" = some none)
    (xa_BadTape : PySem.W.findIn K (.ref c_BadTape) "__class__" = some (some (.builtin "object.__class__")))
    (xm_BadTape : PySem.W.mroIn K c_BadTape (.type "object") = some true)
    (u_BadTape_BadStatement : PySem.W.subIn K (.ref c_BadTape) (.ref c_BadStatement) = some false)
    (ine_x_BadTape_BadStatement : (Value.ref c_BadTape == Value.ref c_BadStatement) = false)
    (u_BadTape_BadTape : PySem.W.subIn K (.ref c_BadTape) (.ref c_BadTape) = some true)
    (xg_HushError : PySem.W.findIn K (.ref c_HushError) "__getattribute__" = some (some (.builtin "BaseException.__getattribute__")))
    (xk_HushError : PySem.W.findIn K (.ref c_HushError) "__getattr__" = some none)
    (xa_HushError : PySem.W.findIn K (.ref c_HushError) "__class__" = some (some (.builtin "object.__class__")))
    (xm_HushError : PySem.W.mroIn K c_HushError (.type "object") = some true)
    (u_HushError_BadStatement : PySem.W.subIn K (.ref c_HushError) (.ref c_BadStatement) = some false)
    (ine_x_HushError_BadStatement : (Value.ref c_HushError == Value.ref c_BadStatement) = false)
    (u_HushError_BadTape : PySem.W.subIn K (.ref c_HushError) (.ref c_BadTape) = some false)
    (ine_x_HushError_BadTape : (Value.ref c_HushError == Value.ref c_BadTape) = false)
    (n_CROSSED : PySem.W.nsIn K mainGlobals "CROSSED" = some (some (.int 1 t_CROSSED)))
    (n_STRAIGHT : PySem.W.nsIn K mainGlobals "STRAIGHT" = some (some (.int 0 t_STRAIGHT)))
    : ∃ fd : FuncData, (∀ (s : Shared) (v : Value), BindsTo s fd ⟨[v], []⟩ [("script", v)]) ∧ ∀ base : Heap, K.In base → base.Ns mainGlobals mg → FnOk l.prog w K mg base CX0 7 fa fd ["script"] (spLaw K) := by
  have e := hfa.symm.trans (PySem.W.mg_of X G a_law)
  cases e
  let T : Top K mg := {
    f__law_pool := f__law_pool, d__law_pool := _, F__law_pool := fun_mk (st := s_Lpool) l__law_pool c__law_pool k__law_pool, m__law_pool := PySem.W.mg_of X G a__law_pool, b__law_pool := (fun_mk (st := s_Lpool) l__law_pool c__law_pool k__law_pool).binds (ps := ["script"]) (fun _ _ _ _ _ _ us hl => match us, hl with | [_], _ => rfl),
    f__law_mixed := f__law_mixed, d__law_mixed := _, F__law_mixed := fun_mk (st := s_Lmixed) l__law_mixed c__law_mixed k__law_mixed, m__law_mixed := PySem.W.mg_of X G a__law_mixed, b__law_mixed := (fun_mk (st := s_Lmixed) l__law_mixed c__law_mixed k__law_mixed).binds (ps := ["number", "turn", "many"]) (fun _ _ _ _ _ _ us hl => match us, hl with | [_, _, _], _ => rfl),
    f__law_take := f__law_take, d__law_take := _, F__law_take := fun_mk (st := s_Ltake) l__law_take c__law_take k__law_take, m__law_take := PySem.W.mg_of X G a__law_take, b__law_take := (fun_mk (st := s_Ltake) l__law_take c__law_take k__law_take).binds (ps := ["pool", "many"]) (fun _ _ _ _ _ _ us hl => match us, hl with | [_, _], _ => rfl),
    f__law_wrong_settings := f__law_wrong_settings, d__law_wrong_settings := _, F__law_wrong_settings := fun_mk (st := s_Lwrong_settings) l__law_wrong_settings c__law_wrong_settings k__law_wrong_settings, m__law_wrong_settings := PySem.W.mg_of X G a__law_wrong_settings, b__law_wrong_settings := (fun_mk (st := s_Lwrong_settings) l__law_wrong_settings c__law_wrong_settings k__law_wrong_settings).binds (ps := ["pool", "many", "settings"]) (fun _ _ _ _ _ _ us hl => match us, hl with | [_, _, _], _ => rfl),
    f__law_same := f__law_same, d__law_same := _, F__law_same := fun_mk (st := s_Lsame) l__law_same c__law_same k__law_same, m__law_same := PySem.W.mg_of X G a__law_same, b__law_same := (fun_mk (st := s_Lsame) l__law_same c__law_same k__law_same).binds (ps := ["actual", "due"]) (fun _ _ _ _ _ _ us hl => match us, hl with | [_, _], _ => rfl),
    f_switch_places := f_switch_places, d_switch_places := _, F_switch_places := fun_mk (st := s_switch_places) l_switch_places c_switch_places k_switch_places, m_switch_places := PySem.W.mg_of X G a_switch_places, b_switch_places := (fun_mk (st := s_switch_places) l_switch_places c_switch_places k_switch_places).binds (ps := ["many"]) (fun _ _ _ _ _ _ us hl => match us, hl with | [_], _ => rfl),
    f__exchanged := f__exchanged, d__exchanged := _, F__exchanged := fun_mk (st := s__exchanged) l__exchanged c__exchanged k__exchanged, m__exchanged := PySem.W.mg_of X G a__exchanged, b__exchanged := (fun_mk (st := s__exchanged) l__exchanged c__exchanged k__exchanged).binds (ps := ["row", "switches"]) (fun _ _ _ _ _ _ us hl => match us, hl with | [_, _], _ => rfl),
    f_settings_for := f_settings_for, d_settings_for := _, F_settings_for := fun_mk (st := s_settings_for) l_settings_for c_settings_for k_settings_for, m_settings_for := PySem.W.mg_of X G a_settings_for, b_settings_for := (fun_mk (st := s_settings_for) l_settings_for c_settings_for k_settings_for).binds (ps := ["places"]) (fun _ _ _ _ _ _ us hl => match us, hl with | [_], _ => rfl),
    f__law_wrong_orders := f__law_wrong_orders, d__law_wrong_orders := _, F__law_wrong_orders := fun_mk (st := s_Lwrong_orders) l__law_wrong_orders c__law_wrong_orders k__law_wrong_orders, m__law_wrong_orders := PySem.W.mg_of X G a__law_wrong_orders, b__law_wrong_orders := (fun_mk (st := s_Lwrong_orders) l__law_wrong_orders c__law_wrong_orders k__law_wrong_orders).binds (ps := ["pool", "order"]) (fun _ _ _ _ _ _ us hl => match us, hl with | [_, _], _ => rfl),
    f_is_tuple_of := f_is_tuple_of, d_is_tuple_of := _, F_is_tuple_of := fun_mk (st := s_is_tuple_of) l_is_tuple_of c_is_tuple_of k_is_tuple_of, m_is_tuple_of := PySem.W.mg_of X G a_is_tuple_of, b_is_tuple_of := (fun_mk (st := s_is_tuple_of) l_is_tuple_of c_is_tuple_of k_is_tuple_of).binds (ps := ["length", "value"]) (fun _ _ _ _ _ _ us hl => match us, hl with | [_, _], _ => rfl),
    f_is_residue := f_is_residue, d_is_residue := _, F_is_residue := fun_mk (st := s_is_residue) l_is_residue c_is_residue k_is_residue, m_is_residue := PySem.W.mg_of X G a_is_residue, b_is_residue := (fun_mk (st := s_is_residue) l_is_residue c_is_residue k_is_residue).binds (ps := ["q", "value"]) (fun _ _ _ _ _ _ us hl => match us, hl with | [_, _], _ => rfl),
    f_is_residue_row := f_is_residue_row, d_is_residue_row := _, F_is_residue_row := fun_mk (st := s_is_residue_row) l_is_residue_row c_is_residue_row k_is_residue_row, m_is_residue_row := PySem.W.mg_of X G a_is_residue_row, b_is_residue_row := (fun_mk (st := s_is_residue_row) l_is_residue_row c_is_residue_row k_is_residue_row).binds (ps := ["q", "length", "value"]) (fun _ _ _ _ _ _ us hl => match us, hl with | [_, _, _], _ => rfl),
    f__count_switches := f__count_switches, d__count_switches := _, F__count_switches := fun_mk (st := s__count_switches) l__count_switches c__count_switches k__count_switches, m__count_switches := PySem.W.mg_of X G a__count_switches, b__count_switches := (fun_mk (st := s__count_switches) l__count_switches c__count_switches k__count_switches).binds (ps := ["many"]) (fun _ _ _ _ _ _ us hl => match us, hl with | [_], _ => rfl),
    f__check_settings := f__check_settings, d__check_settings := _, F__check_settings := fun_mk (st := s__check_settings) l__check_settings c__check_settings k__check_settings, m__check_settings := PySem.W.mg_of X G a__check_settings, b__check_settings := (fun_mk (st := s__check_settings) l__check_settings c__check_settings k__check_settings).binds (ps := ["many", "settings"]) (fun _ _ _ _ _ _ us hl => match us, hl with | [_, _], _ => rfl),
    f__by_layer := f__by_layer, d__by_layer := _, F__by_layer := fun_mk (st := s__by_layer) l__by_layer c__by_layer k__by_layer, m__by_layer := PySem.W.mg_of X G a__by_layer, b__by_layer := (fun_mk (st := s__by_layer) l__by_layer c__by_layer k__by_layer).binds (ps := ["many", "items"]) (fun _ _ _ _ _ _ us hl => match us, hl with | [_, _], _ => rfl),
    f_source_places := f_source_places, d_source_places := _, F_source_places := fun_mk (st := s_source_places) l_source_places c_source_places k_source_places, m_source_places := PySem.W.mg_of X G a_source_places, b_source_places := (fun_mk (st := s_source_places) l_source_places c_source_places k_source_places).binds (ps := ["many", "settings"]) (fun _ _ _ _ _ _ us hl => match us, hl with | [_, _], _ => rfl),
    f__law_switches := f__law_switches, d__law_switches := _, F__law_switches := fun_mk (st := s_Lswitches) l__law_switches c__law_switches k__law_switches, m__law_switches := PySem.W.mg_of X G a__law_switches, b__law_switches := (fun_mk (st := s_Lswitches) l__law_switches c__law_switches k__law_switches).binds (ps := ["many"]) (fun _ _ _ _ _ _ us hl => match us, hl with | [_], _ => rfl),
    f__law_sources := f__law_sources, d__law_sources := _, F__law_sources := fun_mk (st := s_Lsources) l__law_sources c__law_sources k__law_sources, m__law_sources := PySem.W.mg_of X G a__law_sources, b__law_sources := (fun_mk (st := s_Lsources) l__law_sources c__law_sources k__law_sources).binds (ps := ["many", "settings"]) (fun _ _ _ _ _ _ us hl => match us, hl with | [_, _], _ => rfl),
    f__law_refused := f__law_refused, d__law_refused := _, F__law_refused := fun_mk (st := s_Lrefused) l__law_refused c__law_refused k__law_refused, m__law_refused := PySem.W.mg_of X G a__law_refused, b__law_refused := (fun_mk (st := s_Lrefused) l__law_refused c__law_refused k__law_refused).binds (ps := ["many", "value", "which"]) (fun _ _ _ _ _ _ us hl => match us, hl with | [_, _, _], _ => rfl),
    f__law_goals := f__law_goals, d__law_goals := _, F__law_goals := fun_mk (st := s_Lgoals) l__law_goals c__law_goals k__law_goals, m__law_goals := PySem.W.mg_of X G a__law_goals, b__law_goals := (fun_mk (st := s_Lgoals) l__law_goals c__law_goals k__law_goals).binds (ps := ["sources"]) (fun _ _ _ _ _ _ us hl => match us, hl with | [_], _ => rfl),
    f_law := fa, d_law := _, F_law := fun_mk (st := s_law) l_law c_law k_law, m_law := PySem.W.mg_of X G a_law, b_law := (fun_mk (st := s_law) l_law c_law k_law).binds (ps := ["script"]) (fun _ _ _ _ _ _ us hl => match us, hl with | [_], _ => rfl),
    k_settings_for_0_places := fun_kbinds (fun_mk (st := s_settings_for) l_settings_for c_settings_for k_settings_for) g_settings_for_0_places_rel (fun _ _ _ _ _ _ us ws hl => match us, ws, hl with | [], [_], _ => rfl),
    k_source_places_0_many_settings := fun_kbinds (fun_mk (st := s_source_places) l_source_places c_source_places k_source_places) g_source_places_0_many_settings_rel (fun _ _ _ _ _ _ us ws hl => match us, ws, hl with | [], [_, _], _ => rfl),
    k_switch_places_0_many := fun_kbinds (fun_mk (st := s_switch_places) l_switch_places c_switch_places k_switch_places) g_switch_places_0_many_rel (fun _ _ _ _ _ _ us ws hl => match us, ws, hl with | [], [_], _ => rfl),
    z_all := PySem.W.mg_none_of X G z_all,
    z_bool := PySem.W.mg_none_of X G z_bool,
    z_int := PySem.W.mg_none_of X G z_int,
    z_isinstance := PySem.W.mg_none_of X G z_isinstance,
    z_len := PySem.W.mg_none_of X G z_len,
    z_list := PySem.W.mg_none_of X G z_list,
    z_range := PySem.W.mg_none_of X G z_range,
    z_sorted := PySem.W.mg_none_of X G z_sorted,
    z_str := PySem.W.mg_none_of X G z_str,
    z_tuple := PySem.W.mg_none_of X G z_tuple,
    z_zip := PySem.W.mg_none_of X G z_zip,
    c_BadStatement := c_BadStatement,
    m_BadStatement := PySem.W.mg_of X G a_BadStatement,
    kc_BadStatement := kc_BadStatement,
    s_BadStatement := s_BadStatement,
    t_BadStatement := t_BadStatement,
    i_BadStatement := i_BadStatement,
    hd_BadStatement := hd_BadStatement,
    x_BadStatement := x_BadStatement,
    c_BadTape := c_BadTape,
    m_BadTape := PySem.W.mg_of X G a_BadTape,
    kc_BadTape := kc_BadTape,
    s_BadTape := s_BadTape,
    t_BadTape := t_BadTape,
    i_BadTape := i_BadTape,
    hd_BadTape := hd_BadTape,
    x_BadTape := x_BadTape,
    c_HushError := c_HushError,
    m_HushError := PySem.W.mg_of X G a_HushError,
    kc_HushError := kc_HushError,
    s_HushError := s_HushError,
    t_HushError := t_HushError,
    i_HushError := i_HushError,
    hd_HushError := hd_HushError,
    x_HushError := x_HushError,
    u_BadStatement_HushError := u_BadStatement_HushError,
    u_BadTape_HushError := u_BadTape_HushError,
    u_HushError_HushError := u_HushError_HushError,
    i_get := i_get,
    i_tk := i_tk,
    xg_BadStatement := xg_BadStatement,
    xk_BadStatement := xk_BadStatement,
    xa_BadStatement := xa_BadStatement,
    xm_BadStatement := xm_BadStatement,
    u_BadStatement_BadStatement := u_BadStatement_BadStatement,
    u_BadStatement_BadTape := u_BadStatement_BadTape,
    ine_x_BadStatement_BadTape := ine_x_BadStatement_BadTape,
    xg_BadTape := xg_BadTape,
    xk_BadTape := xk_BadTape,
    xa_BadTape := xa_BadTape,
    xm_BadTape := xm_BadTape,
    u_BadTape_BadStatement := u_BadTape_BadStatement,
    ine_x_BadTape_BadStatement := ine_x_BadTape_BadStatement,
    u_BadTape_BadTape := u_BadTape_BadTape,
    xg_HushError := xg_HushError,
    xk_HushError := xk_HushError,
    xa_HushError := xa_HushError,
    xm_HushError := xm_HushError,
    u_HushError_BadStatement := u_HushError_BadStatement,
    ine_x_HushError_BadStatement := ine_x_HushError_BadStatement,
    u_HushError_BadTape := u_HushError_BadTape,
    ine_x_HushError_BadTape := ine_x_HushError_BadTape,
    n_CROSSED := ⟨_, PySem.W.mg_of X G n_CROSSED⟩,
    n_STRAIGHT := ⟨_, PySem.W.mg_of X G n_STRAIGHT⟩ }
  refine ⟨T.d_law, fun s v => .of_eq rfl, fun base _ _ => ?_⟩
  exact ok_law T law_true
theorem walk {l : PySem.W.OpenLaw} {q : Program} {loose : List Str} {XP : (Str → Option Value) → Heap → Prop} {YP : World → Heap → Prop} {d : DefRec} {K : Params → PySem.W.Frag} (hn : l.most = some 63) (hdf : d.params.defaults = [])
    (hY : ∀ (w : World) (h : Heap), YP w h → (K w.params).In h)
    (F : ∀ (w : World) (mg : Str → Option Value) (fa : Addr) (h : Heap), (K w.params).In h → h.Ns mainGlobals mg → mg d.name = some (.ref fa) →
      ∃ fd : FuncData, (∀ (s : Shared) (u : Value), BindsTo s fd ⟨[u], []⟩ [("script", u)]) ∧ ∀ base : Heap, (K w.params).In base → base.Ns mainGlobals mg → FnOk l.prog w (K w.params) mg base CX0 7 fa fd ["script"] (spLaw (K w.params))) :
    PySem.W.WalkO q loose XP YP l.row.toRowW d [] (fun f vs => PySem.call f vs) :=
  L2.walk_of (n := 63) (k := 7) (x := "script") (CX := fun _ => CX0) (sp := fun w => spLaw (K w.params)) hn (by decide) hdf ⟨rfl, by decide, by decide⟩ hY F (fun _ _ a ns hl _ hS => ⟨a, ns, rfl, hS, hl, fun _ => rfl⟩) fun _ _ _ _ _ z => z
end Toy
namespace Hk
open PySem PySem.Spec PyProof.Rows L2
set_option maxRecDepth 100000 in
set_option maxHeartbeats 0 in
theorem facts {w : World} {K : PySem.W.Frag} {h : Heap} {mg : Str → Option Value} {f : Addr} (X : K.In h) (G : h.Ns mainGlobals mg) (hfa : mg ("law" : Str) = some (.ref f)) (c : Says fa dn K) :
    ∃ fd : FuncData, (∀ (s : Shared) (v : Value), BindsTo s fd ⟨[v], []⟩ [("script", v)]) ∧ ∀ base : Heap, K.In base → base.Ns mainGlobals mg → FnOk (PySem.Challenge.rw_hushpapers_k73_sources_and_settings).prog w K mg base CX0 7 f fd ["script"] (Toy.spLaw K) :=
  Toy.all_mk (l := PySem.Challenge.rw_hushpapers_k73_sources_and_settings) X G hfa
    (c.f (.glo "_law_pool") 0 rfl)
 (c.l (gl "_law_pool") "_law_pool" "_law_pool" Toy.s_Lpool 0 rfl)
 (c.c (gl "_law_pool") "_law_pool" "_law_pool" Toy.s_Lpool 0 rfl)
 (c.f (.keep (gl "_law_pool")) 1 rfl)
 (c.f (.glo "_law_mixed") 2 rfl)
 (c.l (gl "_law_mixed") "_law_mixed" "_law_mixed" Toy.s_Lmixed 1 rfl)
 (c.c (gl "_law_mixed") "_law_mixed" "_law_mixed" Toy.s_Lmixed 1 rfl)
 (c.f (.keep (gl "_law_mixed")) 3 rfl)
 (c.f (.glo "_law_take") 4 rfl)
 (c.l (gl "_law_take") "_law_take" "_law_take" Toy.s_Ltake 2 rfl)
 (c.c (gl "_law_take") "_law_take" "_law_take" Toy.s_Ltake 2 rfl)
 (c.f (.keep (gl "_law_take")) 5 rfl)
 (c.f (.glo "_law_wrong_settings") 6 rfl)
 (c.l (gl "_law_wrong_settings") "_law_wrong_settings" "_law_wrong_settings" Toy.s_Lwrong_settings 3 rfl)
 (c.c (gl "_law_wrong_settings") "_law_wrong_settings" "_law_wrong_settings" Toy.s_Lwrong_settings 3 rfl)
 (c.f (.keep (gl "_law_wrong_settings")) 7 rfl)
 (c.f (.glo "_law_same") 8 rfl)
 (c.l (gl "_law_same") "_law_same" "_law_same" Toy.s_Lsame 4 rfl)
 (c.c (gl "_law_same") "_law_same" "_law_same" Toy.s_Lsame 4 rfl)
 (c.f (.keep (gl "_law_same")) 9 rfl)
 (c.f (.glo "switch_places") 10 rfl)
 (c.l (gl "switch_places") "switch_places" "switch_places" Toy.s_switch_places 5 rfl)
 (c.c (gl "switch_places") "switch_places" "switch_places" Toy.s_switch_places 5 rfl)
 (c.f (.keep (gl "switch_places")) 11 rfl)
 (c.f (.glo "_exchanged") 12 rfl)
 (c.l (gl "_exchanged") "_exchanged" "_exchanged" Toy.s__exchanged 6 rfl)
 (c.c (gl "_exchanged") "_exchanged" "_exchanged" Toy.s__exchanged 6 rfl)
 (c.f (.keep (gl "_exchanged")) 13 rfl)
 (c.f (.glo "settings_for") 14 rfl)
 (c.l (gl "settings_for") "settings_for" "settings_for" Toy.s_settings_for 7 rfl)
 (c.c (gl "settings_for") "settings_for" "settings_for" Toy.s_settings_for 7 rfl)
 (c.f (.keep (gl "settings_for")) 15 rfl)
 (c.f (.glo "_law_wrong_orders") 16 rfl)
 (c.l (gl "_law_wrong_orders") "_law_wrong_orders" "_law_wrong_orders" Toy.s_Lwrong_orders 8 rfl)
 (c.c (gl "_law_wrong_orders") "_law_wrong_orders" "_law_wrong_orders" Toy.s_Lwrong_orders 8 rfl)
 (c.f (.keep (gl "_law_wrong_orders")) 17 rfl)
 (c.f (.glo "is_tuple_of") 18 rfl)
 (c.l (gl "is_tuple_of") "is_tuple_of" "is_tuple_of" Toy.s_is_tuple_of 9 rfl)
 (c.c (gl "is_tuple_of") "is_tuple_of" "is_tuple_of" Toy.s_is_tuple_of 9 rfl)
 (c.f (.keep (gl "is_tuple_of")) 19 rfl)
 (c.f (.glo "is_residue") 20 rfl)
 (c.l (gl "is_residue") "is_residue" "is_residue" Toy.s_is_residue 10 rfl)
 (c.c (gl "is_residue") "is_residue" "is_residue" Toy.s_is_residue 10 rfl)
 (c.f (.keep (gl "is_residue")) 21 rfl)
 (c.f (.glo "is_residue_row") 22 rfl)
 (c.l (gl "is_residue_row") "is_residue_row" "is_residue_row" Toy.s_is_residue_row 11 rfl)
 (c.c (gl "is_residue_row") "is_residue_row" "is_residue_row" Toy.s_is_residue_row 11 rfl)
 (c.f (.keep (gl "is_residue_row")) 23 rfl)
 (c.f (.glo "_count_switches") 24 rfl)
 (c.l (gl "_count_switches") "_count_switches" "_count_switches" Toy.s__count_switches 12 rfl)
 (c.c (gl "_count_switches") "_count_switches" "_count_switches" Toy.s__count_switches 12 rfl)
 (c.f (.keep (gl "_count_switches")) 25 rfl)
 (c.f (.glo "_check_settings") 26 rfl)
 (c.l (gl "_check_settings") "_check_settings" "_check_settings" Toy.s__check_settings 13 rfl)
 (c.c (gl "_check_settings") "_check_settings" "_check_settings" Toy.s__check_settings 13 rfl)
 (c.f (.keep (gl "_check_settings")) 27 rfl)
 (c.f (.glo "_by_layer") 28 rfl)
 (c.l (gl "_by_layer") "_by_layer" "_by_layer" Toy.s__by_layer 14 rfl)
 (c.c (gl "_by_layer") "_by_layer" "_by_layer" Toy.s__by_layer 14 rfl)
 (c.f (.keep (gl "_by_layer")) 29 rfl)
 (c.f (.glo "source_places") 30 rfl)
 (c.l (gl "source_places") "source_places" "source_places" Toy.s_source_places 15 rfl)
 (c.c (gl "source_places") "source_places" "source_places" Toy.s_source_places 15 rfl)
 (c.f (.keep (gl "source_places")) 31 rfl)
 (c.f (.glo "_law_switches") 32 rfl)
 (c.l (gl "_law_switches") "_law_switches" "_law_switches" Toy.s_Lswitches 16 rfl)
 (c.c (gl "_law_switches") "_law_switches" "_law_switches" Toy.s_Lswitches 16 rfl)
 (c.f (.keep (gl "_law_switches")) 33 rfl)
 (c.f (.glo "_law_sources") 34 rfl)
 (c.l (gl "_law_sources") "_law_sources" "_law_sources" Toy.s_Lsources 17 rfl)
 (c.c (gl "_law_sources") "_law_sources" "_law_sources" Toy.s_Lsources 17 rfl)
 (c.f (.keep (gl "_law_sources")) 35 rfl)
 (c.f (.glo "_law_refused") 36 rfl)
 (c.l (gl "_law_refused") "_law_refused" "_law_refused" Toy.s_Lrefused 18 rfl)
 (c.c (gl "_law_refused") "_law_refused" "_law_refused" Toy.s_Lrefused 18 rfl)
 (c.f (.keep (gl "_law_refused")) 37 rfl)
 (c.f (.glo "_law_goals") 38 rfl)
 (c.l (gl "_law_goals") "_law_goals" "_law_goals" Toy.s_Lgoals 19 rfl)
 (c.c (gl "_law_goals") "_law_goals" "_law_goals" Toy.s_Lgoals 19 rfl)
 (c.f (.keep (gl "_law_goals")) 39 rfl)
 (c.f (.glo "law") 40 rfl)
 (c.l (gl "law") "law" "law" Toy.s_law 20 rfl)
 (c.c (gl "law") "law" "law" Toy.s_law 20 rfl)
 (c.f (.keep (gl "law")) 41 rfl)
 (c.f (.free "all") 42 rfl)
 (c.f (.free "bool") 43 rfl)
 (c.f (.free "int") 44 rfl)
 (c.f (.free "isinstance") 45 rfl)
 (c.f (.free "len") 46 rfl)
 (c.f (.free "list") 47 rfl)
 (c.f (.free "range") 48 rfl)
 (c.f (.free "sorted") 49 rfl)
 (c.f (.free "str") 50 rfl)
 (c.f (.free "tuple") 51 rfl)
 (c.f (.free "zip") 52 rfl)
 (c.f (.glo "BadStatement") 53 rfl)
 (c.f (.keep (gl "BadStatement")) 54 rfl)
 (c.f (.sub "BadStatement") 55 rfl)
 (c.f (.typ (gl "BadStatement") "type") 56 rfl)
 (c.f (.isc "BadStatement") 57 rfl)
 (c.f (.hd "BadStatement") 58 rfl)
 (c.f (.exc "BadStatement") 59 rfl)
 (c.f (.glo "BadTape") 60 rfl)
 (c.f (.keep (gl "BadTape")) 61 rfl)
 (c.f (.sub "BadTape") 62 rfl)
 (c.f (.typ (gl "BadTape") "type") 63 rfl)
 (c.f (.isc "BadTape") 64 rfl)
 (c.f (.hd "BadTape") 65 rfl)
 (c.f (.exc "BadTape") 66 rfl)
 (c.f (.glo "HushError") 67 rfl)
 (c.f (.keep (gl "HushError")) 68 rfl)
 (c.f (.sub "HushError") 69 rfl)
 (c.f (.typ (gl "HushError") "type") 70 rfl)
 (c.f (.isc "HushError") 71 rfl)
 (c.f (.hd "HushError") 72 rfl)
 (c.f (.exc "HushError") 73 rfl)
 (c.f (.subr "BadStatement" "HushError" true) 74 rfl)
 (c.f (.subr "BadTape" "HushError" true) 75 rfl)
 (c.f (.subr "HushError" "HushError" true) 76 rfl)
 (c.f (.spec "object.__class__" "__get__" "getset_descriptor.__get__") 77 rfl)
 (c.f (.taks "object.__class__") 78 rfl)
 (c.f (.fbi "BadStatement" "__getattribute__" "BaseException.__getattribute__") 79 rfl)
 (c.f (.nof "BadStatement" "__getattr__") 80 rfl)
 (c.f (.fbi "BadStatement" "__class__" "object.__class__") 81 rfl)
 (c.f (.mrt "BadStatement" "object") 82 rfl)
 (c.f (.subr "BadStatement" "BadStatement" true) 83 rfl)
 (c.f (.subr "BadStatement" "BadTape" false) 84 rfl)
 (c.f (.ine "BadStatement" "BadTape") 85 rfl)
 (c.f (.fbi "BadTape" "__getattribute__" "BaseException.__getattribute__") 86 rfl)
 (c.f (.nof "BadTape" "__getattr__") 87 rfl)
 (c.f (.fbi "BadTape" "__class__" "object.__class__") 88 rfl)
 (c.f (.mrt "BadTape" "object") 89 rfl)
 (c.f (.subr "BadTape" "BadStatement" false) 90 rfl)
 (c.f (.ine "BadTape" "BadStatement") 91 rfl)
 (c.f (.subr "BadTape" "BadTape" true) 92 rfl)
 (c.f (.fbi "HushError" "__getattribute__" "BaseException.__getattribute__") 93 rfl)
 (c.f (.nof "HushError" "__getattr__") 94 rfl)
 (c.f (.fbi "HushError" "__class__" "object.__class__") 95 rfl)
 (c.f (.mrt "HushError" "object") 96 rfl)
 (c.f (.subr "HushError" "BadStatement" false) 97 rfl)
 (c.f (.ine "HushError" "BadStatement") 98 rfl)
 (c.f (.subr "HushError" "BadTape" false) 99 rfl)
 (c.f (.ine "HushError" "BadTape") 100 rfl)
 (c.f (.int "CROSSED" 1) 101 rfl)
 (c.f (.int "STRAIGHT" 0) 102 rfl)
end Hk
open PySem PySem.W PySem.Calls PyProof.Rows
set_option maxRecDepth 100000 in
set_option maxHeartbeats 0 in
theorem PySem.Challenge.cw_hushpapers_k73_sources_and_settings_holds : PySem.Challenge.rw_hushpapers_k73_sources_and_settings.Holds := by
  w_on; o_law
  refine HandSHeadRun.head_any (r := OpenLaw.row PySem.Challenge.rw_hushpapers_k73_sources_and_settings) (q := view (OpenLaw.row PySem.Challenge.rw_hushpapers_k73_sources_and_settings).prog [29]) (H := Hk.hkk) (ob := Hk.ob) (M := 8000) (loose := Hk.nm) (d := HandSHeadRun.topDef (OpenLaw.row PySem.Challenge.rw_hushpapers_k73_sources_and_settings).prog 29) (kwd := []) Hk.ob_eq
    (by kernel_rfl) (fun s => by kernel_rfl) Hk.run (by kernel_rfl) (by kernel_rfl) (by kernel_rfl) (by rfl) (by first | assumption | decide +kernel) (by decide +kernel) ⟨rfl, rfl, rfl, rfl, rfl, by decide +kernel⟩ ?hw ?hc
  case hw => w_witness2
  case hc =>
    refine L2.walk_ofE (l := PySem.Challenge.rw_hushpapers_k73_sources_and_settings) (n := 63) (k := 7) (x := "script") (CX := L2.CX0) rfl (by decide) (by kernel_rfl) ⟨rfl, by decide, by decide⟩ ?F (fun _ _ _ _ z => z)
    intro w mg fa h Y G hmg0
    obtain ⟨K, KX, c⟩ := Y
    have hmg : mg ("law" : PySem.Str) = some (.ref fa) := by
      have e : (HandSHeadRun.topDef (OpenLaw.row PySem.Challenge.rw_hushpapers_k73_sources_and_settings).prog 29).name = ("law" : PySem.Str) := by kernel_rfl
      rw [← e]
      exact hmg0
    obtain ⟨fd, hb, hF⟩ := Hk.facts (w := w) KX G hmg c
    exact ⟨K, fd, Toy.spLaw K, KX, hb, fun H a ns hl _ hS => ⟨a, ns, rfl, hS, hl, fun _ => rfl⟩, hF⟩
