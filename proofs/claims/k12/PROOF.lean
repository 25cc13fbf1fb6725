import PyProof.Rows.All
import Wide.All
import OpenK.AllK
import Wide.FinOn
import HandS.ForMost
import HandS.ForExc
import HandS.IsInst
import HandS.Evl
import HandS.Walk
import HandS.Deep
import HandS.HeadHook4
import HandS.Head2
import HandS.HeadEnd
import HandS.HeadWalk
import HandS.Wide
import HandS.CallLocal
import HandS.ExcCtx
import HandS.HotCalls
import HandS.SuiteRaise
import HandS.ExcInitHot
import HandS.ExcField
import HandS.Lambda
import KE.KIsAll
import HandS.TupAny
import HandS.Style
import HandS.Strs
import HandS.CallSlots
import HandS.Zip
import HandS.Comp
import HandS.DictComp
import PyProof.CompUse
import HandS.SortKw
import HandS.SortInts
import HandS.WordsDict
import PyProof.Rows.SortShellAny
import HandS.More
import HandS.Conv
import HandS.Flow
import HandS.Small
import HandS.StrMore
import HandS.StrSplit
import HandS.ExcIs
import HandS.Words
import HandS.ExcInit
import KE.SortKeyHeap
import HandS.NestedK
import HandS.ReplaceLit
import HandS.ReplaceList
import HandS.Text
import PyProof.DictUpdate
import PyProof.DictDisplay
import KE.IntTextText
import PyProof.Rows.StrIntSpec
import PyProof.Rows.StrBin
import PySem.Challenge.RW_boundstone_k12_disk_of_files
set_option Elab.async false
set_option linter.all false
set_option maxRecDepth 100000
set_option maxHeartbeats 8000000
/-! Q0: what the head asks of a text -/
namespace Q
open PySem L2 Evl
abbrev Frag := PySem.W.Frag
/-- values: lists that nobody changes are values (lst; rol: the script); exc: a caught exception -/
inductive W where
  | non | bl (b : Bool) | int (i : Int) | str (x : Str) | tup (ws : List W) | lst (ws : List W) | rol (ws : List W) | ref (a : Addr) | fn (x : Str) | exc (a : Addr) (d : Option Addr) (c : Str) (fs : List (Str × W))
def noLst (K : Frag) : Bool := K.all fun q => match q.2.cls with
  | .type c => !decide (c = "list")
  | _ => true
def inCls (s : Stmt) (j : Nat) : Stmt := match s with
  | .ClassDef _ _ _ b _ _ _ _ _ _ _ => b.getD j (.Pass ⟨0, 0, 0, 0⟩)
  | _ => .Pass ⟨0, 0, 0, 0⟩
end Q
namespace Q
open PySem PySem.Spec PyProof.Rows L2 Evl
/-- isinstance of an error of the class x by the class y -/
def isfB (K : Frag) (x y : Str) (b : Bool) : Bool :=
  decide (PySem.W.findIn K (.ref (He.ga K x)) "__getattribute__" = some (some (.builtin "BaseException.__getattribute__")))
  && (decide (PySem.W.findIn K (.ref (He.ga K x)) "__getattr__" = some none)
  && (decide (PySem.W.subIn K (.ref (He.ga K x)) (.type "BaseException") = some true)
  && (PySem.W.hasDictIn K (He.ga K x)
  && (decide (PySem.W.findIn K (.ref (He.ga K x)) "__class__" = some (some (.builtin "object.__class__")))
  && (decide (PySem.W.specialIn K (.builtin "object.__class__") "__get__" = some (some (.builtin "getset_descriptor.__get__")))
  && (decide (PySem.W.takesIn K (.builtin "object.__class__") = some true)
  && (decide (PySem.W.mroIn K (He.ga K x) (.type "object") = some true)
  && decide (PySem.W.kitOne K (.ref (He.ga K x)) (.ref (He.ga K y)) = some b))))))))
end Q
namespace K12
open PySem PySem.Spec PyProof.Rows L2 Evl Q
def top (i : Nat) : Stmt := PySem.Challenge.pw_boundstone_k12_disk_of_files.main.body.getD i (.Pass ⟨0, 0, 0, 0⟩)
abbrev s_is_name : Stmt := top 6
abbrev s_Disk___init__ : Stmt := inCls (top 7) 0
abbrev s_Disk_names : Stmt := inCls (top 7) 1
abbrev s_Disk__check_up : Stmt := inCls (top 7) 10
abbrev s_Disk__check_file : Stmt := inCls (top 7) 11
abbrev s_Disk_read : Stmt := inCls (top 7) 2
abbrev s_Disk__operate : Stmt := inCls (top 7) 12
abbrev s_Disk_append : Stmt := inCls (top 7) 3
abbrev s_Disk_sync : Stmt := inCls (top 7) 4
abbrev s_Disk_remove : Stmt := inCls (top 7) 5
abbrev s_Disk_rename : Stmt := inCls (top 7) 6
abbrev s_Disk_pending : Stmt := inCls (top 7) 7
abbrev s_Disk_arm : Stmt := inCls (top 7) 8
abbrev s_Disk_crash : Stmt := inCls (top 7) 9
abbrev s__law_cell : Stmt := top 9
abbrev s__law_name : Stmt := top 10
abbrev s__law_keeps : Stmt := top 11
abbrev s__law_act : Stmt := top 12
abbrev s__law_good : Stmt := top 13
abbrev s__law_crash : Stmt := top 14
abbrev s__law_passes : Stmt := top 15
abbrev s__law_valid : Stmt := top 16
abbrev s__law_change : Stmt := top 17
abbrev s__law_expect : Stmt := top 18
abbrev s__law_deed : Stmt := top 19
abbrev s__law_agrees : Stmt := top 20
abbrev s_law : Stmt := top 21
/-! ### the head: the top runs -/
def d_is_name : He.DefD := ⟨("is_name", none), "is_name", "is_name", defArgs s_is_name, defBody s_is_name, defScope s_is_name, [], []⟩
def d__law_cell : He.DefD := ⟨("_law_cell", none), "_law_cell", "_law_cell", defArgs s__law_cell, defBody s__law_cell, defScope s__law_cell, [], []⟩
def d__law_name : He.DefD := ⟨("_law_name", none), "_law_name", "_law_name", defArgs s__law_name, defBody s__law_name, defScope s__law_name, [], []⟩
def d__law_keeps : He.DefD := ⟨("_law_keeps", none), "_law_keeps", "_law_keeps", defArgs s__law_keeps, defBody s__law_keeps, defScope s__law_keeps, [], []⟩
def d__law_act : He.DefD := ⟨("_law_act", none), "_law_act", "_law_act", defArgs s__law_act, defBody s__law_act, defScope s__law_act, [], []⟩
def d__law_good : He.DefD := ⟨("_law_good", none), "_law_good", "_law_good", defArgs s__law_good, defBody s__law_good, defScope s__law_good, [], []⟩
def d__law_crash : He.DefD := ⟨("_law_crash", none), "_law_crash", "_law_crash", defArgs s__law_crash, defBody s__law_crash, defScope s__law_crash, [], []⟩
def d__law_passes : He.DefD := ⟨("_law_passes", none), "_law_passes", "_law_passes", defArgs s__law_passes, defBody s__law_passes, defScope s__law_passes, [], []⟩
def d__law_valid : He.DefD := ⟨("_law_valid", none), "_law_valid", "_law_valid", defArgs s__law_valid, defBody s__law_valid, defScope s__law_valid, [], []⟩
def d__law_change : He.DefD := ⟨("_law_change", none), "_law_change", "_law_change", defArgs s__law_change, defBody s__law_change, defScope s__law_change, [], []⟩
def d__law_expect : He.DefD := ⟨("_law_expect", none), "_law_expect", "_law_expect", defArgs s__law_expect, defBody s__law_expect, defScope s__law_expect, [], []⟩
def d__law_deed : He.DefD := ⟨("_law_deed", none), "_law_deed", "_law_deed", defArgs s__law_deed, defBody s__law_deed, defScope s__law_deed, [], []⟩
def d__law_agrees : He.DefD := ⟨("_law_agrees", none), "_law_agrees", "_law_agrees", defArgs s__law_agrees, defBody s__law_agrees, defScope s__law_agrees, [], []⟩
def d_law : He.DefD := ⟨("law", none), "law", "law", defArgs s_law, defBody s_law, defScope s_law, [], []⟩
def d_Disk___init__ : He.DefD := ⟨("Disk", some "__init__"), "__init__", "Disk.__init__", defArgs s_Disk___init__, defBody s_Disk___init__, defScope s_Disk___init__, [], []⟩
def d_Disk_names : He.DefD := ⟨("Disk", some "names"), "names", "Disk.names", defArgs s_Disk_names, defBody s_Disk_names, defScope s_Disk_names, [], []⟩
def d_Disk__check_up : He.DefD := ⟨("Disk", some "_check_up"), "_check_up", "Disk._check_up", defArgs s_Disk__check_up, defBody s_Disk__check_up, defScope s_Disk__check_up, [], []⟩
def d_Disk__check_file : He.DefD := ⟨("Disk", some "_check_file"), "_check_file", "Disk._check_file", defArgs s_Disk__check_file, defBody s_Disk__check_file, defScope s_Disk__check_file, [], []⟩
def d_Disk_read : He.DefD := ⟨("Disk", some "read"), "read", "Disk.read", defArgs s_Disk_read, defBody s_Disk_read, defScope s_Disk_read, [], []⟩
def d_Disk__operate : He.DefD := ⟨("Disk", some "_operate"), "_operate", "Disk._operate", defArgs s_Disk__operate, defBody s_Disk__operate, defScope s_Disk__operate, [], []⟩
def d_Disk_append : He.DefD := ⟨("Disk", some "append"), "append", "Disk.append", defArgs s_Disk_append, defBody s_Disk_append, defScope s_Disk_append, [], []⟩
def d_Disk_sync : He.DefD := ⟨("Disk", some "sync"), "sync", "Disk.sync", defArgs s_Disk_sync, defBody s_Disk_sync, defScope s_Disk_sync, [], []⟩
def d_Disk_remove : He.DefD := ⟨("Disk", some "remove"), "remove", "Disk.remove", defArgs s_Disk_remove, defBody s_Disk_remove, defScope s_Disk_remove, [], []⟩
def d_Disk_rename : He.DefD := ⟨("Disk", some "rename"), "rename", "Disk.rename", defArgs s_Disk_rename, defBody s_Disk_rename, defScope s_Disk_rename, [], []⟩
def d_Disk_pending : He.DefD := ⟨("Disk", some "pending"), "pending", "Disk.pending", defArgs s_Disk_pending, defBody s_Disk_pending, defScope s_Disk_pending, [], []⟩
def d_Disk_arm : He.DefD := ⟨("Disk", some "arm"), "arm", "Disk.arm", defArgs s_Disk_arm, defBody s_Disk_arm, defScope s_Disk_arm, [], []⟩
def d_Disk_crash : He.DefD := ⟨("Disk", some "crash"), "crash", "Disk.crash", defArgs s_Disk_crash, defBody s_Disk_crash, defScope s_Disk_crash, [], []⟩
def fn : List He.DefD := [d_is_name, d__law_cell, d__law_name, d__law_keeps, d__law_act, d__law_good, d__law_crash, d__law_passes, d__law_valid, d__law_change, d__law_expect, d__law_deed, d__law_agrees, d_law, d_Disk___init__, d_Disk_names, d_Disk__check_up, d_Disk__check_file, d_Disk_read, d_Disk__operate, d_Disk_append, d_Disk_sync, d_Disk_remove, d_Disk_rename, d_Disk_pending, d_Disk_arm, d_Disk_crash]
def fa : List He.Fa := [.glo "is_name", .glo "_law_cell", .glo "_law_name", .glo "_law_keeps", .glo "_law_act", .glo "_law_good", .glo "_law_crash", .glo "_law_passes", .glo "_law_valid", .glo "_law_change", .glo "_law_expect", .glo "_law_deed", .glo "_law_agrees", .glo "law", .glo "Disk", .glo "TableError", .glo "DiskError", .glo "DiskCrashed", .free "len", .free "isinstance", .free "str", .free "sorted", .free "max", .free "int", .free "range", .free "list", .free "bool", .int "MOST_NAME" 20, .exc "DiskCrashed", .exc "DiskError", .exm "TableError" "DiskError" false, .exm "DiskError" "DiskError" true, .exm "DiskCrashed" "DiskError" false, .exm "TableError" "DiskCrashed" false, .exm "DiskError" "DiskCrashed" false, .exm "DiskCrashed" "DiskCrashed" true, .cls "Disk", .noat "Disk" "_files", .noat "Disk" "_left", .noat "Disk" "_crashed", .meth "Disk" "names", .meth "Disk" "_check_up", .meth "Disk" "_check_file", .meth "Disk" "read", .meth "Disk" "_operate", .meth "Disk" "append", .meth "Disk" "sync", .meth "Disk" "remove", .meth "Disk" "rename", .meth "Disk" "pending", .meth "Disk" "arm", .meth "Disk" "crash", .mkr "Disk"]
def ts : List He.Tab := []
def ex (K : Frag) : Bool := noLst K
 && isfB K "DiskCrashed" "DiskError" false
abbrev R : PySem.W.OpenRow := PySem.W.OpenLaw.row PySem.Challenge.rw_boundstone_k12_disk_of_files
abbrev hk : PySem.W.Hook := He.hookX 5 fa fn ts [] ex
def ob (s : PySem.W.SharedT) : He.AlX := He.obsX 5 fa fn ts [] ex (HandSHeadRun.getT s)
theorem ob_eq (s : PySem.W.SharedT) : ob s = hk.obs s.abs := He.obsX_eq (HandSHeadRun.getT_eq s)
def loose : List PySem.Str := (["is_name", "_law_cell", "_law_name", "_law_keeps", "_law_act", "_law_good", "_law_crash", "_law_passes", "_law_valid", "_law_change", "_law_expect", "_law_deed", "_law_agrees", "TableError", "DiskError", "DiskCrashed", "MOST_NAME", "Disk"] : List PySem.Str)
theorem run (w : World) : HandSHeadRun.RunEq R (PySem.W.view R.prog [21]) hk ob 8000 loose w := by
  intro os
  kernel_rfl
end K12
/-! Q: programs as functions over values and a store; what is tracked may change, all else stands. -/
namespace Q
open PySem L2 Evl
abbrev Rho := List (Option W)
/-- what is tracked: lists, dicts (int and text keys; rk, rt: while they are walked), dicts with tuple keys, instances -/
inductive O where
  | ls (ws : List W) | dk (kvs : List (Key × W)) | rk (kvs : List (Key × W)) | dt (kvs : List (List Key × W)) | ins (x : Str) (fs : List (Str × W)) | tb (p : Str × Option Str) (q : Str)
abbrev Mu := Addr → Option O
/-- a tuple of the text -/
def WrT (K : Frag) (a : Addr) (xs : List V) : Prop := ∃ (o : Obj) (its : Array Value) (n : Nat), K.lookup a = some o ∧ o.cls = .type "tuple" ∧ o.data = .seq its n ∧ its.size ≤ sizeLine ∧ Vals xs its.toList
def TupAt (K : Frag) (H : Hp) (μ : Mu) (a : Addr) (vs : List V) : Prop := (H a = some (.tup vs) ∧ μ a = none) ∨ WrT K a vs
def LstAt (H : Hp) (μ : Mu) (a : Addr) (vs : List V) : Prop := H a = some (.lst vs) ∧ μ a = none
def RolAt (H : Hp) (μ : Mu) (a : Addr) (vs : List V) : Prop := Rd H a (.lst vs) ∧ μ a = none
mutual
inductive Rw (K : Frag) (H : Hp) (μ : Mu) : V → W → Prop
  | non : Rw K H μ .non .non
  | bl (b : Bool) : Rw K H μ (.bl b) (.bl b)
  | int (i : Int) : Rw K H μ (.int i) (.int i)
  | str (x : Str) : Rw K H μ (.str x) (.str x)
  | ref (a : Addr) : Rw K H μ (.ref a) (.ref a)
  | fn (x : Str) : Rw K H μ (.ref (He.ga K x)) (.fn x)
  | tup {a : Addr} {vs : List V} {ws : List W} : TupAt K H μ a vs → RwAll K H μ vs ws → Rw K H μ (.ref a) (.tup ws)
  | lst {a : Addr} {vs : List V} {ws : List W} : LstAt H μ a vs → RwAll K H μ vs ws → Rw K H μ (.ref a) (.lst ws)
  | rol {a : Addr} {vs : List V} {ws : List W} : RolAt H μ a vs → RwAll K H μ vs ws → Rw K H μ (.ref a) (.rol ws)
  | exc {a : Addr} {c : Str} : Rw K H μ (.ref a) (.exc a none c [])
  | excf {a d : Addr} {c : Str} {fv : List (Str × V)} {fs : List (Str × W)} : H d = some (.xd fv) → μ d = none → RwF K H μ fv fs → Rw K H μ (.ref a) (.exc a (some d) c fs)
inductive RwAll (K : Frag) (H : Hp) (μ : Mu) : List V → List W → Prop
  | nil : RwAll K H μ [] []
  | cons {v : V} {vs : List V} {w : W} {ws : List W} : Rw K H μ v w → RwAll K H μ vs ws → RwAll K H μ (v :: vs) (w :: ws)
inductive RwF (K : Frag) (H : Hp) (μ : Mu) : List (Str × V) → List (Str × W) → Prop
  | nil : RwF K H μ [] []
  | cons {f : Str} {v : V} {vs : List (Str × V)} {w : W} {ws : List (Str × W)} : Rw K H μ v w → RwF K H μ vs ws → RwF K H μ ((f, v) :: vs) ((f, w) :: ws)
end
/-- from (μ, H) to (μ', H'): what was there and not tracked stands and is not tracked -/
structure Stp (μ : Mu) (H : Hp) (μ' : Mu) (H' : Hp) : Prop where
  st : ∀ a o, H a = some o → μ a = none → H' a = some o ∧ μ' a = none
  fz : ∀ a o u, H a = some (.frz o u) → H' a = some (.frz o u)
theorem Stp.refl (μ : Mu) (H : Hp) : Stp μ H μ H := ⟨fun _ _ h q => ⟨h, q⟩, fun _ _ _ h => h⟩
theorem Stp.trans {μ μ1 μ2 : Mu} {H H1 H2 : Hp} (a : Stp μ H μ1 H1) (b : Stp μ1 H1 μ2 H2) : Stp μ H μ2 H2 := ⟨fun c o h q => b.st c o (a.st c o h q).1 (a.st c o h q).2, fun c o u h => b.fz c o u (a.fz c o u h)⟩
/-- what is not tracked stands -/
abbrev Sto (μ : Mu) (H : Hp) (μ' : Mu) (H' : Hp) : Prop := ∀ a o, H a = some o → μ a = none → H' a = some o ∧ μ' a = none
theorem sto_rd {μ μ' : Mu} {H H' : Hp} (e : Sto μ H μ' H') {a : Addr} {u : HO} (h : Rd H a u) (q : μ a = none) : Rd H' a u ∧ μ' a = none := by
  rcases h with h | ⟨o, h⟩
  · exact ⟨.inl (e a _ h q).1, (e a _ h q).2⟩
  · exact ⟨.inr ⟨o, (e a _ h q).1⟩, (e a _ h q).2⟩
mutual
theorem Rw.sto {K : Frag} {μ μ' : Mu} {H H' : Hp} (e : Sto μ H μ' H') : ∀ {v : V} {w : W}, Rw K H μ v w → Rw K H' μ' v w
  | _, _, .non => .non
  | _, _, .bl b => .bl b
  | _, _, .int i => .int i
  | _, _, .str x => .str x
  | _, _, .ref a => .ref a
  | _, _, .fn x => .fn x
  | _, _, .tup (.inl h) hs => .tup (.inl (e _ _ h.1 h.2)) (RwAll.sto e hs)
  | _, _, .tup (.inr h) hs => .tup (.inr h) (RwAll.sto e hs)
  | _, _, .lst h hs => .lst (e _ _ h.1 h.2) (RwAll.sto e hs)
  | _, _, .rol h hs => .rol (sto_rd e h.1 h.2) (RwAll.sto e hs)
  | _, _, .exc => .exc
  | _, _, .excf h q hs => .excf (e _ _ h q).1 (e _ _ h q).2 (RwF.sto e hs)
theorem RwAll.sto {K : Frag} {μ μ' : Mu} {H H' : Hp} (e : Sto μ H μ' H') : ∀ {vs : List V} {ws : List W}, RwAll K H μ vs ws → RwAll K H' μ' vs ws
  | _, _, .nil => .nil
  | _, _, .cons h hs => .cons (Rw.sto e h) (RwAll.sto e hs)
theorem RwF.sto {K : Frag} {μ μ' : Mu} {H H' : Hp} (e : Sto μ H μ' H') : ∀ {vs : List (Str × V)} {ws : List (Str × W)}, RwF K H μ vs ws → RwF K H' μ' vs ws
  | _, _, .nil => .nil
  | _, _, .cons h hs => .cons (Rw.sto e h) (RwF.sto e hs)
end
theorem Rw.stp {K : Frag} {μ μ' : Mu} {H H' : Hp} (e : Stp μ H μ' H') {v : V} {w : W} (h : Rw K H μ v w) : Rw K H' μ' v w := h.sto e.st
theorem RwAll.stp {K : Frag} {μ μ' : Mu} {H H' : Hp} (e : Stp μ H μ' H') {v : List V} {w : List W} (h : RwAll K H μ v w) : RwAll K H' μ' v w := h.sto e.st
theorem RwF.stp {K : Frag} {μ μ' : Mu} {H H' : Hp} (e : Stp μ H μ' H') {v : List (Str × V)} {w : List (Str × W)} (h : RwF K H μ v w) : RwF K H' μ' v w := h.sto e.st
theorem RwAll.len {K : Frag} {H : Hp} {μ : Mu} : ∀ {vs : List V} {ws : List W}, RwAll K H μ vs ws → vs.length = ws.length
  | _, _, .nil => rfl
  | _, _, .cons _ hs => congrArg Nat.succ hs.len
theorem RwAll.at {K : Frag} {H : Hp} {μ : Mu} : ∀ {vs : List V} {ws : List W} (i : Nat) {w : W}, RwAll K H μ vs ws → ws[i]? = some w → ∃ v, vs[i]? = some v ∧ Rw K H μ v w
  | _, _, i, w, .nil, e => by simp at e
  | _, _, 0, w, .cons h _, e => by
    cases e
    exact ⟨_, rfl, h⟩
  | _, _, i + 1, w, .cons _ hs, e => RwAll.at i hs e
theorem RwAll.app {K : Frag} {H : Hp} {μ : Mu} : ∀ {vs us : List V} {ws xs : List W}, RwAll K H μ vs ws → RwAll K H μ us xs → RwAll K H μ (vs ++ us) (ws ++ xs)
  | _, _, _, _, .nil, g => g
  | _, _, _, _, .cons h hs, g => .cons h (RwAll.app hs g)
theorem RwAll.take {K : Frag} {H : Hp} {μ : Mu} : ∀ {vs : List V} {ws : List W} (n : Nat), RwAll K H μ vs ws → RwAll K H μ (vs.take n) (ws.take n)
  | _, _, 0, _ => .nil
  | _, _, _ + 1, .nil => .nil
  | _, _, n + 1, .cons h hs => .cons h (RwAll.take n hs)
theorem RwAll.drop {K : Frag} {H : Hp} {μ : Mu} : ∀ {vs : List V} {ws : List W} (n : Nat), RwAll K H μ vs ws → RwAll K H μ (vs.drop n) (ws.drop n)
  | _, _, 0, h => h
  | _, _, _ + 1, .nil => .nil
  | _, _, n + 1, .cons _ hs => RwAll.drop n hs
theorem RwAll.set {K : Frag} {H : Hp} {μ : Mu} {x : V} {y : W} (h : Rw K H μ x y) : ∀ {vs : List V} {ws : List W} (i : Nat), RwAll K H μ vs ws → RwAll K H μ (vs.set i x) (ws.set i y)
  | _, _, _, .nil => .nil
  | _, _, 0, .cons _ hs => .cons h hs
  | _, _, i + 1, .cons g hs => .cons g (RwAll.set h i hs)
theorem RwAll.erase {K : Frag} {H : Hp} {μ : Mu} : ∀ {vs : List V} {ws : List W} (i : Nat), RwAll K H μ vs ws → RwAll K H μ (vs.eraseIdx i) (ws.eraseIdx i)
  | _, _, _, .nil => .nil
  | _, _, 0, .cons _ hs => hs
  | _, _, i + 1, .cons g hs => .cons g (RwAll.erase i hs)
theorem RwAll.ins {K : Frag} {H : Hp} {μ : Mu} {x : V} {y : W} (h : Rw K H μ x y) : ∀ {vs : List V} {ws : List W} (i : Nat), RwAll K H μ vs ws → RwAll K H μ (vs.take i ++ x :: vs.drop i) (ws.take i ++ y :: ws.drop i) :=
  fun i r => (r.take i).app (.cons h (r.drop i))
theorem RwAll.one {K : Frag} {H : Hp} {μ : Mu} {vs : List V} {x : W} (h : RwAll K H μ vs [x]) : ∃ v, vs = [v] ∧ Rw K H μ v x := by
  cases h with
  | cons a b =>
    cases b
    exact ⟨_, rfl, a⟩
theorem RwAll.two {K : Frag} {H : Hp} {μ : Mu} {vs : List V} {x y : W} (h : RwAll K H μ vs [x, y]) : ∃ v w, vs = [v, w] ∧ Rw K H μ v x ∧ Rw K H μ w y := by
  cases h with
  | cons a b =>
    obtain ⟨w, rfl, c⟩ := RwAll.one b
    exact ⟨_, w, rfl, a, c⟩
theorem rw_ints {K : Frag} {H : Hp} {μ : Mu} : ∀ ns : List Int, RwAll K H μ (ns.map V.int) (ns.map W.int)
  | [] => .nil
  | i :: r => .cons (.int i) (rw_ints r)
theorem rw_strs {K : Frag} {H : Hp} {μ : Mu} : ∀ ns : List Str, RwAll K H μ (ns.map V.str) (ns.map W.str)
  | [] => .nil
  | i :: r => .cons (.str i) (rw_strs r)
theorem ints_of {K : Frag} {H : Hp} {μ : Mu} : ∀ {vs : List V} {ns : List Int}, RwAll K H μ vs (ns.map W.int) → vs = ns.map V.int
  | _, [], h => by
    cases h
    rfl
  | _, n :: r, h => by
    cases h with
    | cons a b =>
      cases a
      rw [ints_of b]
      rfl
/-- pairs with keys of any kind -/
inductive RwP (K : Frag) (H : Hp) (μ : Mu) {κ : Type} : List (κ × V) → List (κ × W) → Prop
  | nil : RwP K H μ [] []
  | cons {k : κ} {v : V} {vs : List (κ × V)} {w : W} {ws : List (κ × W)} : Rw K H μ v w → RwP K H μ vs ws → RwP K H μ ((k, v) :: vs) ((k, w) :: ws)
theorem RwP.sto {K : Frag} {μ μ' : Mu} {H H' : Hp} {κ : Type} (e : Sto μ H μ' H') : ∀ {vs : List (κ × V)} {ws : List (κ × W)}, RwP K H μ vs ws → RwP K H' μ' vs ws
  | _, _, .nil => .nil
  | _, _, .cons h hs => .cons (h.sto e) (RwP.sto e hs)
theorem RwP.stp {K : Frag} {μ μ' : Mu} {H H' : Hp} {κ : Type} (e : Stp μ H μ' H') {vs : List (κ × V)} {ws : List (κ × W)} (h : RwP K H μ vs ws) : RwP K H' μ' vs ws := h.sto e.st
theorem RwP.len {K : Frag} {H : Hp} {μ : Mu} {κ : Type} : ∀ {vs : List (κ × V)} {ws : List (κ × W)}, RwP K H μ vs ws → vs.length = ws.length
  | _, _, .nil => rfl
  | _, _, .cons _ hs => congrArg Nat.succ hs.len
theorem RwP.keys {K : Frag} {H : Hp} {μ : Mu} {κ : Type} : ∀ {vs : List (κ × V)} {ws : List (κ × W)}, RwP K H μ vs ws → vs.map (·.1) = ws.map (·.1)
  | _, _, .nil => rfl
  | _, _, .cons _ hs => congrArg _ hs.keys
def RelO (K : Frag) (H : Hp) (μ : Mu) (a : Addr) : O → Prop
  | .ls ws => ∃ vs, H a = some (.lst vs) ∧ RwAll K H μ vs ws
  | .dk kvs => ∃ kv, H a = some (.dK kv) ∧ RwP K H μ kv kvs
  | .rk kvs => ∃ o kv, H a = some (.frz o (.dK kv)) ∧ RwP K H μ kv kvs
  | .dt kvs => ∃ kv, H a = some (.dT kv) ∧ RwP K H μ kv kvs
  | .ins x fs => ∃ dx fv, H a = some (.ins (He.ga K x) dx fv) ∧ RwP K H μ fv fs
  | .tb p q => a = (He.cT K p).2 ∧ ∃ ps : Array Value, H a = some (.tbl ps) ∧ TriplesOk ps.toList ∧ ∀ (pos : Pos) (cv : Value), codeAmong pos ps.toList = some cv → ∃ c, cv = .ref c ∧ H c = some (LamX.CodeO c q) ∧ μ c = none
theorem RelO.sto {K : Frag} {μ μ' : Mu} {H H' : Hp} (e : Sto μ H μ' H') {a : Addr} {o : O} (q : H' a = H a) (h : RelO K H μ a o) : RelO K H' μ' a o := by
  cases o with
  | ls ws => exact h.imp fun vs h => ⟨q.trans h.1, h.2.sto e⟩
  | dk kvs => exact h.imp fun vs h => ⟨q.trans h.1, h.2.sto e⟩
  | rk kvs => exact h.imp fun o h => h.imp fun vs h => ⟨q.trans h.1, h.2.sto e⟩
  | dt kvs => exact h.imp fun vs h => ⟨q.trans h.1, h.2.sto e⟩
  | ins x fs => exact h.imp fun dx h => h.imp fun fv h => ⟨q.trans h.1, h.2.sto e⟩
  | tb p y =>
    obtain ⟨ea, ps, h1, h2, h3⟩ := h
    refine ⟨ea, ps, q.trans h1, h2, fun pos cv hc => ?_⟩
    obtain ⟨c, e1, e2, e3⟩ := h3 pos cv hc
    exact ⟨c, e1, e c _ e2 e3⟩
theorem RelO.stp {K : Frag} {μ μ' : Mu} {H H' : Hp} (e : Stp μ H μ' H') {a : Addr} {o : O} (q : H' a = H a) (h : RelO K H μ a o) : RelO K H' μ' a o := h.sto e.st q
theorem RelO.there {K : Frag} {H : Hp} {μ : Mu} {a : Addr} {o : O} (h : RelO K H μ a o) : ∃ u, H a = some u := by
  cases o with
  | ls ws => exact h.elim fun vs h => ⟨_, h.1⟩
  | dk kvs => exact h.elim fun vs h => ⟨_, h.1⟩
  | rk kvs => exact h.elim fun o h => h.elim fun vs h => ⟨_, h.1⟩
  | dt kvs => exact h.elim fun vs h => ⟨_, h.1⟩
  | ins x fs => exact h.elim fun dx h => h.elim fun vs h => ⟨_, h.1⟩
  | tb p y => exact h.elim fun ea h => h.elim fun ps h => ⟨_, h.1⟩
def Mem (K : Frag) (H : Hp) (μ : Mu) : Prop := ∀ a o, μ a = some o → RelO K H μ a o
theorem Mem.free {K : Frag} {H : Hp} {μ : Mu} (m : Mem K H μ) {p : Addr} (h : H p = none) : μ p = none := by
  cases q : μ p with
  | none => rfl
  | some o =>
    obtain ⟨u, hu⟩ := (m p o q).there
    rw [h] at hu
    cases hu
def mset (μ : Mu) (a : Addr) (o : O) : Mu := fun b => if b = a then some o else μ b
theorem mset_same {μ : Mu} {a : Addr} {o : O} : mset μ a o a = some o := if_pos rfl
theorem mset_ne {μ : Mu} {a b : Addr} {o : O} (h : b ≠ a) : mset μ a o b = μ b := if_neg h
theorem mset_mset {μ : Mu} {a : Addr} {o u : O} : mset (mset μ a o) a u = mset μ a u := by
  funext b
  unfold mset
  split <;> rfl
theorem mset_comm {μ : Mu} {a b : Addr} {o u : O} (h : a ≠ b) : mset (mset μ a o) b u = mset (mset μ b u) a o := by
  funext c
  unfold mset
  by_cases h1 : c = a
  · by_cases h2 : c = b
    · exact absurd (h1.symm.trans h2) h
    · rw [if_neg h2, if_pos h1, if_pos h1]
  · by_cases h2 : c = b
    · rw [if_pos h2, if_neg h1, if_pos h2]
    · rw [if_neg h2, if_neg h1, if_neg h1, if_neg h2]
theorem mset_self {μ : Mu} {a : Addr} {o : O} (h : μ a = some o) : mset μ a o = μ := by
  funext b
  unfold mset
  split
  · rename_i e
    rw [e, h]
  · rfl
/-- a new object that is not tracked -/
theorem Stp.new {μ : Mu} {H : Hp} {p : Addr} {u : HO} (h : H p = none) : Stp μ H μ (upd H p u) := ⟨fun a o q n => ⟨by rw [upd_ne (ne_of_none q h)]; exact q, n⟩, fun a o v q => by rw [upd_ne (ne_of_none q h)]; exact q⟩
theorem Stp.newT {μ : Mu} {H : Hp} {p : Addr} {u : HO} {o : O} (h : H p = none) : Stp μ H (mset μ p o) (upd H p u) := ⟨fun a x q n => ⟨by rw [upd_ne (ne_of_none q h)]; exact q, by rw [mset_ne (ne_of_none q h)]; exact n⟩, fun a o v q => by rw [upd_ne (ne_of_none q h)]; exact q⟩
/-- a tracked object is changed -/
def noFz (H : Hp) (a : Addr) : Prop := ∀ o u, H a ≠ some (.frz o u)
theorem Stp.put {μ : Mu} {H : Hp} {a : Addr} {u : HO} {o o' : O} (h : μ a = some o) (nf : noFz H a) : Stp μ H (mset μ a o') (upd H a u) := ⟨fun b x q n => by
  have ne : b ≠ a := fun e => by
    rw [e, h] at n
    cases n
  exact ⟨by rw [upd_ne ne]; exact q, by rw [mset_ne ne]; exact n⟩, fun b x v q => by
  have ne : b ≠ a := fun e => nf x v (by rw [← e]; exact q)
  rw [upd_ne ne]
  exact q⟩
theorem nf_lst {H : Hp} {a : Addr} {vs : List V} (h : H a = some (.lst vs)) : noFz H a := fun o u q => by
  rw [h] at q
  cases q
theorem nf_dk {H : Hp} {a : Addr} {vs : List (Key × V)} (h : H a = some (.dK vs)) : noFz H a := fun o u q => by
  rw [h] at q
  cases q
theorem nf_ins {H : Hp} {a C dx : Addr} {fs : List (Str × V)} (h : H a = some (.ins C dx fs)) : noFz H a := fun o u q => by
  rw [h] at q
  cases q
theorem Mem.sto {K : Frag} {H H' : Hp} {μ μ' : Mu} (m : Mem K H μ) (e : Sto μ H μ' H') (k : ∀ b o, μ' b = some o → (μ b = some o ∧ H' b = H b) ∨ RelO K H' μ' b o) : Mem K H' μ' := fun b o q => by
  rcases k b o q with ⟨q1, q2⟩ | r
  · exact (m b o q1).sto e q2
  · exact r
theorem Mem.step {K : Frag} {H H' : Hp} {μ μ' : Mu} (m : Mem K H μ) (e : Stp μ H μ' H') (k : ∀ b o, μ' b = some o → (μ b = some o ∧ H' b = H b) ∨ RelO K H' μ' b o) : Mem K H' μ' := m.sto e.st k
theorem Mem.new {K : Frag} {H : Hp} {μ : Mu} {p : Addr} {u : HO} (m : Mem K H μ) (h : H p = none) : Mem K (upd H p u) μ := m.step (Stp.new h) fun b o q => .inl ⟨q, upd_ne fun e => by
  rw [e, m.free h] at q
  cases q⟩
theorem Mem.put {K : Frag} {H : Hp} {μ : Mu} {a : Addr} {u : HO} {o : O} (m : Mem K H μ) (e : Stp μ H (mset μ a o) (upd H a u)) (r : RelO K (upd H a u) (mset μ a o) a o) : Mem K (upd H a u) (mset μ a o) := m.step e fun b x q => by
  by_cases hb : b = a
  · subst hb
    rw [mset_same] at q
    cases q
    exact .inr r
  · rw [mset_ne hb] at q
    exact .inl ⟨q, upd_ne hb⟩
/-! slots -/
def Holds (K : Frag) (H : Hp) (μ : Mu) (σ : L2.St) (ρ : Rho) : Prop := σ.length = ρ.length ∧ ∀ (i : Nat) (d : W), ρ[i]? = some (some d) → ∃ v, σ[i]? = some (some v) ∧ Rw K H μ v d
theorem Holds.sto {K : Frag} {H H' : Hp} {μ μ' : Mu} {σ : L2.St} {ρ : Rho} (e : Sto μ H μ' H') (h : Holds K H μ σ ρ) : Holds K H' μ' σ ρ :=
  ⟨h.1, fun i d q => (h.2 i d q).imp fun _ z => ⟨z.1, z.2.sto e⟩⟩
theorem Holds.stp {K : Frag} {H H' : Hp} {μ μ' : Mu} {σ : L2.St} {ρ : Rho} (e : Stp μ H μ' H') (h : Holds K H μ σ ρ) : Holds K H' μ' σ ρ := h.sto e.st
theorem Holds.put {K : Frag} {H : Hp} {μ : Mu} {σ : L2.St} {ρ : Rho} {v : V} {d : W} (i : Nat) (h : Holds K H μ σ ρ) (hv : Rw K H μ v d) : Holds K H μ (σ.set i (some v)) (ρ.set i (some d)) := by
  refine ⟨by rw [List.length_set, List.length_set, h.1], fun j e q => ?_⟩
  rw [List.getElem?_set] at q ⊢
  by_cases hij : i = j
  · subst hij
    rw [if_pos rfl] at q ⊢
    rw [h.1]
    by_cases hl : i < ρ.length
    · rw [if_pos hl] at q ⊢
      cases q
      exact ⟨v, rfl, hv⟩
    · rw [if_neg hl] at q
      cases q
  · rw [if_neg hij] at q ⊢
    exact h.2 j e q
theorem Holds.hide {K : Frag} {H : Hp} {μ : Mu} {σ : L2.St} {ρ : Rho} {v : Option V} (i : Nat) (h : Holds K H μ σ ρ) : Holds K H μ (σ.set i v) (ρ.set i none) := by
  refine ⟨by rw [List.length_set, List.length_set, h.1], fun j e q => ?_⟩
  rw [List.getElem?_set] at q ⊢
  by_cases hij : i = j
  · subst hij
    rw [if_pos rfl] at q
    split at q <;> cases q
  · rw [if_neg hij] at q ⊢
    exact h.2 j e q
theorem Holds.start {K : Frag} {H : Hp} {μ : Mu} {N : List Str} {vs : List V} {ds : List W} (h : RwAll K H μ vs ds) : Holds K H μ (L2.start N vs) (ds.map some ++ List.replicate (N.length - ds.length) none) := by
  have hl := h.len
  refine ⟨by unfold L2.start; simp [hl], fun i d q => ?_⟩
  unfold L2.start
  by_cases hi : i < ds.length
  · rw [List.getElem?_append_left (by simpa using hi), List.getElem?_map] at q
    rw [List.getElem?_append_left (by simpa [hl] using hi), List.getElem?_map]
    cases e : ds[i]? with
    | none =>
      rw [e] at q
      cases q
    | some d' =>
      rw [e] at q
      cases q
      obtain ⟨v, e1, e2⟩ := RwAll.at i h e
      exact ⟨v, by rw [e1]; rfl, e2⟩
  · rw [List.getElem?_append_right (by simpa using hi)] at q
    rw [List.getElem?_replicate] at q
    split at q <;> cases q
/-! forgetting, and lists that become values -/
mutual
inductive Fz (μ μ' : Mu) : W → W → Prop
  | same (w : W) : Fz μ μ' w w
  | lst {p : Addr} {ws us : List W} : μ p = some (.ls ws) → μ' p = none → FzAll μ μ' ws us → Fz μ μ' (.ref p) (.lst us)
  | tup {ws us : List W} : FzAll μ μ' ws us → Fz μ μ' (.tup ws) (.tup us)
  | inl {ws us : List W} : FzAll μ μ' ws us → Fz μ μ' (.lst ws) (.lst us)
inductive FzAll (μ μ' : Mu) : List W → List W → Prop
  | same (ws : List W) : FzAll μ μ' ws ws
  | cons {w u : W} {ws us : List W} : Fz μ μ' w u → FzAll μ μ' ws us → FzAll μ μ' (w :: ws) (u :: us)
end
/-- μ' holds less than μ -/
def Sub (μ' μ : Mu) : Prop := ∀ a o, μ' a = some o → μ a = some o
theorem Sub.refl (μ : Mu) : Sub μ μ := fun _ _ h => h
theorem Sub.trans {μ μ1 μ2 : Mu} (a : Sub μ2 μ1) (b : Sub μ1 μ) : Sub μ2 μ := fun c o h => b c o (a c o h)
theorem Sub.new {μ : Mu} {p : Addr} {o : O} (h : μ p = none) : Sub μ (mset μ p o) := fun a u e => by
  rw [mset_ne fun z => by
    rw [z, h] at e
    cases e]
  exact e
theorem Sub.none {μ μ' : Mu} (s : Sub μ' μ) {a : Addr} (h : μ a = none) : μ' a = none := by
  cases e : μ' a with
  | none => rfl
  | some o =>
    rw [s a o e] at h
    cases h
theorem Sub.stp {μ μ' : Mu} (s : Sub μ' μ) (H : Hp) : Stp μ H μ' H := ⟨fun _ _ h q => ⟨h, s.none q⟩, fun _ _ _ h => h⟩
theorem Sub.mem {K : Frag} {H : Hp} {μ μ' : Mu} (s : Sub μ' μ) (m : Mem K H μ) : Mem K H μ' := m.step (s.stp H) fun b o q => .inl ⟨s b o q, rfl⟩
mutual
theorem Fz.rw {K : Frag} {H : Hp} {μ μ' : Mu} (s : Sub μ' μ) (m : Mem K H μ) : ∀ {w u : W} {v : V}, Fz μ μ' w u → Rw K H μ v w → Rw K H μ' v u
  | _, _, _, .same _, h => h.stp (s.stp H)
  | _, _, _, .lst e n z, h => by
    cases h
    obtain ⟨vs, e1, e2⟩ := m _ _ e
    exact .lst ⟨e1, n⟩ (FzAll.rw s m z e2)
  | _, _, _, .tup z, h => by
    cases h with
    | tup h hs =>
      refine .tup ?_ (FzAll.rw s m z hs)
      rcases h with h | h
      · exact .inl ⟨h.1, s.none h.2⟩
      · exact .inr h
  | _, _, _, .inl z, h => by
    cases h with
    | lst h hs => exact .lst ⟨h.1, s.none h.2⟩ (FzAll.rw s m z hs)
theorem FzAll.rw {K : Frag} {H : Hp} {μ μ' : Mu} (s : Sub μ' μ) (m : Mem K H μ) : ∀ {ws us : List W} {vs : List V}, FzAll μ μ' ws us → RwAll K H μ vs ws → RwAll K H μ' vs us
  | _, _, _, .same _, h => h.stp (s.stp H)
  | _, _, _, .cons z zs, h => by
    cases h with
    | cons h hs => exact .cons (Fz.rw s m z h) (FzAll.rw s m zs hs)
end
end Q
namespace Q
open PySem L2 Evl
/-! what is asked of a value and a store; of what is raised: the class, its fields -/
abbrev Po := W → Mu → Prop
abbrev Xo := Str → List (Str × W) → Mu → Prop
abbrev FE := Rho → Mu → Po → Xo → Prop
abbrev FA := Rho → Mu → (List W → Mu → Prop) → Xo → Prop
abbrev FT := Rho → Mu → (Bool → Mu → Prop) → Xo → Prop
structure En where
  nx : Rho → Mu → Prop
  rt : Po
  bk : Rho → Mu → Prop
  ct : Rho → Mu → Prop
  ex : Rho → Xo
abbrev FS := Rho → Mu → En → Prop
inductive Pay (K : Frag) (H : Hp) (μ : Mu) : Option Addr → List (Str × W) → Prop
  | none : Pay K H μ none []
  | some {d : Addr} {fv : List (Str × V)} {fs : List (Str × W)} : H d = Option.some (.xd fv) → μ d = Option.none → RwF K H μ fv fs → fs ≠ [] → Pay K H μ (Option.some d) fs
/-- the wish of what is raised is kept -/
def XL (K : Frag) (E : XK) (μ : Mu) (H : Hp) (X : Xo) : Prop := ∀ c fs μ' d H', X c fs μ' → Stp μ H μ' H' → Mem K H' μ' → Pay K H' μ' d fs → E (.ref (He.ga K c)) d H'
theorem XL.stp {K : Frag} {E : XK} {μ μ1 : Mu} {H H1 : Hp} {X : Xo} (e : Stp μ H μ1 H1) (h : XL K E μ H X) : XL K E μ1 H1 X := fun c fs μ' d H' x e2 => h c fs μ' d H' x (e.trans e2)
def VL (K : Frag) (Q : VK) (μ : Mu) (H : Hp) (P : Po) : Prop := ∀ w μ' v H', P w μ' → Stp μ H μ' H' → Mem K H' μ' → Rw K H' μ' v w → Q v H'
def tE (K : Frag) (E : L2.St → XK) (f : FE) : TE := fun σ H Q => ∃ ρ μ P X, Holds K H μ σ ρ ∧ Mem K H μ ∧ f ρ μ P X ∧ VL K Q μ H P ∧ XL K (E σ) μ H X
def tA (K : Frag) (E : L2.St → XK) (f : FA) : TA := fun σ H Q => ∃ ρ μ P X, Holds K H μ σ ρ ∧ Mem K H μ ∧ f ρ μ P X ∧ (∀ ws μ' vs H', P ws μ' → Stp μ H μ' H' → Mem K H' μ' → RwAll K H' μ' vs ws → Q vs H') ∧ XL K (E σ) μ H X
def tT (K : Frag) (E : L2.St → XK) (f : FT) : TT := fun σ H Q => ∃ ρ μ P X, Holds K H μ σ ρ ∧ Mem K H μ ∧ f ρ μ P X ∧ (∀ b μ' H', P b μ' → Stp μ H μ' H' → Mem K H' μ' → Q b H') ∧ XL K (E σ) μ H X
structure EL (K : Frag) (E : L2.St → XK) (D : Ends) (μ : Mu) (H : Hp) (N : En) : Prop where
  nx : ∀ ρ' μ' σ' H', N.nx ρ' μ' → Stp μ H μ' H' → Mem K H' μ' → Holds K H' μ' σ' ρ' → D.nx σ' H'
  rt : VL K D.rt μ H N.rt
  bk : ∀ ρ' μ' σ' H', N.bk ρ' μ' → Stp μ H μ' H' → Mem K H' μ' → Holds K H' μ' σ' ρ' → D.bk σ' H'
  ct : ∀ ρ' μ' σ' H', N.ct ρ' μ' → Stp μ H μ' H' → Mem K H' μ' → Holds K H' μ' σ' ρ' → D.ct σ' H'
  ex : ∀ ρ' c fs μ' d σ' H', N.ex ρ' c fs μ' → Stp μ H μ' H' → Mem K H' μ' → Holds K H' μ' σ' ρ' → Pay K H' μ' d fs → E σ' (.ref (He.ga K c)) d H'
theorem EL.stp {K : Frag} {E : L2.St → XK} {D : Ends} {μ μ1 : Mu} {H H1 : Hp} {N : En} (e : Stp μ H μ1 H1) (h : EL K E D μ H N) : EL K E D μ1 H1 N :=
  ⟨fun ρ' μ' σ' H' n e2 => h.nx ρ' μ' σ' H' n (e.trans e2), fun w μ' v H' n e2 => h.rt w μ' v H' n (e.trans e2), fun ρ' μ' σ' H' n e2 => h.bk ρ' μ' σ' H' n (e.trans e2), fun ρ' μ' σ' H' n e2 => h.ct ρ' μ' σ' H' n (e.trans e2), fun ρ' c fs μ' d σ' H' n e2 => h.ex ρ' c fs μ' d σ' H' n (e.trans e2)⟩
/-- an expression at (ρ, σ) raises into the statement's wish -/
theorem EL.xl {K : Frag} {E : L2.St → XK} {D : Ends} {μ : Mu} {H : Hp} {N : En} {ρ : Rho} {σ : L2.St} (h : EL K E D μ H N) (hh : Holds K H μ σ ρ) : XL K (E σ) μ H (N.ex ρ) := fun c fs μ' d H' x e m p => h.ex ρ c fs μ' d σ H' x e m (hh.stp e) p
def tS (K : Frag) (E : L2.St → XK) (f : FS) : TS := fun D σ H => ∃ ρ μ N, Holds K H μ σ ρ ∧ Mem K H μ ∧ f ρ μ N ∧ EL K E D μ H N
/-! the judgements -/
structure QE (X : Cx) (E : L2.St → XK) (e : Expr) (f : FE) : Prop where
  pe : PE X e (tE X.K E f)
structure QA (X : Cx) (E : L2.St → XK) (es : List Expr) (f : FA) : Prop where
  pa : PA X es (tA X.K E f)
structure QT (X : Cx) (E : L2.St → XK) (e : Expr) (f : FT) : Prop where
  pt : PT X e (tT X.K E f)
structure QW (X : Cx) (E : L2.St → XK) (e : Expr) (f : FT) : Prop where
  pw : PW X e (tT X.K E f)
structure QS (X : Cx) (E : L2.St → XK) (st : Stmt) (f : FS) : Prop where
  ps : PS X st (tS X.K E f)
structure QSs (X : Cx) (E : L2.St → XK) (st : List Stmt) (f : FS) : Prop where
  pss : PSs X st (tS X.K E f)
theorem _root_.L2.PE.qimp {X : Cx} {e : Expr} {t t' : TE} (h : PE X e t) (k : ∀ σ H Q, t' σ H Q → t σ H Q) : PE X e t' := ⟨fun pins s σ H Q I q => h.run pins s σ H Q I (k σ H Q q)⟩
theorem _root_.L2.PA.qimp {X : Cx} {e : List Expr} {t t' : TA} (h : PA X e t) (k : ∀ σ H Q, t' σ H Q → t σ H Q) : PA X e t' := ⟨fun pos pins s σ H Q I q => h.run pos pins s σ H Q I (k σ H Q q)⟩
theorem _root_.L2.PT.qimp {X : Cx} {e : Expr} {t t' : TT} (h : PT X e t) (k : ∀ σ H Q, t' σ H Q → t σ H Q) : PT X e t' := ⟨fun pins s σ H Q I q => h.run pins s σ H Q I (k σ H Q q)⟩
theorem _root_.L2.PW.qimp {X : Cx} {e : Expr} {t t' : TT} (h : PW X e t) (k : ∀ σ H Q, t' σ H Q → t σ H Q) : PW X e t' := ⟨fun wh pins s σ H Q I q => h.run wh pins s σ H Q I (k σ H Q q)⟩
theorem _root_.L2.PS.qimp {X : Cx} {e : Stmt} {t t' : TS} (h : PS X e t) (k : ∀ D σ H, t' D σ H → t D σ H) : PS X e t' := ⟨fun pins s σ H D I q => h.run pins s σ H D I (k D σ H q)⟩
theorem _root_.L2.PSs.qimp {X : Cx} {e : List Stmt} {t t' : TS} (h : PSs X e t) (k : ∀ D σ H, t' D σ H → t D σ H) : PSs X e t' := ⟨fun pins s σ H D I q => h.run pins s σ H D I (k D σ H q)⟩
/-! ### names, constants -/
@[reducible] def gv : Rho → Nat → Option W
  | [], _ => none
  | x :: _, 0 => x
  | _ :: r, n + 1 => gv r n
theorem gv_get : ∀ {ρ : Rho} {i : Nat} {w : W}, gv ρ i = some w → ρ[i]? = some (some w)
  | [], _, _, h => by cases h
  | x :: r, 0, w, h => by
    have h : x = some w := h
    rw [h]
    rfl
  | x :: r, n + 1, w, h => gv_get (ρ := r) (i := n) h
@[reducible] def sv : Rho → Nat → W → Rho
  | [], _, _ => []
  | _ :: r, 0, w => some w :: r
  | x :: r, n + 1, w => x :: sv r n w
theorem sv_set : ∀ (ρ : Rho) (i : Nat) (w : W), sv ρ i w = ρ.set i (some w)
  | [], _, _ => rfl
  | x :: r, 0, w => rfl
  | x :: r, n + 1, w => congrArg (x :: ·) (sv_set r n w)
@[reducible] def hv : Rho → Nat → Rho
  | [], _ => []
  | _ :: r, 0 => none :: r
  | x :: r, n + 1 => x :: hv r n
theorem hv_set : ∀ (ρ : Rho) (i : Nat), hv ρ i = ρ.set i none
  | [], _ => rfl
  | x :: r, 0 => rfl
  | x :: r, n + 1 => congrArg (x :: ·) (hv_set r n)
theorem Holds.sv {K : Frag} {H : Hp} {μ : Mu} {σ : L2.St} {ρ : Rho} {v : V} {d : W} (i : Nat) (h : Holds K H μ σ ρ) (hv : Rw K H μ v d) : Holds K H μ (σ.set i (some v)) (Q.sv ρ i d) := by
  rw [sv_set]
  exact h.put i hv
@[reducible] def eV (i : Nat) : FE := fun ρ μ P _ => match gv ρ i with
  | some w => P w μ
  | none => False
@[reducible] def eC (w : W) : FE := fun _ μ P _ => P w μ
section
variable {X : Cx} {E : L2.St → XK}
theorem qe_var {i : Nat} {x : Str} {pos : Pos} (hN : X.N[i]? = some x) (hv : Vis X.env.scope x) (hd : (x == ("__debug__" : Str)) = false := by decide) (hcd : (x == ("__classdict__" : Str)) = false := by decide) : QE X E (.Name x pos) (eV i) := ⟨(pe_var hN hv hd hcd).qimp fun σ H Q h => by
  obtain ⟨ρ, μ, P, XX, hh, hm, hf, hv, hx⟩ := h
  unfold eV at hf
  split at hf
  · rename_i w e
    obtain ⟨v, e1, e2⟩ := hh.2 i w (gv_get e)
    exact ⟨v, e1, hv w μ v H hf (Stp.refl μ H) hm e2⟩
  · exact hf.elim⟩
theorem qe_of {e : Expr} {v : V} {w : W} (h : PE X e (tC v)) (r : ∀ H μ, Rw X.K H μ v w) : QE X E e (eC w) := ⟨h.qimp fun σ H Q h => by
  obtain ⟨ρ, μ, P, XX, hh, hm, hf, hv, hx⟩ := h
  exact hv w μ v H hf (Stp.refl μ H) hm (r H μ)⟩
theorem qe_int {i j pos} : QE X E (.Constant (.int i) j pos) (eC (.int i)) := qe_of pe_int fun _ _ => .int i
theorem qe_bl {i j pos} : QE X E (.Constant (.bool i) j pos) (eC (.bl i)) := qe_of pe_bl fun _ _ => .bl i
theorem qe_non {j pos} : QE X E (.Constant .none j pos) (eC .non) := qe_of pe_non fun _ _ => .non
theorem qe_str {x j pos} : QE X E (.Constant (.str x) j pos) (eC (.str x)) := qe_of pe_str fun _ _ => .str x
/-- a number that the module names -/
theorem qe_gint {i : Int} {x : Str} {pos : Pos} (hg : Gl X x) (h : ∃ t, X.mg x = some (.int i t)) (hdb : (x == ("__debug__" : Str)) = false := by decide) : QE X E (.Name x pos) (eC (.int i)) := qe_of (v := .int i) (pe_glob hg h.choose_spec ⟨_, rfl⟩ hdb) fun _ _ => .int i
/-! ### operations -/
abbrev F2 := W → W → Mu → Po → Prop
abbrev F1 := W → Mu → Po → Prop
@[reducible] def eOp (o : F2) (a b : FE) : FE := fun ρ μ P X => a ρ μ (fun x μ1 => b ρ μ1 (fun y μ2 => o x y μ2 P) X) X
@[reducible] def eUn (o : F1) (a : FE) : FE := fun ρ μ P X => a ρ μ (fun x μ1 => o x μ1 P) X
def rW (K : Frag) (o : F2) : R2 := fun x y H Q => ∃ wx wy μ P, Rw K H μ x wx ∧ Rw K H μ y wy ∧ Mem K H μ ∧ o wx wy μ P ∧ VL K Q μ H P
theorem opR_imp {X : Cx} {f : Value → Value → Sem Value} {r r' : R2} (h : OpR X f r) (k : ∀ x y H Q, r' x y H Q → r x y H Q) : OpR X f r' := fun pins s σ H x y v u Q I rx ry q => h pins s σ H x y v u Q I rx ry (k x y H Q q)
theorem tE_two {K : Frag} {r : R2} {o : F2} {fa fb : FE} (hr : ∀ x y H Q, rW K o x y H Q → r x y H Q) {σ : L2.St} {H : Hp} {Q : VK} (h : tE K E (eOp o fa fb) σ H Q) : tOp r (tE K E fa) (tE K E fb) σ H Q := by
  obtain ⟨ρ, μ, P, XX, hh, hm, hf, hv, hx⟩ := h
  exact ⟨ρ, μ, _, XX, hh, hm, hf, fun x μ1 v H1 p1 e1 m1 r1 => ⟨ρ, μ1, _, XX, hh.stp e1, m1, p1, fun y μ2 u H2 p2 e2 m2 r2 => hr v u H2 Q ⟨x, y, μ2, P, r1.stp e2, r2, m2, p2, fun w μ' v' H' p e => hv w μ' v' H' p ((e1.trans e2).trans e)⟩, hx.stp e1⟩, hx⟩
theorem qe_op {op : Operator} {o : F2} {a b : Expr} {fa fb : FE} {pos : Pos} (ho : OpR X (binaryOp op) (rW X.K o)) (ha : QE X E a fa) (hb : QE X E b fb) : QE X E (.BinOp a op b pos) (eOp o fa fb) :=
  ⟨(pe_op ho ha.pe hb.pe).qimp fun σ H Q h => tE_two (fun _ _ _ _ h => h) h⟩
theorem qe_cmp {op : CmpOp} {o : F2} {a b : Expr} {fa fb : FE} {pos : Pos} (ho : OpR X (compareOp op) (rW X.K o)) (ha : QE X E a fa) (hb : QE X E b fb) (hm : behindInMarks op b = false) : QE X E (.Compare a [op] [b] pos) (eOp o fa fb) :=
  ⟨(pe_cmpR ho ha.pe hb.pe hm).qimp fun σ H Q h => tE_two (fun _ _ _ _ h => h) h⟩
/-! tests -/
@[reducible] def wT (w : W) (k : Bool → Prop) : Prop := match w with
  | .bl b => k b
  | _ => False
@[reducible] def cV (a : FE) : FT := fun ρ μ P X => a ρ μ (fun w μ1 => wT w fun b => P b μ1) X
@[reducible] def cAnd (a b : FT) : FT := fun ρ μ P X => a ρ μ (fun c μ1 => if c = true then b ρ μ1 P X else P false μ1) X
@[reducible] def cOr (a b : FT) : FT := fun ρ μ P X => a ρ μ (fun c μ1 => if c = true then P true μ1 else b ρ μ1 P X) X
@[reducible] def cNot (a : FT) : FT := fun ρ μ P X => a ρ μ (fun c μ1 => P (!c) μ1) X
theorem wT_ok {w : W} {k : Bool → Prop} (h : wT w k) : ∃ b, w = .bl b ∧ k b := by
  cases w <;> first | exact h.elim | exact ⟨_, rfl, h⟩
theorem rw_bl {K : Frag} {H : Hp} {μ : Mu} {v : V} {b : Bool} (h : Rw K H μ v (.bl b)) : v = .bl b := by
  cases h
  rfl
theorem tT_of {K : Frag} {fa : FE} {σ : L2.St} {H : Hp} {Q : Bool → Hp → Prop} (h : tT K E (cV fa) σ H Q) : tE K E fa σ H (fun x H1 => ∃ k, x = .bl k ∧ Q k H1) := by
  obtain ⟨ρ, μ, P, XX, hh, hm, hf, hv, hx⟩ := h
  exact ⟨ρ, μ, _, XX, hh, hm, hf, fun x μ1 v H1 p1 e1 m1 r1 => by
    obtain ⟨b, rfl, p⟩ := wT_ok p1
    exact ⟨b, rw_bl r1, hv b μ1 H1 p e1 m1⟩, hx⟩
theorem qt_val {e : Expr} {f : FE} (h : QE X E e f) (he : ∀ whole, isTrue e X.env whole = (do let v ← whole; standAt e.pos; holding [v] (truthy v)) := by intro _; rfl) : QT X E e (cV f) := ⟨(pt_val h.pe he).qimp fun σ H Q h => tT_of h⟩
theorem qt_cmp {op : CmpOp} {o : F2} {a b : Expr} {fa fb : FE} {pos : Pos} (ho : OpR X (compareOp op) (rW X.K o)) (ha : QE X E a fa) (hb : QE X E b fb) (hm : behindInMarks op b = false) : QT X E (.Compare a [op] [b] pos) (cV (eOp o fa fb)) :=
  ⟨(pt_cmpR ho ha.pe hb.pe hm).qimp fun σ H Q h => by
    have h2 := tT_of h
    exact tE_two (fun _ _ _ _ h => h) h2⟩
theorem QW.qt {e : Expr} {f : FT} (h : QW X E e f) : QT X E e f := ⟨h.pw.pt⟩
theorem qw_and1 {a : Expr} {f : FT} {pos : Pos} (h : QT X E a f) : QW X E (.BoolOp .And [a] pos) f := ⟨pw_and1 h.pt⟩
theorem qw_or1 {a : Expr} {f : FT} {pos : Pos} (h : QT X E a f) : QW X E (.BoolOp .Or [a] pos) f := ⟨pw_or1 h.pt⟩
theorem qw_and {a b : Expr} {rest : List Expr} {fa fb : FT} {pos : Pos} (ha : QT X E a fa) (hb : QW X E (.BoolOp .And (b :: rest) pos) fb) : QW X E (.BoolOp .And (a :: b :: rest) pos) (cAnd fa fb) := ⟨(pw_and ha.pt hb.pw).qimp fun σ H Q h => by
  obtain ⟨ρ, μ, P, XX, hh, hm, hf, hv, hx⟩ := h
  refine ⟨ρ, μ, _, XX, hh, hm, hf, fun c μ1 H1 p1 e1 m1 => ?_, hx⟩
  cases c with
  | true => exact iteT ⟨ρ, μ1, P, XX, hh.stp e1, m1, (if_pos rfl).mp p1, fun b μ' H' p e => hv b μ' H' p (e1.trans e), hx.stp e1⟩
  | false => exact iteF (hv false μ1 H1 ((if_neg (by decide)).mp p1) e1 m1)⟩
theorem qw_or {a b : Expr} {rest : List Expr} {fa fb : FT} {pos : Pos} (ha : QT X E a fa) (hb : QW X E (.BoolOp .Or (b :: rest) pos) fb) : QW X E (.BoolOp .Or (a :: b :: rest) pos) (cOr fa fb) := ⟨(pw_or ha.pt hb.pw).qimp fun σ H Q h => by
  obtain ⟨ρ, μ, P, XX, hh, hm, hf, hv, hx⟩ := h
  refine ⟨ρ, μ, _, XX, hh, hm, hf, fun c μ1 H1 p1 e1 m1 => ?_, hx⟩
  cases c with
  | true => exact iteT (hv true μ1 H1 ((if_pos rfl).mp p1) e1 m1)
  | false => exact iteF ⟨ρ, μ1, P, XX, hh.stp e1, m1, (if_neg (by decide)).mp p1, fun b μ' H' p e => hv b μ' H' p (e1.trans e), hx.stp e1⟩⟩
theorem qt_not {a : Expr} {fa : FT} {pos : Pos} (ha : QT X E a fa) : QT X E (.UnaryOp .Not a pos) (cNot fa) := ⟨(pt_not ha.pt).qimp fun σ H Q h => by
  obtain ⟨ρ, μ, P, XX, hh, hm, hf, hv, hx⟩ := h
  exact ⟨ρ, μ, _, XX, hh, hm, hf, fun c μ1 H1 p1 e1 m1 => hv (!c) μ1 H1 p1 e1 m1, hx⟩⟩
/-! and, or, not as values -/
@[reducible] def eAnd (a b : FE) : FE := fun ρ μ P X => a ρ μ (fun w μ1 => wT w fun c => if c = true then b ρ μ1 P X else P (.bl false) μ1) X
@[reducible] def eOr (a b : FE) : FE := fun ρ μ P X => a ρ μ (fun w μ1 => wT w fun c => if c = true then P (.bl true) μ1 else b ρ μ1 P X) X
theorem qe_one {op : BoolOp} {a : Expr} {f : FE} {pos : Pos} (h : QE X E a f) : QE X E (.BoolOp op [a] pos) f := ⟨pe_one h.pe⟩
theorem qe_and {a b : Expr} {rest : List Expr} {fa fb : FE} {pos : Pos} (ha : QE X E a fa) (hb : QE X E (.BoolOp .And (b :: rest) pos) fb) : QE X E (.BoolOp .And (a :: b :: rest) pos) (eAnd fa fb) := ⟨(pe_and ha.pe hb.pe).qimp fun σ H Q h => by
  obtain ⟨ρ, μ, P, XX, hh, hm, hf, hv, hx⟩ := h
  refine ⟨ρ, μ, _, XX, hh, hm, hf, fun c μ1 v H1 p1 e1 m1 r1 => ?_, hx⟩
  obtain ⟨b, rfl, p⟩ := wT_ok p1
  refine ⟨b, rw_bl r1, ?_⟩
  cases b with
  | true => exact iteT ⟨ρ, μ1, P, XX, hh.stp e1, m1, (if_pos rfl).mp p, fun w μ' v H' p e => hv w μ' v H' p (e1.trans e), hx.stp e1⟩
  | false => exact iteF (hv _ μ1 _ H1 ((if_neg (by decide)).mp p) e1 m1 (.bl _))⟩
theorem qe_or {a b : Expr} {rest : List Expr} {fa fb : FE} {pos : Pos} (ha : QE X E a fa) (hb : QE X E (.BoolOp .Or (b :: rest) pos) fb) : QE X E (.BoolOp .Or (a :: b :: rest) pos) (eOr fa fb) := ⟨(pe_or ha.pe hb.pe).qimp fun σ H Q h => by
  obtain ⟨ρ, μ, P, XX, hh, hm, hf, hv, hx⟩ := h
  refine ⟨ρ, μ, _, XX, hh, hm, hf, fun c μ1 v H1 p1 e1 m1 r1 => ?_, hx⟩
  obtain ⟨b, rfl, p⟩ := wT_ok p1
  refine ⟨b, rw_bl r1, ?_⟩
  cases b with
  | true => exact iteT (hv _ μ1 _ H1 ((if_pos rfl).mp p) e1 m1 (.bl _))
  | false => exact iteF ⟨ρ, μ1, P, XX, hh.stp e1, m1, (if_neg (by decide)).mp p, fun w μ' v H' p e => hv w μ' v H' p (e1.trans e), hx.stp e1⟩⟩
/-- a < b < c -/
@[reducible] def eChain (o o' : F2) (a b c : FE) : FE := fun ρ μ P X => a ρ μ (fun x μ1 => b ρ μ1 (fun y μ2 => o x y μ2 (fun z μ3 => wT z fun k => if k = true then c ρ μ3 (fun u μ4 => o' y u μ4 P) X else P (.bl false) μ3)) X) X
theorem tE_chain {K : Frag} {o o' : F2} {fa fb fc : FE} {σ : L2.St} {H : Hp} {Q : VK} (h : tE K E (eChain o o' fa fb fc) σ H Q) : tChain (rW K o) (rW K o') (tE K E fa) (tE K E fb) (tE K E fc) σ H Q := by
  obtain ⟨ρ, μ, P, XX, hh, hm, hf, hv, hx⟩ := h
  refine ⟨ρ, μ, _, XX, hh, hm, hf, fun x μ1 v H1 p1 e1 m1 r1 => ⟨ρ, μ1, _, XX, hh.stp e1, m1, p1, fun y μ2 u H2 p2 e2 m2 r2 => ⟨x, y, μ2, _, r1.stp e2, r2, m2, p2, fun z μ3 v3 H3 p3 e3 m3 r3 => ?_⟩, hx.stp e1⟩, hx⟩
  obtain ⟨b, rfl, p⟩ := wT_ok p3
  refine ⟨b, rw_bl r3, ?_⟩
  have e13 := (e1.trans e2).trans e3
  cases b with
  | true => exact iteT ⟨ρ, μ3, _, XX, hh.stp e13, m3, (if_pos rfl).mp p, fun w μ4 v4 H4 p4 e4 m4 r4 => ⟨y, w, μ4, P, r2.stp (e3.trans e4), r4, m4, p4, fun w μ' v' H' p e => hv w μ' v' H' p ((e13.trans e4).trans e)⟩, hx.stp e13⟩
  | false => exact iteF (hv _ μ3 _ H3 ((if_neg (by decide)).mp p) e13 m3 (.bl _))
/-! ### arguments, tuples, lists -/
@[reducible] def aNil : FA := fun _ μ P _ => P [] μ
@[reducible] def aCons (a : FE) (r : FA) : FA := fun ρ μ P X => a ρ μ (fun w μ1 => r ρ μ1 (fun ws μ2 => P (w :: ws) μ2) X) X
theorem qa_nil : QA X E [] aNil := ⟨(pa_nil (X := X)).qimp fun σ H Q h => by
  obtain ⟨ρ, μ, P, XX, hh, hm, hf, hv, hx⟩ := h
  exact hv [] μ [] H hf (Stp.refl μ H) hm .nil⟩
theorem qa_cons {e : Expr} {es : List Expr} {fa : FE} {fr : FA} (ha : QE X E e fa) (hr : QA X E es fr) (hs : starEach (e :: es) X.env = (false, eval e X.env) :: starEach es X.env := by rfl) : QA X E (e :: es) (aCons fa fr) := ⟨(pa_cons ha.pe hr.pa hs).qimp fun σ H Q h => by
  obtain ⟨ρ, μ, P, XX, hh, hm, hf, hv, hx⟩ := h
  exact ⟨ρ, μ, _, XX, hh, hm, hf, fun x μ1 v H1 p1 e1 m1 r1 => ⟨ρ, μ1, _, XX, hh.stp e1, m1, p1, fun ws μ2 vs H2 p2 e2 m2 r2 => hv _ μ2 _ H2 p2 (e1.trans e2) m2 (.cons (r1.stp e2) r2), hx.stp e1⟩, hx⟩⟩
@[reducible] def eTup (a : FA) : FE := fun ρ μ P X => a ρ μ (fun ws μ1 => ws.length ≤ 100000 ∧ P (.tup ws) μ1) X
/-- [a, b]: a value (V), or tracked (R) -/
@[reducible] def eLV (a : FA) : FE := fun ρ μ P X => a ρ μ (fun ws μ1 => ws.length ≤ 100000 ∧ P (.lst ws) μ1) X
@[reducible] def eLR (a : FA) : FE := fun ρ μ P X => a ρ μ (fun ws μ1 => ws.length ≤ 100000 ∧ ∀ p, μ1 p = none → P (.ref p) (mset μ1 p (.ls ws))) X
theorem sz_of2 {n m : Nat} (h : n ≤ 100000) (e : m = n) : m ≤ sizeLine := by
  rw [e]
  exact sz_of h
theorem new_tup {K : Frag} {H : Hp} {μ : Mu} {p : Addr} {vs : List V} {ws : List W} (m : Mem K H μ) (hp : H p = none) (r : RwAll K H μ vs ws) : Rw K (upd H p (.tup vs)) μ (.ref p) (.tup ws) := .tup (.inl ⟨upd_same, m.free hp⟩) (r.stp (Stp.new hp))
theorem new_lst {K : Frag} {H : Hp} {μ : Mu} {p : Addr} {vs : List V} {ws : List W} (m : Mem K H μ) (hp : H p = none) (r : RwAll K H μ vs ws) : Rw K (upd H p (.lst vs)) μ (.ref p) (.lst ws) := .lst ⟨upd_same, m.free hp⟩ (r.stp (Stp.new hp))
theorem new_ls {K : Frag} {H : Hp} {μ : Mu} {p : Addr} {vs : List V} {ws : List W} (m : Mem K H μ) (hp : H p = none) (r : RwAll K H μ vs ws) : Mem K (upd H p (.lst vs)) (mset μ p (.ls ws)) := m.put (Stp.newT hp) ⟨vs, upd_same, r.stp (Stp.newT hp)⟩
theorem qe_tup {es : List Expr} {f : FA} {x1} {pos : Pos} (h : QA X E es f) : QE X E (.Tuple es x1 pos) (eTup f) := ⟨(pe_tup h.pa).qimp fun σ H Q h => by
  obtain ⟨ρ, μ, P, XX, hh, hm, hf, hv, hx⟩ := h
  exact ⟨ρ, μ, _, XX, hh, hm, hf, fun ws μ1 vs H1 p1 e1 m1 r1 => ⟨sz_of2 p1.1 r1.len, fun p hp => hv _ μ1 _ _ p1.2 (e1.trans (Stp.new hp)) (m1.new hp) (new_tup m1 hp r1)⟩, hx⟩⟩
theorem qe_lV {es : List Expr} {f : FA} {pos : Pos} (h : QA X E es f) : QE X E (.List es pos) (eLV f) := ⟨(pe_lst h.pa).qimp fun σ H Q h => by
  obtain ⟨ρ, μ, P, XX, hh, hm, hf, hv, hx⟩ := h
  exact ⟨ρ, μ, _, XX, hh, hm, hf, fun ws μ1 vs H1 p1 e1 m1 r1 => ⟨sz_of2 p1.1 r1.len, fun p hp => hv _ μ1 _ _ p1.2 (e1.trans (Stp.new hp)) (m1.new hp) (new_lst m1 hp r1)⟩, hx⟩⟩
theorem qe_lR {es : List Expr} {f : FA} {pos : Pos} (h : QA X E es f) : QE X E (.List es pos) (eLR f) := ⟨(pe_lst h.pa).qimp fun σ H Q h => by
  obtain ⟨ρ, μ, P, XX, hh, hm, hf, hv, hx⟩ := h
  exact ⟨ρ, μ, _, XX, hh, hm, hf, fun ws μ1 vs H1 p1 e1 m1 r1 => ⟨sz_of2 p1.1 r1.len, fun p hp => hv _ _ _ _ (p1.2 p (m1.free hp)) (e1.trans (Stp.newT hp)) (new_ls m1 hp r1) (.ref p)⟩, hx⟩⟩
end
/-! ### statements -/
@[reducible] def sNx : FS := fun ρ μ N => N.nx ρ μ
@[reducible] def sSeq (a b : FS) : FS := fun ρ μ N => a ρ μ { N with nx := fun ρ' μ' => b ρ' μ' N }
@[reducible] def sEx (e : FE) : FS := fun ρ μ N => e ρ μ (fun _ μ1 => N.nx ρ μ1) (N.ex ρ)
@[reducible] def sRt (e : FE) : FS := fun ρ μ N => e ρ μ (fun w μ1 => N.rt w μ1) (N.ex ρ)
@[reducible] def sRtN : FS := fun ρ μ N => N.rt .non μ
@[reducible] def sIf (c : FT) (a b : FS) : FS := fun ρ μ N => c ρ μ (fun d μ1 => if d = true then a ρ μ1 N else b ρ μ1 N) (N.ex ρ)
@[reducible] def sSet (i : Nat) (e : FE) : FS := fun ρ μ N => e ρ μ (fun w μ1 => N.nx (sv ρ i w) μ1) (N.ex ρ)
section
variable {X : Cx} {E : L2.St → XK}
theorem qss_nil : QSs X E [] sNx := ⟨(pss_nil (X := X)).qimp fun D σ H h => by
  obtain ⟨ρ, μ, N, hh, hm, hf, l⟩ := h
  exact l.nx ρ μ σ H hf (Stp.refl μ H) hm hh⟩
theorem qss_one {st : Stmt} {f : FS} (h : QS X E st f) : QSs X E [st] f := ⟨pss_one h.ps⟩
theorem EL.seq {K : Frag} {D : Ends} {μ : Mu} {H : Hp} {N : En} {t : FS} {nx : Rho → Mu → Prop} (l : EL K E D μ H N) (h : ∀ ρ' μ', nx ρ' μ' → t ρ' μ' N) : EL K E { D with nx := tS K E t D } μ H { N with nx := nx } :=
  ⟨fun ρ' μ' σ' H' n e m hh => ⟨ρ', μ', N, hh, m, h ρ' μ' n, l.stp e⟩, l.rt, l.bk, l.ct, l.ex⟩
theorem qss_cons {st : Stmt} {r : List Stmt} {f g : FS} (h : QS X E st f) (hr : QSs X E r g) : QSs X E (st :: r) (sSeq f g) := ⟨(pss_cons h.ps hr.pss).qimp fun D σ H h => by
  obtain ⟨ρ, μ, N, hh, hm, hf, l⟩ := h
  exact ⟨ρ, μ, _, hh, hm, hf, l.seq fun _ _ n => n⟩⟩
theorem qs_expr {e : Expr} {f : FE} {pos : Pos} (h : QE X E e f) (hs : swapsWith e none pos.line X.env = pure false := by rfl) : QS X E (.Expr e pos) (sEx f) := ⟨(ps_expr h.pe hs).qimp fun D σ H h => by
  obtain ⟨ρ, μ, N, hh, hm, hf, l⟩ := h
  exact ⟨ρ, μ, _, _, hh, hm, hf, fun w μ1 v H1 p1 e1 m1 r1 => l.nx ρ μ1 σ H1 p1 e1 m1 (hh.stp e1), l.xl hh⟩⟩
theorem qs_ret {e : Expr} {f : FE} {pos : Pos} (h : QE X E e f) : QS X E (.Return (some e) pos) (sRt f) := ⟨(ps_ret h.pe).qimp fun D σ H h => by
  obtain ⟨ρ, μ, N, hh, hm, hf, l⟩ := h
  exact ⟨ρ, μ, _, _, hh, hm, hf, fun w μ1 v H1 p1 e1 m1 r1 => l.rt w μ1 v H1 p1 e1 m1 r1, l.xl hh⟩⟩
theorem qs_retN {pos : Pos} : QS X E (.Return none pos) sRtN := ⟨(ps_retN (X := X)).qimp fun D σ H h => by
  obtain ⟨ρ, μ, N, hh, hm, hf, l⟩ := h
  exact l.rt .non μ .non H hf (Stp.refl μ H) hm .non⟩
theorem qs_if {c : Expr} {a b : List Stmt} {fc : FT} {fa fb : FS} {pos : Pos} (hc : QT X E c fc) (ha : QSs X E a fa) (hb : QSs X E b fb) : QS X E (.If c a b pos) (sIf fc fa fb) := ⟨(ps_if hc.pt ha.pss hb.pss).qimp fun D σ H h => by
  obtain ⟨ρ, μ, N, hh, hm, hf, l⟩ := h
  refine ⟨ρ, μ, _, _, hh, hm, hf, fun d μ1 H1 p1 e1 m1 => ?_, l.xl hh⟩
  cases d with
  | true => exact iteT ⟨ρ, μ1, N, hh.stp e1, m1, (if_pos rfl).mp p1, l.stp e1⟩
  | false => exact iteF ⟨ρ, μ1, N, hh.stp e1, m1, (if_neg (by decide)).mp p1, l.stp e1⟩⟩
theorem qs_set {i : Nat} {x : Str} {e : Expr} {f : FE} {pos pos' : Pos} (hN : X.N.Nodup) (hi : X.N[i]? = some x) (hx : Loc X.env.scope x) (h : QE X E e f) (hs : swapsWith e (some (.Name x pos')) pos.line X.env = pure false := by rfl) (hf : X.fn x = true ∨ X.env.scope.names.lookup x = some .local := by first | exact .inl rfl | exact .inr rfl | assumption) :
    QS X E (.Assign [.Name x pos'] e pos) (sSet i f) := ⟨(ps_set hN hi hx h.pe hs hf).qimp fun D σ H h => by
  obtain ⟨ρ, μ, N, hh, hm, hf, l⟩ := h
  exact ⟨ρ, μ, _, _, hh, hm, hf, fun w μ1 v H1 p1 e1 m1 r1 => l.nx _ μ1 _ H1 p1 e1 m1 ((hh.stp e1).sv i r1), l.xl hh⟩⟩
/-! targets -/
abbrev FG := W → Rho → Mu → (Rho → Mu → Prop) → Prop
abbrev FGs := List W → Rho → Mu → (Rho → Mu → Prop) → Prop
def tGt (K : Frag) (g : FG) : TG := fun v σ H Q => ∃ w ρ μ P, Rw K H μ v w ∧ Holds K H μ σ ρ ∧ Mem K H μ ∧ g w ρ μ P ∧ ∀ ρ' μ' σ' H', P ρ' μ' → Stp μ H μ' H' → Mem K H' μ' → Holds K H' μ' σ' ρ' → Q σ' H'
def tGts (K : Frag) (g : FGs) : TGs := fun vs σ H Q => ∃ ws ρ μ P, RwAll K H μ vs ws ∧ Holds K H μ σ ρ ∧ Mem K H μ ∧ g ws ρ μ P ∧ ∀ ρ' μ' σ' H', P ρ' μ' → Stp μ H μ' H' → Mem K H' μ' → Holds K H' μ' σ' ρ' → Q σ' H'
structure QG (X : Cx) (e : Expr) (g : FG) : Prop where
  pg : PG X e (tGt X.K g)
structure QGs (X : Cx) (es : List Expr) (g : FGs) : Prop where
  pgs : PGs X es (tGts X.K g)
@[reducible] def gN (i : Nat) : FG := fun w ρ μ P => P (sv ρ i w) μ
@[reducible] def gsNil : FGs := fun ws ρ μ P => match ws with
  | [] => P ρ μ
  | _ => False
@[reducible] def gsCons (g : FG) (r : FGs) : FGs := fun ws ρ μ P => match ws with
  | w :: us => g w ρ μ fun ρ' μ' => r us ρ' μ' P
  | [] => False
@[reducible] def gT (n : Nat) (r : FGs) : FG := fun w ρ μ P => match w with
  | .tup ws => ws.length = n ∧ r ws ρ μ P
  | _ => False
theorem _root_.L2.PG.qimp {X : Cx} {e : Expr} {t t' : TG} (h : PG X e t) (k : ∀ v σ H Q, t' v σ H Q → t v σ H Q) : PG X e t' := ⟨fun pins s σ H v u Q I r q => h.run pins s σ H v u Q I r (k v σ H Q q)⟩
theorem _root_.L2.PGs.qimp {X : Cx} {e : List Expr} {t t' : TGs} (h : PGs X e t) (k : ∀ v σ H Q, t' v σ H Q → t v σ H Q) : PGs X e t' := ⟨fun pins s σ H v u Q I r q => h.run pins s σ H v u Q I r (k v σ H Q q)⟩
theorem qg_name {i : Nat} {x : Str} {pos : Pos} (hN : X.N.Nodup) (hi : X.N[i]? = some x) (hx : Loc X.env.scope x) (hf : X.fn x = true ∨ X.env.scope.names.lookup x = some .local := by first | exact .inl rfl | exact .inr rfl | assumption) : QG X (.Name x pos) (gN i) := ⟨(pg_name hN hi hx hf).qimp fun v σ H Q h => by
  obtain ⟨w, ρ, μ, P, r, hh, hm, hg, q⟩ := h
  exact q _ μ _ H hg (Stp.refl μ H) hm (hh.sv i r)⟩
theorem qgs_nil : QGs X [] gsNil := ⟨(pgs_nil (X := X)).qimp fun vs σ H Q h => by
  obtain ⟨ws, ρ, μ, P, r, hh, hm, hg, q⟩ := h
  cases r with
  | nil => exact ⟨rfl, q ρ μ σ H hg (Stp.refl μ H) hm hh⟩
  | cons _ _ => exact hg.elim⟩
theorem qgs_cons {e : Expr} {es : List Expr} {g : FG} {r : FGs} (h1 : QG X e g) (h2 : QGs X es r)
    (hs : (assignEach (e :: es) X.env).map (·.2) = assign e X.env :: (assignEach es X.env).map (·.2) := by rfl) : QGs X (e :: es) (gsCons g r) := ⟨(pgs_cons h1.pg h2.pgs hs).qimp fun vs σ H Q h => by
  obtain ⟨ws, ρ, μ, P, r, hh, hm, hg, q⟩ := h
  cases r with
  | nil => exact hg.elim
  | @cons v vr w wr r rr => exact ⟨v, vr, rfl, w, ρ, μ, _, r, hh, hm, hg, fun ρ1 μ1 σ1 H1 p1 e1 m1 h1 => ⟨wr, ρ1, μ1, P, rr.stp e1, h1, m1, p1, fun ρ' μ' σ' H' p e => q ρ' μ' σ' H' p (e1.trans e)⟩⟩⟩
theorem tup_sq {K : Frag} {H : Hp} {μ : Mu} {a : Addr} {vs : List V} (h : TupAt K H μ a vs) : SqT K H a vs := by
  rcases h with h | h
  · exact .inl (.inl h.1)
  · exact .inr h
theorem qg_tup {es : List Expr} {k : Nat} {g : FGs} {n : Nat} {pos : Pos} (hc : X.calm = true) (h : QGs X es g)
    (hn : (assignEach es X.env).length = n := by rfl) (hst : (assignEach es X.env).findIdx? (·.1) = none := by rfl) : QG X (.Tuple es k pos) (gT n g) := ⟨(pg_tup hc h.pgs hn hst).qimp fun v σ H Q h => by
  obtain ⟨w, ρ, μ, P, r, hh, hm, hg, q⟩ := h
  cases r with
  | tup hq hs => exact ⟨_, _, rfl, tup_sq hq, hs.len.trans hg.1, _, ρ, μ, P, hs, hh, hm, hg.2, q⟩
  | _ => exact hg.elim⟩
@[reducible] def sAsg (e : FE) (g : FG) : FS := fun ρ μ N => e ρ μ (fun w μ1 => g w ρ μ1 N.nx) (N.ex ρ)
theorem qs_asg {tg e : Expr} {f : FE} {g : FG} {pos : Pos} (he : QE X E e f) (hg : QG X tg g) (hs : swapsWithSole [tg] e pos.line X.env = pure false := by rfl) (hw : swappedStores [tg] e X.env = pure none := by rfl)
    (h1 : (assignEach [tg] X.env).map (·.2) = [assign tg X.env] := by rfl) : QS X E (.Assign [tg] e pos) (sAsg f g) := ⟨(ps_asg he.pe hg.pg hs hw h1).qimp fun D σ H h => by
  obtain ⟨ρ, μ, N, hh, hm, hf, l⟩ := h
  exact ⟨ρ, μ, _, _, hh, hm, hf, fun w μ1 v H1 p1 e1 m1 r1 => ⟨w, ρ, μ1, _, r1, hh.stp e1, m1, p1, fun ρ' μ' σ' H' p e => l.nx ρ' μ' σ' H' p (e1.trans e)⟩, l.xl hh⟩⟩
end
end Q
namespace Q
open PySem L2 Evl
/-! == and != of data: atoms, tuples, lists, nested -/
mutual
def eqW : W → W → Bool
  | .non, .non => true
  | .bl a, .bl b => a == b
  | .bl a, .int j => (if a then 1 else 0) == j
  | .int i, .bl b => i == (if b then 1 else 0)
  | .int i, .int j => i == j
  | .str x, .str y => x == y
  | .tup xs, .tup ys => eqWs xs ys
  | .lst xs, .lst ys => eqWs xs ys
  | _, _ => false
def eqWs : List W → List W → Bool
  | [], [] => true
  | x :: xs, y :: ys => eqW x y && eqWs xs ys
  | _, _ => false
end
mutual
/-- data of at most n levels -/
def isD : Nat → W → Bool
  | _, .non | _, .bl _ | _, .int _ | _, .str _ => true
  | 0, _ => false
  | n + 1, .tup ws => isDs n ws
  | n + 1, .lst ws => isDs n ws
  | _, _ => false
def isDs : Nat → List W → Bool
  | _, [] => true
  | n, w :: ws => isD n w && isDs n ws
end
mutual
inductive Dq (K : Frag) (H : Hp) : V → W → Prop
  | non : Dq K H .non .non
  | bl (b : Bool) : Dq K H (.bl b) (.bl b)
  | int (i : Int) : Dq K H (.int i) (.int i)
  | str (x : Str) : Dq K H (.str x) (.str x)
  | tup {a : Addr} {vs : List V} {ws : List W} : SqT K H a vs → DqAll K H vs ws → Dq K H (.ref a) (.tup ws)
  | lst {a : Addr} {vs : List V} {ws : List W} : SqL K H a vs → DqAll K H vs ws → Dq K H (.ref a) (.lst ws)
inductive DqAll (K : Frag) (H : Hp) : List V → List W → Prop
  | nil : DqAll K H [] []
  | cons {v : V} {vs : List V} {w : W} {ws : List W} : Dq K H v w → DqAll K H vs ws → DqAll K H (v :: vs) (w :: ws)
end
mutual
theorem dq_of {K : Frag} {H : Hp} {μ : Mu} : ∀ {n : Nat} {v : V} {w : W}, Rw K H μ v w → isD n w = true → Dq K H v w
  | _, _, _, .non, _ => .non
  | _, _, _, .bl b, _ => .bl b
  | _, _, _, .int i, _ => .int i
  | _, _, _, .str x, _ => .str x
  | 0, _, _, .tup _ _, d => by cases d
  | n + 1, _, _, .tup h hs, d => .tup (tup_sq h) (dqs_of hs d)
  | 0, _, _, .lst _ _, d => by cases d
  | n + 1, _, _, .lst h hs, d => .lst (.inl (.inl h.1)) (dqs_of hs d)
  | 0, _, _, .ref _, d => by cases d
  | n + 1, _, _, .ref _, d => by cases d
  | 0, _, _, .fn _, d => by cases d
  | n + 1, _, _, .fn _, d => by cases d
  | 0, _, _, .rol _ _, d => by cases d
  | n + 1, _, _, .rol _ _, d => by cases d
  | 0, _, _, .exc, d => by cases d
  | n + 1, _, _, .exc, d => by cases d
  | 0, _, _, .excf _ _ _, d => by cases d
  | n + 1, _, _, .excf _ _ _, d => by cases d
theorem dqs_of {K : Frag} {H : Hp} {μ : Mu} : ∀ {n : Nat} {vs : List V} {ws : List W}, RwAll K H μ vs ws → isDs n ws = true → DqAll K H vs ws
  | _, _, _, .nil, _ => .nil
  | n, _, _, .cons h hs, d => .cons (dq_of h (Bool.and_eq_true_iff.mp d).1) (dqs_of hs (Bool.and_eq_true_iff.mp d).2)
end
mutual
theorem eqW_refl : ∀ (n : Nat) (w : W), isD n w = true → eqW w w = true
  | _, .non, _ => rfl
  | _, .bl b, _ => by simp [eqW]
  | _, .int i, _ => by simp [eqW]
  | _, .str x, _ => by simp [eqW]
  | 0, .tup _, d => by cases d
  | n + 1, .tup ws, d => eqWs_refl n ws d
  | 0, .lst _, d => by cases d
  | n + 1, .lst ws, d => eqWs_refl n ws d
  | 0, .rol _, d => by cases d
  | n + 1, .rol _, d => by cases d
  | 0, .ref _, d => by cases d
  | n + 1, .ref _, d => by cases d
  | 0, .fn _, d => by cases d
  | n + 1, .fn _, d => by cases d
  | 0, .exc .., d => by cases d
  | n + 1, .exc .., d => by cases d
theorem eqWs_refl : ∀ (n : Nat) (ws : List W), isDs n ws = true → eqWs ws ws = true
  | _, [], _ => rfl
  | n, w :: ws, d => by
    have d := Bool.and_eq_true_iff.mp d
    show (eqW w w && eqWs ws ws) = true
    rw [eqW_refl n w d.1, eqWs_refl n ws d.2]
    rfl
end
theorem DqAll.len {K : Frag} {H : Hp} : ∀ {vs : List V} {ws : List W}, DqAll K H vs ws → vs.length = ws.length
  | _, _, .nil => rfl
  | _, _, .cons _ hs => congrArg Nat.succ hs.len
/-- the answers item by item -/
def eqAtW (xs ys : List W) (j : Nat) : Bool := match xs[j]?, ys[j]? with
  | some x, some y => eqW x y
  | _, _ => true
theorem eqWs_all : ∀ (xs ys : List W), eqWs xs ys = ((List.range (min xs.length ys.length)).all (eqAtW xs ys) && xs.length == ys.length)
  | [], [] => by simp [eqWs]
  | [], y :: ys => by simp [eqWs]
  | x :: xs, [] => by simp [eqWs]
  | x :: xs, y :: ys => by
    have e : min (x :: xs).length (y :: ys).length = min xs.length ys.length + 1 := by simp only [List.length_cons]; omega
    rw [e, List.range_succ_eq_map, List.all_cons, List.all_map]
    show (eqW x y && eqWs xs ys) = _
    rw [eqWs_all xs ys]
    have e2 : (eqAtW (x :: xs) (y :: ys) ∘ Nat.succ) = eqAtW xs ys := by
      funext j
      simp [eqAtW]
    rw [e2]
    simp [eqAtW, Bool.and_assoc]
section
variable {X : Cx} {pins : List (Addr × Obj)} {σ : St} {H : Hp} {s : Shared}
theorem sq_inj (I : Inv X pins σ H s) {a : Addr} {xs ys : List V} (h : SqL X.K H a xs) (h' : SqL X.K H a ys) : xs = ys := by
  rcases h with h | ⟨o, its, n, hk, hc, hd, hs, hz, r⟩
  · rcases h' with h' | ⟨o', its', n', hk', hc', hd', hs', hz', r'⟩
    · rcases h with h | ⟨q, h⟩ <;> rcases h' with h' | ⟨q', h'⟩ <;> (rw [h] at h'; first | cases h' | skip) <;> rfl
    · obtain ⟨q, hq⟩ : ∃ q, H a = some q := by
        rcases h with h | ⟨q, h⟩
        · exact ⟨_, h⟩
        · exact ⟨_, h⟩
      have k1 := I.ok.mod.kin a o' hk'
      rw [(I.bs a o' k1).2] at hq
      cases hq
  · rcases h' with h' | ⟨o', its', n', hk', hc', hd', hs', hz', r'⟩
    · obtain ⟨q, hq⟩ : ∃ q, H a = some q := by
        rcases h' with h' | ⟨q, h'⟩
        · exact ⟨_, h'⟩
        · exact ⟨_, h'⟩
      have k1 := I.ok.mod.kin a o hk
      rw [(I.bs a o k1).2] at hq
      cases hq
    · rw [hk] at hk'
      cases hk'
      rw [hs] at hs'
      cases hs'
      have f : ∀ {us : List Value} {xs ys : List V}, Vals xs us → Vals ys us → xs = ys := by
        intro us
        induction us with
        | nil =>
          intro xs ys h1 h2
          cases h1
          cases h2
          rfl
        | cons u us ih =>
          intro xs ys h1 h2
          cases h1 with
          | cons p q =>
            cases h2 with
            | cons p' q' =>
              rw [ih q q']
              congr 1
              rename_i v _ v' _
              cases v <;> cases v' <;> simp [RelV] at p p' <;> first
                | rfl
                | (subst p; simp at p'; done)
                | (obtain ⟨t, rfl⟩ := p; simp at p'; done)
                | (obtain ⟨t, rfl⟩ := p; simp at p'; rw [p'])
                | (subst p; simp at p'; rw [p'])
                | (subst p; obtain ⟨t, h⟩ := p'; cases h)
      exact f r r'
mutual
theorem dq_inj (I : Inv X pins σ H s) : ∀ {v : V} {x y : W}, Dq X.K H v x → Dq X.K H v y → x = y
  | _, _, _, .non, h => by cases h; rfl
  | _, _, _, .bl b, h => by cases h; rfl
  | _, _, _, .int i, h => by cases h; rfl
  | _, _, _, .str x, h => by cases h; rfl
  | _, _, _, .tup q hs, h => by
    cases h with
    | tup q' hs' =>
      rw [I.tuple_inj q q'] at hs
      rw [dqs_inj I hs hs']
    | lst q' hs' =>
      obtain ⟨its, r, ⟨o, e, c, n, d⟩, z⟩ := I.tuple q
      obtain ⟨its', r', ⟨o', n', e', c', d'⟩, z'⟩ := I.list q'
      rw [e] at e'
      cases e'
      exact absurd (c.symm.trans c') (by decide)
  | _, _, _, .lst q hs, h => by
    cases h with
    | lst q' hs' =>
      rw [sq_inj I q q'] at hs
      rw [dqs_inj I hs hs']
    | tup q' hs' =>
      obtain ⟨its, r, ⟨o, e, c, n, d⟩, z⟩ := I.tuple q'
      obtain ⟨its', r', ⟨o', n', e', c', d'⟩, z'⟩ := I.list q
      rw [e] at e'
      cases e'
      exact absurd (c.symm.trans c') (by decide)
theorem dqs_inj (I : Inv X pins σ H s) : ∀ {vs : List V} {xs ys : List W}, DqAll X.K H vs xs → DqAll X.K H vs ys → xs = ys
  | _, _, _, .nil, h => by cases h; rfl
  | _, _, _, .cons h hs, g => by
    cases g with
    | cons g gs => rw [dq_inj I h g, dqs_inj I hs gs]
end
theorem val_at : ∀ {vs : List V} {us : List Value} (j : Nat) (h : j < us.length), Vals vs us → ∃ v, vs[j]? = some v ∧ RelV v us[j]
  | _, _, j, h, .nil => absurd h (Nat.not_lt_zero _)
  | _, _, 0, _, .cons r _ => ⟨_, rfl, r⟩
  | _, _, j + 1, h, .cons _ t => val_at j (Nat.lt_of_succ_lt_succ h) t
theorem dq_at {K : Frag} {H : Hp} : ∀ {vs : List V} {ws : List W} {j : Nat} {v : V}, DqAll K H vs ws → vs[j]? = some v → ∃ w, ws[j]? = some w ∧ Dq K H v w
  | _, _, j, v, .nil, e => by simp at e
  | _, _, 0, v, .cons h _, e => by
    cases e
    exact ⟨_, rfl, h⟩
  | _, _, j + 1, v, .cons _ hs, e => dq_at (j := j) hs e
theorem isD_mem : ∀ {n : Nat} {ws : List W} {j : Nat} {w : W}, isDs n ws = true → ws[j]? = some w → isD n w = true
  | _, [], _, _, _, e => by simp at e
  | n, w :: ws, 0, _, d, e => by
    cases e
    exact (Bool.and_eq_true_iff.mp d).1
  | n, w :: ws, j + 1, _, d, e => isD_mem (j := j) (Bool.and_eq_true_iff.mp d).2 e
theorem atom_or (n : Nat) (w : W) (d : isD n w = true) : (w = .non ∨ (∃ b, w = .bl b) ∨ (∃ i, w = .int i) ∨ ∃ x, w = .str x) ∨ ∃ m, n = m + 1 ∧ ((∃ ws, w = .tup ws ∧ isDs m ws = true) ∨ ∃ ws, w = .lst ws ∧ isDs m ws = true) := by
  cases w with
  | non => exact .inl (.inl rfl)
  | bl b => exact .inl (.inr (.inl ⟨b, rfl⟩))
  | int i => exact .inl (.inr (.inr (.inl ⟨i, rfl⟩)))
  | str x => exact .inl (.inr (.inr (.inr ⟨x, rfl⟩)))
  | tup ws => cases n with
    | zero => cases d
    | succ m => exact .inr ⟨m, rfl, .inl ⟨ws, rfl, d⟩⟩
  | lst ws => cases n with
    | zero => cases d
    | succ m => exact .inr ⟨m, rfl, .inr ⟨ws, rfl, d⟩⟩
  | _ => cases n <;> cases d
open PySem.SeqAt in
theorem eq_atoms {K : Frag} {A : Around} {v u : V} {a b : Value} : ∀ {x y : W}, Dq K H v x → Dq K H u y → RelV v a → RelV u b → (x = .non ∨ (∃ b, x = .bl b) ∨ (∃ i, x = .int i) ∨ ∃ z, x = .str z) → (y = .non ∨ (∃ b, y = .bl b) ∨ (∃ i, y = .int i) ∨ ∃ z, y = .str z) → EqAt A s a b (eqW x y) := by
  intro x y hx hy rv ru ax ay
  rcases ax with rfl | ⟨b1, rfl⟩ | ⟨i1, rfl⟩ | ⟨x1, rfl⟩
  · cases hx
    cases rv
    rcases ay with rfl | ⟨b2, rfl⟩ | ⟨i2, rfl⟩ | ⟨x2, rfl⟩
    · cases hy
      cases ru
      show EqAt A s _ _ true
      exact EqAt.same _
    · cases hy
      cases ru
      show EqAt A s _ _ false
      exact EqAt.none_bool b2
    · cases hy
      obtain ⟨t2, rfl⟩ := ru
      show EqAt A s _ _ false
      exact EqAt.none_int i2 t2
    · cases hy
      obtain ⟨t2, rfl⟩ := ru
      show EqAt A s _ _ false
      exact EqAt.none_str x2 t2
  · cases hx
    cases rv
    rcases ay with rfl | ⟨b2, rfl⟩ | ⟨i2, rfl⟩ | ⟨x2, rfl⟩
    · cases hy
      cases ru
      show EqAt A s _ _ false
      exact EqAt.bool_none b1
    · cases hy
      cases ru
      show EqAt A s _ _ (b1 == b2)
      exact EqAt.bool_bool b1 b2
    · cases hy
      obtain ⟨t2, rfl⟩ := ru
      show EqAt A s _ _ ((if b1 then 1 else 0) == i2)
      exact EqAt.bool_int b1 i2 t2
    · cases hy
      obtain ⟨t2, rfl⟩ := ru
      show EqAt A s _ _ false
      exact EqAt.bool_str b1 x2 t2
  · cases hx
    obtain ⟨t1, rfl⟩ := rv
    rcases ay with rfl | ⟨b2, rfl⟩ | ⟨i2, rfl⟩ | ⟨x2, rfl⟩
    · cases hy
      cases ru
      show EqAt A s _ _ false
      exact EqAt.int_none i1 t1
    · cases hy
      cases ru
      show EqAt A s _ _ (i1 == (if b2 then 1 else 0))
      exact EqAt.int_bool i1 t1 b2
    · cases hy
      obtain ⟨t2, rfl⟩ := ru
      show EqAt A s _ _ (i1 == i2)
      exact EqAt.int_int i1 t1 i2 t2
    · cases hy
      obtain ⟨t2, rfl⟩ := ru
      show EqAt A s _ _ false
      exact EqAt.int_str i1 t1 x2 t2
  · cases hx
    obtain ⟨t1, rfl⟩ := rv
    rcases ay with rfl | ⟨b2, rfl⟩ | ⟨i2, rfl⟩ | ⟨x2, rfl⟩
    · cases hy
      cases ru
      show EqAt A s _ _ false
      exact EqAt.str_none x1 t1
    · cases hy
      cases ru
      show EqAt A s _ _ false
      exact EqAt.str_bool x1 t1 b2
    · cases hy
      obtain ⟨t2, rfl⟩ := ru
      show EqAt A s _ _ false
      exact EqAt.str_int x1 t1 i2 t2
    · cases hy
      obtain ⟨t2, rfl⟩ := ru
      show EqAt A s _ _ (x1 == x2)
      exact EqAt.str_str x1 t1 x2 t2
open PySem.SeqAt in
theorem eq_atom_seq {K : Frag} {A : Around} {v : V} {a : Value} {l : Addr} {its : Array Value} (hu : A.units < cLine) : ∀ {x : W}, Dq K H v x → RelV v a → (x = .non ∨ (∃ b, x = .bl b) ∨ (∃ i, x = .int i) ∨ ∃ z, x = .str z) →
    (s.heap.IsTuple l its → EqAt A s a (.ref l) false ∧ EqAt A s (.ref l) a false) ∧ (s.heap.IsList l its → EqAt A s a (.ref l) false ∧ EqAt A s (.ref l) a false) := by
  intro x hx rv ax
  rcases ax with rfl | ⟨b1, rfl⟩ | ⟨i1, rfl⟩ | ⟨x1, rfl⟩
  · cases hx
    cases rv
    exact ⟨fun t => ⟨EqAt.none_tuple t hu, EqAt.tuple_none t hu⟩, fun t => ⟨EqAt.none_list t hu, EqAt.list_none t hu⟩⟩
  · cases hx
    cases rv
    exact ⟨fun t => ⟨EqAt.bool_tuple b1 t hu, EqAt.tuple_bool b1 t hu⟩, fun t => ⟨EqAt.bool_list b1 t hu, EqAt.list_bool b1 t hu⟩⟩
  · cases hx
    obtain ⟨t1, rfl⟩ := rv
    exact ⟨fun t => ⟨EqAt.int_tuple i1 t1 t hu, EqAt.tuple_int i1 t1 t hu⟩, fun t => ⟨EqAt.int_list i1 t1 t hu, EqAt.list_int i1 t1 t hu⟩⟩
  · cases hx
    obtain ⟨t1, rfl⟩ := rv
    exact ⟨fun t => ⟨EqAt.str_tuple x1 t1 t hu, EqAt.tuple_str x1 t1 t hu⟩, fun t => ⟨EqAt.str_list x1 t1 t hu, EqAt.list_str x1 t1 t hu⟩⟩
open PySem.SeqAt in
/-- the comparison of two pieces of data within other data -/
theorem eq_at (I : Inv X pins σ H s) : ∀ (n : Nat) (x y : W) (v u : V) (a b : Value) (A : Around), Dq X.K H v x → Dq X.K H u y → isD n x = true → isD n y = true → RelV v a → RelV u b → A.units + n < cLine → EqAt A s a b (eqW x y) := by
  intro n
  induction n with
  | zero =>
    intro x y v u a b A hx hy dx dy rv ru hu
    rcases atom_or 0 x dx with hx1 | ⟨m, hm, _⟩
    · rcases atom_or 0 y dy with hy1 | ⟨m, hm, _⟩
      · exact eq_atoms hx hy rv ru hx1 hy1
      · omega
    · omega
  | succ n ih =>
    intro x y v u a b A hx hy dx dy rv ru hu
    have hu0 : A.units < cLine := by omega
    rcases atom_or (n + 1) x dx with hx1 | ⟨m, hm, hx1⟩
    · rcases atom_or (n + 1) y dy with hy1 | ⟨m', hm', hy1⟩
      · exact eq_atoms hx hy rv ru hx1 hy1
      · have e0 : eqW x y = false := by
          rcases hx1 with rfl | ⟨_, rfl⟩ | ⟨_, rfl⟩ | ⟨_, rfl⟩ <;> rcases hy1 with ⟨ws, rfl, d⟩ | ⟨ws, rfl, d⟩ <;> simp only [eqW]
        rw [e0]
        rcases hy1 with ⟨ws, rfl, d⟩ | ⟨ws, rfl, d⟩
        · cases hy with
          | tup q hs =>
            cases ru
            obtain ⟨its, r, t, z⟩ := I.tuple q
            exact ((eq_atom_seq hu0 hx rv hx1).1 t).1
        · cases hy with
          | lst q hs =>
            cases ru
            obtain ⟨its, r, t, z⟩ := I.list q
            exact ((eq_atom_seq hu0 hx rv hx1).2 t.isList).1
    · have hmn : m = n := by omega
      subst hmn
      -- two rows of data, item by item
      have each : ∀ {xs ys : List W} {vs us : List V} {as bs : List Value}, DqAll X.K H vs xs → DqAll X.K H us ys → isDs m xs = true → isDs m ys = true → Vals vs as → Vals us bs → ∀ j (h1 : j < as.toArray.size) (h2 : j < bs.toArray.size), EqAt A.in1 s as.toArray[j] bs.toArray[j] (eqAtW xs ys j) := by
        intro xs ys vs us as bs e1 e2 d1 d2 r1 r2 j h1 h2
        obtain ⟨v1, f1, g1⟩ := val_at j (by simpa using h1) r1
        obtain ⟨v2, f2, g2⟩ := val_at j (by simpa using h2) r2
        obtain ⟨w1, k1, l1⟩ := dq_at e1 f1
        obtain ⟨w2, k2, l2⟩ := dq_at e2 f2
        have := ih w1 w2 v1 v2 _ _ A.in1 l1 l2 (isD_mem d1 k1) (isD_mem d2 k2) g1 g2 (by show A.units + 1 + m < cLine; omega)
        unfold eqAtW
        rw [k1, k2]
        simpa using this
      rcases hx1 with ⟨ws, rfl, d⟩ | ⟨ws, rfl, d⟩
      · cases hx with
        | tup q hs =>
          cases rv
          obtain ⟨its, r, t, z⟩ := I.tuple q
          rcases atom_or (m + 1) y dy with hy1 | ⟨m', hm', hy1⟩
          · have e0 : eqW (.tup ws) y = false := by
              rcases hy1 with rfl | ⟨_, rfl⟩ | ⟨_, rfl⟩ | ⟨_, rfl⟩ <;> simp only [eqW]
            rw [e0]
            exact ((eq_atom_seq hu0 hy ru hy1).1 t).2
          · have hm2 : m' = m := by omega
            subst hm2
            rcases hy1 with ⟨us, rfl, d2⟩ | ⟨us, rfl, d2⟩
            · cases hy with
              | @tup a2 vs2 _ q2 hs2 =>
                cases ru
                obtain ⟨its2, r2, t2, z2⟩ := I.tuple q2
                rename_i a1 vs1
                by_cases hab : a1 = a2
                · subst hab
                  have e := dq_inj I (.tup q hs) (.tup q2 hs2)
                  rw [← e, eqW_refl (m' + 1) _ dx]
                  exact EqAt.same _
                · refine EqAt.of_refs hab ?_
                  have n1 : its.toArray.size = ws.length := by simpa using r.length.symm.trans hs.len
                  have n2 : its2.toArray.size = us.length := by simpa using r2.length.symm.trans hs2.len
                  have w0 := RcAt.tuples t t2 hu0 (each hs hs2 d d2 r r2)
                  rw [n1, n2, ← eqWs_all] at w0
                  exact w0
            · cases hy with
              | lst q2 hs2 =>
                cases ru
                obtain ⟨its2, r2, t2, z2⟩ := I.list q2
                exact EqAt.tuple_list t t2.isList hu0
      · cases hx with
        | lst q hs =>
          cases rv
          obtain ⟨its, r, t, z⟩ := I.list q
          rcases atom_or (m + 1) y dy with hy1 | ⟨m', hm', hy1⟩
          · have e0 : eqW (.lst ws) y = false := by
              rcases hy1 with rfl | ⟨_, rfl⟩ | ⟨_, rfl⟩ | ⟨_, rfl⟩ <;> simp only [eqW]
            rw [e0]
            exact ((eq_atom_seq hu0 hy ru hy1).2 t.isList).2
          · have hm2 : m' = m := by omega
            subst hm2
            rcases hy1 with ⟨us, rfl, d2⟩ | ⟨us, rfl, d2⟩
            · cases hy with
              | tup q2 hs2 =>
                cases ru
                obtain ⟨its2, r2, t2, z2⟩ := I.tuple q2
                exact EqAt.list_tuple t.isList t2 hu0
            · cases hy with
              | @lst a2 vs2 _ q2 hs2 =>
                cases ru
                obtain ⟨its2, r2, t2, z2⟩ := I.list q2
                rename_i a1 vs1
                by_cases hab : a1 = a2
                · subst hab
                  have e := dq_inj I (.lst q hs) (.lst q2 hs2)
                  rw [← e, eqW_refl (m' + 1) _ dx]
                  exact EqAt.same _
                · refine EqAt.of_refs hab ?_
                  have n1 : its.toArray.size = ws.length := by simpa using r.length.symm.trans hs.len
                  have n2 : its2.toArray.size = us.length := by simpa using r2.length.symm.trans hs2.len
                  by_cases hz : its.toArray.size = its2.toArray.size
                  · have w0 := RcAt.lists t.isList t2.isList hz hu0 (each hs hs2 d d2 r r2)
                    have e3 : eqW (.lst ws) (.lst us) = (List.range its.toArray.size).all (eqAtW ws us) := by
                      show eqWs ws us = _
                      rw [eqWs_all]
                      have e4 : ws.length = us.length := by omega
                      rw [n1, ← e4, Nat.min_self]
                      simp
                    rw [e3]
                    exact w0
                  · have e3 : eqW (.lst ws) (.lst us) = false := by
                      show eqWs ws us = _
                      rw [eqWs_all]
                      have e4 : ws.length ≠ us.length := by omega
                      simp [e4]
                    rw [e3]
                    exact RcAt.lists_lengths t.isList t2.isList (by simpa using hz) hu0
open PySem.SeqAt in
theorem rcat_atoms {K : Frag} {A : Around} {v u : V} {a b : Value} : ∀ {x y : W}, Dq K H v x → Dq K H u y → RelV v a → RelV u b → (x = .non ∨ (∃ b, x = .bl b) ∨ (∃ i, x = .int i) ∨ ∃ z, x = .str z) → (y = .non ∨ (∃ b, y = .bl b) ∨ (∃ i, y = .int i) ∨ ∃ z, y = .str z) → RcAt A s a b (eqW x y) := by
  intro x y hx hy rv ru ax ay
  rcases ax with rfl | ⟨b1, rfl⟩ | ⟨i1, rfl⟩ | ⟨x1, rfl⟩
  · cases hx
    cases rv
    rcases ay with rfl | ⟨b2, rfl⟩ | ⟨i2, rfl⟩ | ⟨x2, rfl⟩
    · cases hy
      cases ru
      show RcAt A s _ _ true
      exact RcAt.none_none
    · cases hy
      cases ru
      show RcAt A s _ _ false
      exact RcAt.none_bool b2
    · cases hy
      obtain ⟨t2, rfl⟩ := ru
      show RcAt A s _ _ false
      exact RcAt.none_int i2 t2
    · cases hy
      obtain ⟨t2, rfl⟩ := ru
      show RcAt A s _ _ false
      exact RcAt.none_str x2 t2
  · cases hx
    cases rv
    rcases ay with rfl | ⟨b2, rfl⟩ | ⟨i2, rfl⟩ | ⟨x2, rfl⟩
    · cases hy
      cases ru
      show RcAt A s _ _ false
      exact RcAt.bool_none b1
    · cases hy
      cases ru
      show RcAt A s _ _ (b1 == b2)
      exact RcAt.bool_bool b1 b2
    · cases hy
      obtain ⟨t2, rfl⟩ := ru
      show RcAt A s _ _ ((if b1 then 1 else 0) == i2)
      exact RcAt.bool_int b1 i2 t2
    · cases hy
      obtain ⟨t2, rfl⟩ := ru
      show RcAt A s _ _ false
      exact RcAt.bool_str b1 x2 t2
  · cases hx
    obtain ⟨t1, rfl⟩ := rv
    rcases ay with rfl | ⟨b2, rfl⟩ | ⟨i2, rfl⟩ | ⟨x2, rfl⟩
    · cases hy
      cases ru
      show RcAt A s _ _ false
      exact RcAt.int_none i1 t1
    · cases hy
      cases ru
      show RcAt A s _ _ (i1 == (if b2 then 1 else 0))
      exact RcAt.int_bool i1 t1 b2
    · cases hy
      obtain ⟨t2, rfl⟩ := ru
      show RcAt A s _ _ (i1 == i2)
      exact RcAt.int_int i1 t1 i2 t2
    · cases hy
      obtain ⟨t2, rfl⟩ := ru
      show RcAt A s _ _ false
      exact RcAt.int_str i1 t1 x2 t2
  · cases hx
    obtain ⟨t1, rfl⟩ := rv
    rcases ay with rfl | ⟨b2, rfl⟩ | ⟨i2, rfl⟩ | ⟨x2, rfl⟩
    · cases hy
      cases ru
      show RcAt A s _ _ false
      exact RcAt.str_none x1 t1
    · cases hy
      cases ru
      show RcAt A s _ _ false
      exact RcAt.str_bool x1 t1 b2
    · cases hy
      obtain ⟨t2, rfl⟩ := ru
      show RcAt A s _ _ false
      exact RcAt.str_int x1 t1 i2 t2
    · cases hy
      obtain ⟨t2, rfl⟩ := ru
      show RcAt A s _ _ (x1 == x2)
      exact RcAt.str_str x1 t1 x2 t2
open PySem.SeqAt in
theorem rcat_seq {K : Frag} {A : Around} {v : V} {a : Value} {l : Addr} {its : Array Value} (hu : A.units < cLine) : ∀ {x : W}, Dq K H v x → RelV v a → (x = .non ∨ (∃ b, x = .bl b) ∨ (∃ i, x = .int i) ∨ ∃ z, x = .str z) →
    (s.heap.IsTuple l its → RcAt A s a (.ref l) false ∧ RcAt A s (.ref l) a false) ∧ (s.heap.IsList l its → RcAt A s a (.ref l) false ∧ RcAt A s (.ref l) a false) := by
  intro x hx rv ax
  rcases ax with rfl | ⟨b1, rfl⟩ | ⟨i1, rfl⟩ | ⟨x1, rfl⟩
  · cases hx
    cases rv
    exact ⟨fun t => ⟨RcAt.none_tuple t hu, RcAt.tuple_none t hu⟩, fun t => ⟨RcAt.none_list t hu, RcAt.list_none t hu⟩⟩
  · cases hx
    cases rv
    exact ⟨fun t => ⟨RcAt.bool_tuple b1 t hu, RcAt.tuple_bool b1 t hu⟩, fun t => ⟨RcAt.bool_list b1 t hu, RcAt.list_bool b1 t hu⟩⟩
  · cases hx
    obtain ⟨t1, rfl⟩ := rv
    exact ⟨fun t => ⟨RcAt.int_tuple i1 t1 t hu, RcAt.tuple_int i1 t1 t hu⟩, fun t => ⟨RcAt.int_list i1 t1 t hu, RcAt.list_int i1 t1 t hu⟩⟩
  · cases hx
    obtain ⟨t1, rfl⟩ := rv
    exact ⟨fun t => ⟨RcAt.str_tuple x1 t1 t hu, RcAt.tuple_str x1 t1 t hu⟩, fun t => ⟨RcAt.str_list x1 t1 t hu, RcAt.list_str x1 t1 t hu⟩⟩
open PySem.SeqAt in
theorem rcat_top (I : Inv X pins σ H s) (n : Nat) (x y : W) (v u : V) (a b : Value) (A : Around) (hx : Dq X.K H v x) (hy : Dq X.K H u y) (dx : isD n x = true) (dy : isD n y = true) (rv : RelV v a) (ru : RelV u b) (hu : A.units + n < cLine) : RcAt A s a b (eqW x y) := by
  have hu0 : A.units < cLine := by omega
  rcases atom_or n x dx with hx1 | ⟨m, hm, hx1⟩
  · rcases atom_or n y dy with hy1 | ⟨m', hm', hy1⟩
    · exact rcat_atoms hx hy rv ru hx1 hy1
    · have e0 : eqW x y = false := by
        rcases hx1 with rfl | ⟨_, rfl⟩ | ⟨_, rfl⟩ | ⟨_, rfl⟩ <;> rcases hy1 with ⟨ws, rfl, d⟩ | ⟨ws, rfl, d⟩ <;> simp only [eqW]
      rw [e0]
      rcases hy1 with ⟨ws, rfl, d⟩ | ⟨ws, rfl, d⟩
      · cases hy with
        | tup q hs =>
          cases ru
          obtain ⟨its, r, t, z⟩ := I.tuple q
          exact ((rcat_seq hu0 hx rv hx1).1 t).1
      · cases hy with
        | lst q hs =>
          cases ru
          obtain ⟨its, r, t, z⟩ := I.list q
          exact ((rcat_seq hu0 hx rv hx1).2 t.isList).1
  · subst hm
    have each : ∀ {xs ys : List W} {vs us : List V} {as bs : List Value}, DqAll X.K H vs xs → DqAll X.K H us ys → isDs m xs = true → isDs m ys = true → Vals vs as → Vals us bs → ∀ j (h1 : j < as.toArray.size) (h2 : j < bs.toArray.size), EqAt A.in1 s as.toArray[j] bs.toArray[j] (eqAtW xs ys j) := by
      intro xs ys vs us as bs e1 e2 d1 d2 r1 r2 j h1 h2
      obtain ⟨v1, f1, g1⟩ := val_at j (by simpa using h1) r1
      obtain ⟨v2, f2, g2⟩ := val_at j (by simpa using h2) r2
      obtain ⟨w1, k1, l1⟩ := dq_at e1 f1
      obtain ⟨w2, k2, l2⟩ := dq_at e2 f2
      have := eq_at I m w1 w2 v1 v2 _ _ A.in1 l1 l2 (isD_mem d1 k1) (isD_mem d2 k2) g1 g2 (by show A.units + 1 + m < cLine; omega)
      unfold eqAtW
      rw [k1, k2]
      simpa using this
    rcases hx1 with ⟨ws, rfl, d⟩ | ⟨ws, rfl, d⟩
    · cases hx with
      | tup q hs =>
        cases rv
        obtain ⟨its, r, t, z⟩ := I.tuple q
        rcases atom_or (m + 1) y dy with hy1 | ⟨m', hm', hy1⟩
        · have e0 : eqW (.tup ws) y = false := by
            rcases hy1 with rfl | ⟨_, rfl⟩ | ⟨_, rfl⟩ | ⟨_, rfl⟩ <;> simp only [eqW]
          rw [e0]
          exact ((rcat_seq hu0 hy ru hy1).1 t).2
        · have hm2 : m' = m := by omega
          subst hm2
          rcases hy1 with ⟨us, rfl, d2⟩ | ⟨us, rfl, d2⟩
          · cases hy with
            | tup q2 hs2 =>
              cases ru
              obtain ⟨its2, r2, t2, z2⟩ := I.tuple q2
              have n1 : its.toArray.size = ws.length := by simpa using r.length.symm.trans hs.len
              have n2 : its2.toArray.size = us.length := by simpa using r2.length.symm.trans hs2.len
              have w0 := RcAt.tuples t t2 hu0 (each hs hs2 d d2 r r2)
              rw [n1, n2, ← eqWs_all] at w0
              exact w0
          · cases hy with
            | lst q2 hs2 =>
              cases ru
              obtain ⟨its2, r2, t2, z2⟩ := I.list q2
              exact RcAt.tuple_list t t2.isList hu0
    · cases hx with
      | lst q hs =>
        cases rv
        obtain ⟨its, r, t, z⟩ := I.list q
        rcases atom_or (m + 1) y dy with hy1 | ⟨m', hm', hy1⟩
        · have e0 : eqW (.lst ws) y = false := by
            rcases hy1 with rfl | ⟨_, rfl⟩ | ⟨_, rfl⟩ | ⟨_, rfl⟩ <;> simp only [eqW]
          rw [e0]
          exact ((rcat_seq hu0 hy ru hy1).2 t.isList).2
        · have hm2 : m' = m := by omega
          subst hm2
          rcases hy1 with ⟨us, rfl, d2⟩ | ⟨us, rfl, d2⟩
          · cases hy with
            | tup q2 hs2 =>
              cases ru
              obtain ⟨its2, r2, t2, z2⟩ := I.tuple q2
              exact RcAt.list_tuple t.isList t2 hu0
          · cases hy with
            | lst q2 hs2 =>
              cases ru
              obtain ⟨its2, r2, t2, z2⟩ := I.list q2
              have n1 : its.toArray.size = ws.length := by simpa using r.length.symm.trans hs.len
              have n2 : its2.toArray.size = us.length := by simpa using r2.length.symm.trans hs2.len
              by_cases hz : its.toArray.size = its2.toArray.size
              · have w0 := RcAt.lists t.isList t2.isList hz hu0 (each hs hs2 d d2 r r2)
                have e3 : eqW (.lst ws) (.lst us) = (List.range its.toArray.size).all (eqAtW ws us) := by
                  show eqWs ws us = _
                  rw [eqWs_all]
                  have e4 : ws.length = us.length := by omega
                  rw [n1, ← e4, Nat.min_self]
                  simp
                rw [e3]
                exact w0
              · have e3 : eqW (.lst ws) (.lst us) = false := by
                  show eqWs ws us = _
                  rw [eqWs_all]
                  have e4 : ws.length ≠ us.length := by omega
                  simp [e4]
                rw [e3]
                exact RcAt.lists_lengths t.isList t2.isList (by simpa using hz) hu0
open PySem.SeqAt in
theorem rcneat_atoms {K : Frag} {A : Around} {v u : V} {a b : Value} : ∀ {x y : W}, Dq K H v x → Dq K H u y → RelV v a → RelV u b → (x = .non ∨ (∃ b, x = .bl b) ∨ (∃ i, x = .int i) ∨ ∃ z, x = .str z) → (y = .non ∨ (∃ b, y = .bl b) ∨ (∃ i, y = .int i) ∨ ∃ z, y = .str z) → RcNeAt A s a b (!eqW x y) := by
  intro x y hx hy rv ru ax ay
  rcases ax with rfl | ⟨b1, rfl⟩ | ⟨i1, rfl⟩ | ⟨x1, rfl⟩
  · cases hx
    cases rv
    rcases ay with rfl | ⟨b2, rfl⟩ | ⟨i2, rfl⟩ | ⟨x2, rfl⟩
    · cases hy
      cases ru
      show RcNeAt A s _ _ false
      exact RcNeAt.none_none
    · cases hy
      cases ru
      show RcNeAt A s _ _ true
      exact RcNeAt.none_bool b2
    · cases hy
      obtain ⟨t2, rfl⟩ := ru
      show RcNeAt A s _ _ true
      exact RcNeAt.none_int i2 t2
    · cases hy
      obtain ⟨t2, rfl⟩ := ru
      show RcNeAt A s _ _ true
      exact RcNeAt.none_str x2 t2
  · cases hx
    cases rv
    rcases ay with rfl | ⟨b2, rfl⟩ | ⟨i2, rfl⟩ | ⟨x2, rfl⟩
    · cases hy
      cases ru
      show RcNeAt A s _ _ true
      exact RcNeAt.bool_none b1
    · cases hy
      cases ru
      show RcNeAt A s _ _ (!(b1 == b2))
      exact RcNeAt.bool_bool b1 b2
    · cases hy
      obtain ⟨t2, rfl⟩ := ru
      show RcNeAt A s _ _ (!((if b1 then 1 else 0) == i2))
      exact RcNeAt.bool_int b1 i2 t2
    · cases hy
      obtain ⟨t2, rfl⟩ := ru
      show RcNeAt A s _ _ true
      exact RcNeAt.bool_str b1 x2 t2
  · cases hx
    obtain ⟨t1, rfl⟩ := rv
    rcases ay with rfl | ⟨b2, rfl⟩ | ⟨i2, rfl⟩ | ⟨x2, rfl⟩
    · cases hy
      cases ru
      show RcNeAt A s _ _ true
      exact RcNeAt.int_none i1 t1
    · cases hy
      cases ru
      show RcNeAt A s _ _ (!(i1 == (if b2 then 1 else 0)))
      exact RcNeAt.int_bool i1 t1 b2
    · cases hy
      obtain ⟨t2, rfl⟩ := ru
      show RcNeAt A s _ _ (!(i1 == i2))
      exact RcNeAt.int_int i1 t1 i2 t2
    · cases hy
      obtain ⟨t2, rfl⟩ := ru
      show RcNeAt A s _ _ true
      exact RcNeAt.int_str i1 t1 x2 t2
  · cases hx
    obtain ⟨t1, rfl⟩ := rv
    rcases ay with rfl | ⟨b2, rfl⟩ | ⟨i2, rfl⟩ | ⟨x2, rfl⟩
    · cases hy
      cases ru
      show RcNeAt A s _ _ true
      exact RcNeAt.str_none x1 t1
    · cases hy
      cases ru
      show RcNeAt A s _ _ true
      exact RcNeAt.str_bool x1 t1 b2
    · cases hy
      obtain ⟨t2, rfl⟩ := ru
      show RcNeAt A s _ _ true
      exact RcNeAt.str_int x1 t1 i2 t2
    · cases hy
      obtain ⟨t2, rfl⟩ := ru
      show RcNeAt A s _ _ (!(x1 == x2))
      exact RcNeAt.str_str x1 t1 x2 t2
open PySem.SeqAt in
theorem rcneat_seq {K : Frag} {A : Around} {v : V} {a : Value} {l : Addr} {its : Array Value} (hu : A.units < cLine) : ∀ {x : W}, Dq K H v x → RelV v a → (x = .non ∨ (∃ b, x = .bl b) ∨ (∃ i, x = .int i) ∨ ∃ z, x = .str z) →
    (s.heap.IsTuple l its → RcNeAt A s a (.ref l) true ∧ RcNeAt A s (.ref l) a true) ∧ (s.heap.IsList l its → RcNeAt A s a (.ref l) true ∧ RcNeAt A s (.ref l) a true) := by
  intro x hx rv ax
  rcases ax with rfl | ⟨b1, rfl⟩ | ⟨i1, rfl⟩ | ⟨x1, rfl⟩
  · cases hx
    cases rv
    exact ⟨fun t => ⟨RcNeAt.none_tuple t hu, RcNeAt.tuple_none t hu⟩, fun t => ⟨RcNeAt.none_list t hu, RcNeAt.list_none t hu⟩⟩
  · cases hx
    cases rv
    exact ⟨fun t => ⟨RcNeAt.bool_tuple b1 t hu, RcNeAt.tuple_bool b1 t hu⟩, fun t => ⟨RcNeAt.bool_list b1 t hu, RcNeAt.list_bool b1 t hu⟩⟩
  · cases hx
    obtain ⟨t1, rfl⟩ := rv
    exact ⟨fun t => ⟨RcNeAt.int_tuple i1 t1 t hu, RcNeAt.tuple_int i1 t1 t hu⟩, fun t => ⟨RcNeAt.int_list i1 t1 t hu, RcNeAt.list_int i1 t1 t hu⟩⟩
  · cases hx
    obtain ⟨t1, rfl⟩ := rv
    exact ⟨fun t => ⟨RcNeAt.str_tuple x1 t1 t hu, RcNeAt.tuple_str x1 t1 t hu⟩, fun t => ⟨RcNeAt.str_list x1 t1 t hu, RcNeAt.list_str x1 t1 t hu⟩⟩
open PySem.SeqAt in
theorem rcneat_top (I : Inv X pins σ H s) (n : Nat) (x y : W) (v u : V) (a b : Value) (A : Around) (hx : Dq X.K H v x) (hy : Dq X.K H u y) (dx : isD n x = true) (dy : isD n y = true) (rv : RelV v a) (ru : RelV u b) (hu : A.units + n < cLine) : RcNeAt A s a b (!eqW x y) := by
  have hu0 : A.units < cLine := by omega
  rcases atom_or n x dx with hx1 | ⟨m, hm, hx1⟩
  · rcases atom_or n y dy with hy1 | ⟨m', hm', hy1⟩
    · exact rcneat_atoms hx hy rv ru hx1 hy1
    · have e0 : eqW x y = false := by
        rcases hx1 with rfl | ⟨_, rfl⟩ | ⟨_, rfl⟩ | ⟨_, rfl⟩ <;> rcases hy1 with ⟨ws, rfl, d⟩ | ⟨ws, rfl, d⟩ <;> simp only [eqW]
      rw [e0]
      rcases hy1 with ⟨ws, rfl, d⟩ | ⟨ws, rfl, d⟩
      · cases hy with
        | tup q hs =>
          cases ru
          obtain ⟨its, r, t, z⟩ := I.tuple q
          exact ((rcneat_seq hu0 hx rv hx1).1 t).1
      · cases hy with
        | lst q hs =>
          cases ru
          obtain ⟨its, r, t, z⟩ := I.list q
          exact ((rcneat_seq hu0 hx rv hx1).2 t.isList).1
  · subst hm
    have each : ∀ {xs ys : List W} {vs us : List V} {as bs : List Value}, DqAll X.K H vs xs → DqAll X.K H us ys → isDs m xs = true → isDs m ys = true → Vals vs as → Vals us bs → ∀ j (h1 : j < as.toArray.size) (h2 : j < bs.toArray.size), EqAt A.in1 s as.toArray[j] bs.toArray[j] (eqAtW xs ys j) := by
      intro xs ys vs us as bs e1 e2 d1 d2 r1 r2 j h1 h2
      obtain ⟨v1, f1, g1⟩ := val_at j (by simpa using h1) r1
      obtain ⟨v2, f2, g2⟩ := val_at j (by simpa using h2) r2
      obtain ⟨w1, k1, l1⟩ := dq_at e1 f1
      obtain ⟨w2, k2, l2⟩ := dq_at e2 f2
      have := eq_at I m w1 w2 v1 v2 _ _ A.in1 l1 l2 (isD_mem d1 k1) (isD_mem d2 k2) g1 g2 (by show A.units + 1 + m < cLine; omega)
      unfold eqAtW
      rw [k1, k2]
      simpa using this
    rcases hx1 with ⟨ws, rfl, d⟩ | ⟨ws, rfl, d⟩
    · cases hx with
      | tup q hs =>
        cases rv
        obtain ⟨its, r, t, z⟩ := I.tuple q
        rcases atom_or (m + 1) y dy with hy1 | ⟨m', hm', hy1⟩
        · have e0 : eqW (.tup ws) y = false := by
            rcases hy1 with rfl | ⟨_, rfl⟩ | ⟨_, rfl⟩ | ⟨_, rfl⟩ <;> simp only [eqW]
          rw [e0]
          exact ((rcneat_seq hu0 hy ru hy1).1 t).2
        · have hm2 : m' = m := by omega
          subst hm2
          rcases hy1 with ⟨us, rfl, d2⟩ | ⟨us, rfl, d2⟩
          · cases hy with
            | tup q2 hs2 =>
              cases ru
              obtain ⟨its2, r2, t2, z2⟩ := I.tuple q2
              have n1 : its.toArray.size = ws.length := by simpa using r.length.symm.trans hs.len
              have n2 : its2.toArray.size = us.length := by simpa using r2.length.symm.trans hs2.len
              have w0 := RcNeAt.tuples t t2 hu0 (each hs hs2 d d2 r r2)
              rw [n1, n2, ← eqWs_all] at w0
              exact w0
          · cases hy with
            | lst q2 hs2 =>
              cases ru
              obtain ⟨its2, r2, t2, z2⟩ := I.list q2
              exact RcNeAt.tuple_list t t2.isList hu0
    · cases hx with
      | lst q hs =>
        cases rv
        obtain ⟨its, r, t, z⟩ := I.list q
        rcases atom_or (m + 1) y dy with hy1 | ⟨m', hm', hy1⟩
        · have e0 : eqW (.lst ws) y = false := by
            rcases hy1 with rfl | ⟨_, rfl⟩ | ⟨_, rfl⟩ | ⟨_, rfl⟩ <;> simp only [eqW]
          rw [e0]
          exact ((rcneat_seq hu0 hy ru hy1).2 t.isList).2
        · have hm2 : m' = m := by omega
          subst hm2
          rcases hy1 with ⟨us, rfl, d2⟩ | ⟨us, rfl, d2⟩
          · cases hy with
            | tup q2 hs2 =>
              cases ru
              obtain ⟨its2, r2, t2, z2⟩ := I.tuple q2
              exact RcNeAt.list_tuple t.isList t2 hu0
          · cases hy with
            | lst q2 hs2 =>
              cases ru
              obtain ⟨its2, r2, t2, z2⟩ := I.list q2
              have n1 : its.toArray.size = ws.length := by simpa using r.length.symm.trans hs.len
              have n2 : its2.toArray.size = us.length := by simpa using r2.length.symm.trans hs2.len
              by_cases hz : its.toArray.size = its2.toArray.size
              · have w0 := RcNeAt.lists t.isList t2.isList hz hu0 (each hs hs2 d d2 r r2)
                have e3 : eqW (.lst ws) (.lst us) = (List.range its.toArray.size).all (eqAtW ws us) := by
                  show eqWs ws us = _
                  rw [eqWs_all]
                  have e4 : ws.length = us.length := by omega
                  rw [n1, ← e4, Nat.min_self]
                  simp
                rw [e3]
                exact w0
              · have e3 : eqW (.lst ws) (.lst us) = false := by
                  show eqWs ws us = _
                  rw [eqWs_all]
                  have e4 : ws.length ≠ us.length := by omega
                  simp [e4]
                rw [e3]
                exact RcNeAt.lists_lengths t.isList t2.isList (by simpa using hz) hu0
end
end Q
namespace Q
open PySem L2 Evl
/-! x in xs, data of any depth -/
theorem rel_inj {v v' : V} {u : Value} (p : RelV v u) (p' : RelV v' u) : v = v' := by
  cases v <;> cases v' <;> simp only [RelV] at p p' <;> first
    | rfl
    | (subst p; cases p'; rfl)
    | (subst p; cases p'; done)
    | (subst p; obtain ⟨t, h⟩ := p'; cases h; rfl)
    | (subst p; obtain ⟨t, h⟩ := p'; cases h; done)
    | (obtain ⟨t, rfl⟩ := p; cases p'; rfl)
    | (obtain ⟨t, rfl⟩ := p; cases p'; done)
    | (obtain ⟨t, rfl⟩ := p; obtain ⟨t', h⟩ := p'; cases h; rfl)
    | (obtain ⟨t, rfl⟩ := p; obtain ⟨t', h⟩ := p'; cases h; done)
section
variable {X : Cx} {pins : List (Addr × Obj)} {σ : St} {H : Hp} {s : Shared}
open Classical in
/-- the answer by the item itself -/
noncomputable def ansOf (K : Frag) (H : Hp) (n : Nat) (x : W) (u : Value) : Bool := decide (∃ v w, RelV v u ∧ Dq K H v w ∧ isD n w = true ∧ eqW w x = true)
open Classical in
theorem ansOf_is (I : Inv X pins σ H s) {n : Nat} {x w : W} {v : V} {u : Value} (r : RelV v u) (d : Dq X.K H v w) (k : isD n w = true) : ansOf X.K H n x u = eqW w x := by
  unfold ansOf
  by_cases h : eqW w x = true
  · rw [h]
    exact decide_eq_true ⟨v, w, r, d, k, h⟩
  · rw [Bool.not_eq_true] at h
    rw [h]
    refine decide_eq_false fun ⟨v', w', r', d', k', h'⟩ => ?_
    rw [rel_inj r' r] at d'
    rw [dq_inj I d' d, h] at h'
    cases h'
theorem any_ans (I : Inv X pins σ H s) {n : Nat} {x : W} : ∀ {vs : List V} {ws : List W} {us : List Value}, Vals vs us → DqAll X.K H vs ws → isDs n ws = true → us.any (ansOf X.K H n x) = ws.any fun w => eqW w x
  | _, _, _, .nil, h, _ => by
    cases h
    rfl
  | _, _, _, .cons r rs, h, k => by
    cases h with
    | cons d ds =>
      have k := Bool.and_eq_true_iff.mp k
      rw [List.any_cons, List.any_cons, ansOf_is I r d k.1, any_ans I rs ds k.2]
theorem mem_ans (I : Inv X pins σ H s) {A : Around} {n : Nat} {x : W} {v : V} {a : Value} (hx : Dq X.K H v x) (dx : isD n x = true) (rx : RelV v a) (hu : A.units + n < cLine) : ∀ {vs : List V} {ws : List W} {us : List Value}, Vals vs us → DqAll X.K H vs ws → isDs n ws = true → ∀ y ∈ us, SeqAt.EqAt A s y a (ansOf X.K H n x y)
  | _, _, _, .nil, _, _ => fun y hy => absurd hy List.not_mem_nil
  | _, _, _, .cons r rs, h, k => by
    cases h with
    | cons d ds =>
      have k := Bool.and_eq_true_iff.mp k
      intro y hy
      rcases List.mem_cons.mp hy with rfl | hy
      · rw [ansOf_is I r d k.1]
        exact eq_at I n _ x _ v _ a A d hx k.1 dx r rx hu
      · exact mem_ans I hx dx rx hu rs ds k.2 y hy
def rInQ (K : Frag) (neg : Bool) : R2 := fun x y H Q => ∃ (n : Nat) (p : Addr) (vs : List V) (w : W) (ws : List W), n ≤ 60 ∧ y = .ref p ∧ (SqL K H p vs ∨ SqT K H p vs) ∧ Dq K H x w ∧ isD n w = true ∧ DqAll K H vs ws ∧ isDs n ws = true ∧ Q (.bl (if neg then !(ws.any fun z => eqW z w) else ws.any fun z => eqW z w)) H
theorem op_notInQ (hu : X.A.units + 64 < cLine) : OpR X (compareOp .NotIn) (rInQ X.K true) := by
  intro pins s σ H x y v u Q I rx ry h
  obtain ⟨n, p, vs, w, ws, hn, rfl, hq, dx, kx, ds, ks, q⟩ := h
  cases ry
  rcases hq with hq | hq
  · obtain ⟨its, r, t, z⟩ := I.list hq
    refine SeqAt.notIn_listAt (ansOf X.K H n w) t.isList (fun y hy => mem_ans I dx kx rx (by show X.A.units + 1 + n < cLine; omega) r ds ks y (by simpa using hy)) ?_
    rw [← Array.any_toList, any_ans I r ds ks]
    exact ⟨.bl _, H, I, rfl, q⟩
  · obtain ⟨its, r, t, z⟩ := I.tuple hq
    refine SeqAt.notIn_tupleAt (ansOf X.K H n w) t (fun y hy => mem_ans I dx kx rx (by show X.A.units + 1 + n < cLine; omega) r ds ks y (by simpa using hy)) ?_
    rw [← Array.any_toList, any_ans I r ds ks]
    exact ⟨.bl _, H, I, rfl, q⟩
/-- x == y, x != y -/
def rEqQ (K : Frag) (neg : Bool) : R2 := fun x y H Q => ∃ (a b : W), Dq K H x a ∧ Dq K H y b ∧ isD 60 a = true ∧ isD 60 b = true ∧ Q (.bl (if neg then !eqW a b else eqW a b)) H
theorem op_eqQ (hu : X.A.units + 64 < cLine) : OpR X (compareOp .Eq) (rEqQ X.K false) := by
  intro pins s σ H x y v u Q I rx ry h
  obtain ⟨a, b, da, db, ka, kb, q⟩ := h
  exact rcat_top I 60 a b x y v u X.A da db ka kb rx ry (by omega) _ _ _ _ ⟨.bl _, H, I, rfl, q⟩
theorem op_neQ (hu : X.A.units + 64 < cLine) : OpR X (compareOp .NotEq) (rEqQ X.K true) := by
  intro pins s σ H x y v u Q I rx ry h
  obtain ⟨a, b, da, db, ka, kb, q⟩ := h
  exact rcneat_top I 60 a b x y v u X.A da db ka kb rx ry (by omega) _ _ _ _ ⟨.bl _, H, I, rfl, q⟩
end
end Q
namespace Q
open PySem L2 Evl
/-! operations on values -/
def sLt (a b : Str) : Bool := decide (a.cps.toList < b.cps.toList)
@[reducible] def rdL (μ : Mu) (w : W) : Option (List W) := match w with
  | .lst ws => some ws
  | .rol ws => some ws
  | .ref p => (match μ p with
    | some (.ls ws) => some ws
    | _ => none)
  | _ => none
/-- no script -/
@[reducible] def rdM (μ : Mu) (w : W) : Option (List W) := match w with
  | .lst ws => some ws
  | .ref p => (match μ p with
    | some (.ls ws) => some ws
    | _ => none)
  | _ => none
theorem rdL_at {K : Frag} {H : Hp} {μ : Mu} {v : V} {w : W} {ws : List W} (h : rdL μ w = some ws) (r : Rw K H μ v w) (m : Mem K H μ) : ∃ a vs, v = .ref a ∧ SqL K H a vs ∧ RwAll K H μ vs ws := by
  unfold rdL at h
  split at h
  · cases h
    cases r with
    | lst h hs => exact ⟨_, _, rfl, .inl (.inl h.1), hs⟩
  · cases h
    cases r with
    | rol h hs => exact ⟨_, _, rfl, .inl h.1, hs⟩
  · split at h
    · cases h
      rename_i e
      cases r
      obtain ⟨vs, h1, h2⟩ := m _ _ e
      exact ⟨_, vs, rfl, .inl (.inl h1), h2⟩
    · cases h
  · cases h
theorem rdM_at {K : Frag} {H : Hp} {μ : Mu} {v : V} {w : W} {ws : List W} (h : rdM μ w = some ws) (r : Rw K H μ v w) (m : Mem K H μ) : ∃ a vs, v = .ref a ∧ H a = some (.lst vs) ∧ RwAll K H μ vs ws := by
  unfold rdM at h
  split at h
  · cases h
    cases r with
    | lst h hs => exact ⟨_, _, rfl, h.1, hs⟩
  · split at h
    · cases h
      rename_i e
      cases r
      obtain ⟨vs, h1, h2⟩ := m _ _ e
      exact ⟨_, vs, rfl, h1, h2⟩
    · cases h
  · cases h
theorem big {n : Nat} (h : n ≤ 16000000) : n ≤ sizeLine := by
  rw [sizeLine_eq]
  omega
theorem biglt {n : Nat} (h : n < 16000000) : n < sizeLine := by
  rw [sizeLine_eq]
  omega
theorem VL.now {K : Frag} {Q : VK} {μ : Mu} {H : Hp} {P : Po} (l : VL K Q μ H P) {w : W} {v : V} (p : P w μ) (m : Mem K H μ) (r : Rw K H μ v w) : Q v H := l w μ v H p (Stp.refl μ H) m r
theorem VL.tup {K : Frag} {Q : VK} {μ : Mu} {H : Hp} {P : Po} (l : VL K Q μ H P) {ws : List W} {vs : List V} (p : P (.tup ws) μ) (m : Mem K H μ) (r : RwAll K H μ vs ws) {a : Addr} (ha : H a = none) : Q (.ref a) (upd H a (.tup vs)) := l _ μ _ _ p (Stp.new ha) (m.new ha) (new_tup m ha r)
theorem VL.lst {K : Frag} {Q : VK} {μ : Mu} {H : Hp} {P : Po} (l : VL K Q μ H P) {ws : List W} {vs : List V} (p : P (.lst ws) μ) (m : Mem K H μ) (r : RwAll K H μ vs ws) {a : Addr} (ha : H a = none) : Q (.ref a) (upd H a (.lst vs)) := l _ μ _ _ p (Stp.new ha) (m.new ha) (new_lst m ha r)
theorem VL.ls {K : Frag} {Q : VK} {μ : Mu} {H : Hp} {P : Po} (l : VL K Q μ H P) {ws : List W} {vs : List V} (p : ∀ p, μ p = none → P (.ref p) (mset μ p (.ls ws))) (m : Mem K H μ) (r : RwAll K H μ vs ws) {a : Addr} (ha : H a = none) : Q (.ref a) (upd H a (.lst vs)) := l _ _ _ _ (p a (m.free ha)) (Stp.newT ha) (new_ls m ha r) (.ref a)
@[reducible] def wAdd : F2 := fun x y μ P => match x with
  | .int i => (match y with
    | .int j => P (.int (i + j)) μ
    | _ => False)
  | .str a => (match y with
    | .str b => a.length + b.length ≤ 16000000 ∧ P (.str (a ++ b)) μ
    | _ => False)
  | .tup xs => (match y with
    | .tup ys => xs.length + ys.length ≤ 16000000 ∧ P (.tup (xs ++ ys)) μ
    | _ => False)
  | x => (match rdM μ x with
    | some xs => (match rdM μ y with
      | some ys => xs.length + ys.length ≤ 16000000 ∧ P (.lst (xs ++ ys)) μ
      | none => False)
    | none => False)
@[reducible] def wSub : F2 := fun x y μ P => match x, y with
  | .int i, .int j => P (.int (i - j)) μ
  | _, _ => False
def MulO (i j : Int) : Prop := CMul i j ∨ CMulW i j
theorem MulO.l {i j : Int} (h : -(2 ^ 64) < i ∧ i < 2 ^ 64 := by decide) : MulO i j := .inl (.inl h)
theorem MulO.r {i j : Int} (h : -(2 ^ 64) < j ∧ j < 2 ^ 64 := by decide) : MulO i j := .inl (.inr h)
@[reducible] def wMul : F2 := fun x y μ P => match x with
  | .int i => (match y with
    | .int j => MulO i j ∧ P (.int (i * j)) μ
    | _ => False)
  | .str a => (match y with
    | .int j => MulOk a j ∧ P (.str (Txt.mul a j)) μ
    | _ => False)
  | _ => False
@[reducible] def wFdv : F2 := fun x y μ P => match x, y with
  | .int i, .int j => (0 < j ∧ j < 1073741824) ∧ P (.int (i / j)) μ
  | _, _ => False
@[reducible] def wMod : F2 := fun x y μ P => match x, y with
  | .int i, .int j => 0 < j ∧ P (.int (i % j)) μ
  | _, _ => False
@[reducible] def wLt : F2 := fun x y μ P => match x with
  | .int i => (match y with
    | .int j => P (.bl (decide (i < j))) μ
    | _ => False)
  | .str a => (match y with
    | .str b => P (.bl (sLt a b)) μ
    | _ => False)
  | _ => False
@[reducible] def wLe : F2 := fun x y μ P => match x with
  | .int i => (match y with
    | .int j => P (.bl (decide (i ≤ j))) μ
    | _ => False)
  | .str a => (match y with
    | .str b => P (.bl (!sLt b a)) μ
    | _ => False)
  | _ => False
@[reducible] def wGt : F2 := fun x y μ P => match x with
  | .int i => (match y with
    | .int j => P (.bl (decide (j < i))) μ
    | _ => False)
  | .str a => (match y with
    | .str b => P (.bl (sLt b a)) μ
    | _ => False)
  | _ => False
@[reducible] def drf (μ : Mu) (w : W) : W := match w with
  | .rol ws => .lst ws
  | .ref p => (match μ p with
    | some (.ls ws) => .lst ws
    | _ => .ref p)
  | w => w
def wEqG (neg : Bool) : F2 := fun x y μ P => isD 60 (drf μ x) = true ∧ isD 60 (drf μ y) = true ∧ P (.bl (if neg then !eqW (drf μ x) (drf μ y) else eqW (drf μ x) (drf μ y))) μ
@[reducible] def wEq : F2 := fun x y μ P => match x with
  | .int i => (match y with
    | .int j => P (.bl (decide (i = j))) μ
    | y => wEqG false (.int i) y μ P)
  | .str a => (match y with
    | .str b => P (.bl (decide (a = b))) μ
    | y => wEqG false (.str a) y μ P)
  | .bl a => (match y with
    | .bl b => P (.bl (decide (a = b))) μ
    | y => wEqG false (.bl a) y μ P)
  | x => wEqG false x y μ P
@[reducible] def wNe : F2 := fun x y μ P => match x with
  | .int i => (match y with
    | .int j => P (.bl (!decide (i = j))) μ
    | y => wEqG true (.int i) y μ P)
  | .str a => (match y with
    | .str b => P (.bl (!decide (a = b))) μ
    | y => wEqG true (.str a) y μ P)
  | .bl a => (match y with
    | .bl b => P (.bl (!decide (a = b))) μ
    | y => wEqG true (.bl a) y μ P)
  | x => wEqG true x y μ P
@[reducible] def isN (w : W) : Bool := match w with
  | .non => true
  | _ => false
@[reducible] def wIs : F2 := fun x y μ P => match y with
  | .non => P (.bl (isN x)) μ
  | .bl b => (match x with
    | .bl a => P (.bl (decide (a = b))) μ
    | _ => False)
  | _ => False
section
variable {X : Cx}
theorem rw_int {K : Frag} {H : Hp} {μ : Mu} {v : V} {i : Int} (h : Rw K H μ v (.int i)) : v = .int i := by
  cases h
  rfl
theorem rw_str {K : Frag} {H : Hp} {μ : Mu} {v : V} {i : Str} (h : Rw K H μ v (.str i)) : v = .str i := by
  cases h
  rfl
theorem opU_add : OpR X (binaryOp .Add) (rW X.K wAdd) := opR_imp (op_add.or (op_add_str.or (op_catA.or op_cat))) fun x y H Q h => by
  obtain ⟨wx, wy, μ, P, rx, ry, m, h, l⟩ := h
  unfold wAdd at h
  split at h
  · split at h
    · exact .inl ⟨_, _, rw_int rx, rw_int ry, l.now h m (.int _)⟩
    · exact h.elim
  · split at h
    · exact .inr (.inl ⟨_, _, rw_str rx, rw_str ry, big h.1, l.now h.2 m (.str _)⟩)
    · exact h.elim
  · split at h
    · cases rx with
      | tup q hs =>
        cases ry with
        | tup q2 hs2 =>
          have l1 := hs.len
          have l2 := hs2.len
          refine .inr (.inr (.inl ⟨_, _, _, _, rfl, rfl, tup_sq q, tup_sq q2, big (by omega), fun e => ?_, fun _ e => ?_, fun _ _ p hp => l.tup h.2 m (hs.app hs2) hp⟩))
          · subst e
            cases hs
            exact l.now h.2 m (.tup q2 hs2)
          · subst e
            cases hs2
            exact l.now h.2 m (.tup q (by rw [List.append_nil]; exact hs))
    · exact h.elim
  · split at h
    · rename_i xs ex
      split at h
      · rename_i ys ey
        obtain ⟨a, vs, rfl, ha, r1⟩ := rdM_at ex rx m
        obtain ⟨b, us, rfl, hb, r2⟩ := rdM_at ey ry m
        have l1 := r1.len
        have l2 := r2.len
        exact .inr (.inr (.inr ⟨a, b, vs, us, rfl, rfl, ha, hb, big (by omega), fun p hp => l.lst h.2 m (r1.app r2) hp⟩))
      · exact h.elim
    · exact h.elim
theorem opU_sub : OpR X (binaryOp .Sub) (rW X.K wSub) := opR_imp op_sub fun x y H Q h => by
  obtain ⟨wx, wy, μ, P, rx, ry, m, h, l⟩ := h
  unfold wSub at h
  split at h
  · exact ⟨_, _, rw_int rx, rw_int ry, l.now h m (.int _)⟩
  · exact h.elim
def rRepS : R2 := fun x y H Q => ∃ z i, x = .str z ∧ y = .int i ∧ MulOk z i ∧ Q (.str (Txt.mul z i)) H
theorem op_repS {X : Cx} : OpR X (binaryOp .Mult) rRepS := by
  intro pins s σ H x y v u Q I rx ry h
  obtain ⟨z, i, rfl, rfl, ok, q⟩ := h
  obtain ⟨t, rfl⟩ := rx
  obtain ⟨t', rfl⟩ := ry
  exact SB.mul ok fun t2 k => ⟨.str (Txt.mul z i), H, I.tok _, ⟨_, rfl⟩, q⟩
theorem opU_mul : OpR X (binaryOp .Mult) (rW X.K wMul) := opR_imp (op_mul.or (op_mulW.or op_repS)) fun x y H Q h => by
  obtain ⟨wx, wy, μ, P, rx, ry, m, h, l⟩ := h
  unfold wMul at h
  split at h
  · split at h
    · rcases h.1 with c | c
      · exact .inl ⟨_, _, rw_int rx, rw_int ry, c, l.now h.2 m (.int _)⟩
      · exact .inr (.inl ⟨_, _, rw_int rx, rw_int ry, c, l.now h.2 m (.int _)⟩)
    · exact h.elim
  · split at h
    · exact .inr (.inr ⟨_, _, rw_str rx, rw_int ry, h.1, l.now h.2 m (.str _)⟩)
    · exact h.elim
  · exact h.elim
theorem opU_fdv : OpR X (binaryOp .FloorDiv) (rW X.K wFdv) := opR_imp op_fdiv fun x y H Q h => by
  obtain ⟨wx, wy, μ, P, rx, ry, m, h, l⟩ := h
  unfold wFdv at h
  split at h
  · exact ⟨_, _, rw_int rx, rw_int ry, h.1, l.now h.2 m (.int _)⟩
  · exact h.elim
theorem opU_mod : OpR X (binaryOp .Mod) (rW X.K wMod) := opR_imp op_mod fun x y H Q h => by
  obtain ⟨wx, wy, μ, P, rx, ry, m, h, l⟩ := h
  unfold wMod at h
  split at h
  · exact ⟨_, _, rw_int rx, rw_int ry, h.1, l.now h.2 m (.int _)⟩
  · exact h.elim
theorem opU_lt : OpR X (compareOp .Lt) (rW X.K wLt) := opR_imp (op_lt.or op_lt_str) fun x y H Q h => by
  obtain ⟨wx, wy, μ, P, rx, ry, m, h, l⟩ := h
  unfold wLt at h
  split at h
  · split at h
    · exact .inl ⟨_, _, rw_int rx, rw_int ry, l.now h m (.bl _)⟩
    · exact h.elim
  · split at h
    · exact .inr ⟨_, _, rw_str rx, rw_str ry, l.now h m (.bl _)⟩
    · exact h.elim
  · exact h.elim
theorem opU_le : OpR X (compareOp .LtE) (rW X.K wLe) := opR_imp (op_le.or op_le_str) fun x y H Q h => by
  obtain ⟨wx, wy, μ, P, rx, ry, m, h, l⟩ := h
  unfold wLe at h
  split at h
  · split at h
    · exact .inl ⟨_, _, rw_int rx, rw_int ry, l.now h m (.bl _)⟩
    · exact h.elim
  · split at h
    · exact .inr ⟨_, _, rw_str rx, rw_str ry, l.now h m (.bl _)⟩
    · exact h.elim
  · exact h.elim
theorem drf_dq {K : Frag} {H : Hp} {μ : Mu} {n : Nat} {v : V} {w : W} (r : Rw K H μ v w) (m : Mem K H μ) (d : isD n (drf μ w) = true) : Dq K H v (drf μ w) := by
  cases w with
  | ref p =>
    cases r
    cases e : μ p with
    | none => simp only [drf, e] at d; cases n <;> cases d
    | some o =>
      cases o with
      | ls ws =>
        simp only [drf, e] at d ⊢
        obtain ⟨vs, h1, h2⟩ := m _ _ e
        cases n with
        | zero => cases d
        | succ n => exact .lst (.inl (.inl h1)) (dqs_of h2 d)
      | _ => simp only [drf, e] at d; cases n <;> cases d
  | rol ws =>
    cases r with
    | rol h hs => cases n with
      | zero => cases d
      | succ n => exact .lst (.inl h.1) (dqs_of hs d)
  | _ => exact dq_of r d
theorem decV_int (i j : Int) : decide (V.int i = V.int j) = decide (i = j) := by simp only [V.int.injEq]
theorem decV_str (i j : Str) : decide (V.str i = V.str j) = decide (i = j) := by simp only [V.str.injEq]
theorem decV_bl (i j : Bool) : decide (V.bl i = V.bl j) = decide (i = j) := by simp only [V.bl.injEq]
theorem eq_gen {neg : Bool} {x y : W} {μ : Mu} {P : Po} {H : Hp} {v u : V} {Q : VK} (h : wEqG neg x y μ P) (rx : Rw X.K H μ v x) (ry : Rw X.K H μ u y) (m : Mem X.K H μ) (l : VL X.K Q μ H P) : rEqQ X.K neg v u H Q :=
  ⟨_, _, drf_dq rx m h.1, drf_dq ry m h.2.1, h.1, h.2.1, l.now h.2.2 m (.bl _)⟩
theorem opU_eq (hu : X.A.units + 64 < cLine) : OpR X (compareOp .Eq) (rW X.K wEq) := opR_imp (op_eq.or (op_eqQ hu)) fun x y H Q h => by
  obtain ⟨wx, wy, μ, P, rx, ry, m, h, l⟩ := h
  unfold wEq at h
  split at h
  · split at h
    · cases rx
      cases ry
      exact .inl ⟨rfl, by rw [decV_int]; exact l.now h m (.bl _)⟩
    · exact .inr (eq_gen h rx ry m l)
  · split at h
    · cases rx
      cases ry
      exact .inl ⟨rfl, by rw [decV_str]; exact l.now h m (.bl _)⟩
    · exact .inr (eq_gen h rx ry m l)
  · split at h
    · cases rx
      cases ry
      exact .inl ⟨rfl, by rw [decV_bl]; exact l.now h m (.bl _)⟩
    · exact .inr (eq_gen h rx ry m l)
  · exact .inr (eq_gen h rx ry m l)
theorem opU_ne (hu : X.A.units + 64 < cLine) : OpR X (compareOp .NotEq) (rW X.K wNe) := opR_imp (op_ne.or (op_neQ hu)) fun x y H Q h => by
  obtain ⟨wx, wy, μ, P, rx, ry, m, h, l⟩ := h
  unfold wNe at h
  split at h
  · split at h
    · cases rx
      cases ry
      exact .inl ⟨rfl, by rw [decV_int]; exact l.now h m (.bl _)⟩
    · exact .inr (eq_gen h rx ry m l)
  · split at h
    · cases rx
      cases ry
      exact .inl ⟨rfl, by rw [decV_str]; exact l.now h m (.bl _)⟩
    · exact .inr (eq_gen h rx ry m l)
  · split at h
    · cases rx
      cases ry
      exact .inl ⟨rfl, by rw [decV_bl]; exact l.now h m (.bl _)⟩
    · exact .inr (eq_gen h rx ry m l)
  · exact .inr (eq_gen h rx ry m l)
theorem isN_rw {K : Frag} {H : Hp} {μ : Mu} {v : V} {w : W} (h : Rw K H μ v w) : decide (v = .non) = isN w := by cases h <;> rfl
theorem opU_is : OpR X (compareOp .Is) (rW X.K wIs) := opR_imp (op_isN.or op_isBl) fun x y H Q h => by
  obtain ⟨wx, wy, μ, P, rx, ry, m, h, l⟩ := h
  unfold wIs at h
  split at h
  · cases ry
    exact .inl ⟨rfl, by rw [isN_rw rx]; exact l.now h m (.bl _)⟩
  · split at h
    · cases rx
      cases ry
      exact .inr ⟨_, _, rfl, rfl, l.now h m (.bl _)⟩
    · exact h.elim
  · exact h.elim
end
/-! dicts by their keys -/
def valW {κ : Type} [DecidableEq κ] (kvs : List (κ × W)) (k : κ) : Option W := (kvs.find? fun kv => decide (kv.1 = k)).map (·.2)
def putW {κ : Type} [DecidableEq κ] (kvs : List (κ × W)) (k : κ) (v : W) : List (κ × W) :=
  if (kvs.any fun kv => decide (kv.1 = k)) = true then kvs.map (fun kv => if kv.1 = k then (kv.1, v) else kv) else kvs ++ [(k, v)]
def dropW {κ : Type} [DecidableEq κ] (kvs : List (κ × W)) (k : κ) : List (κ × W) := kvs.filter fun kv => decide (kv.1 ≠ k)
theorem rwp_any {K : Frag} {H : Hp} {μ : Mu} {κ : Type} [DecidableEq κ] {k : κ} : ∀ {kv : List (κ × V)} {kw : List (κ × W)}, RwP K H μ kv kw → (kv.any fun p => decide (p.1 = k)) = (kw.any fun p => decide (p.1 = k))
  | _, _, .nil => rfl
  | _, _, .cons h hs => by
    rw [List.any_cons, List.any_cons, rwp_any hs]
theorem rwp_val {K : Frag} {H : Hp} {μ : Mu} {κ : Type} [DecidableEq κ] {k : κ} : ∀ {kv : List (κ × V)} {kw : List (κ × W)}, RwP K H μ kv kw → (valW kw k = none → valV kv k = none) ∧ ∀ w, valW kw k = some w → ∃ v, valV kv k = some v ∧ Rw K H μ v w
  | _, _, .nil => ⟨fun _ => rfl, fun w e => by cases e⟩
  | _, _, @RwP.cons _ _ _ _ q v vs w ws h hs => by
    unfold valW valV
    rw [List.find?_cons, List.find?_cons]
    have ih := rwp_val (k := k) hs
    unfold valW valV at ih
    cases hd : decide (q = k) with
    | true =>
      refine ⟨fun e => (by cases e), fun w' e => ?_⟩
      cases e
      exact ⟨_, rfl, h⟩
    | false => exact ih
theorem rwp_map {K : Frag} {H : Hp} {μ : Mu} {κ : Type} [DecidableEq κ] {k : κ} {x : V} {y : W} (hv : Rw K H μ x y) : ∀ {kv : List (κ × V)} {kw : List (κ × W)}, RwP K H μ kv kw → RwP K H μ (kv.map fun p => if p.1 = k then (p.1, x) else p) (kw.map fun p => if p.1 = k then (p.1, y) else p)
  | _, _, .nil => .nil
  | _, _, @RwP.cons _ _ _ _ q v vs w ws h hs => by
    rw [List.map_cons, List.map_cons]
    by_cases c : q = k
    · rw [if_pos c, if_pos c]
      exact .cons hv (rwp_map hv hs)
    · rw [if_neg c, if_neg c]
      exact .cons h (rwp_map hv hs)
theorem rwp_app {K : Frag} {H : Hp} {μ : Mu} {κ : Type} : ∀ {kv ku : List (κ × V)} {kw kz : List (κ × W)}, RwP K H μ kv kw → RwP K H μ ku kz → RwP K H μ (kv ++ ku) (kw ++ kz)
  | _, _, _, _, .nil, g => g
  | _, _, _, _, .cons h hs, g => .cons h (rwp_app hs g)
theorem rwp_put {K : Frag} {H : Hp} {μ : Mu} {κ : Type} [DecidableEq κ] {k : κ} {x : V} {y : W} (hv : Rw K H μ x y) {kv : List (κ × V)} {kw : List (κ × W)} (h : RwP K H μ kv kw) : RwP K H μ (putK kv k x) (putW kw k y) := by
  unfold putK putW
  rw [rwp_any h]
  split
  · exact rwp_map hv h
  · exact rwp_app h (.cons hv .nil)
theorem rwp_drop {K : Frag} {H : Hp} {μ : Mu} {κ : Type} [DecidableEq κ] {k : κ} : ∀ {kv : List (κ × V)} {kw : List (κ × W)}, RwP K H μ kv kw → RwP K H μ (dropK kv k) (dropW kw k)
  | _, _, .nil => .nil
  | _, _, @RwP.cons _ _ _ _ q v vs w ws h hs => by
    unfold dropK dropW
    rw [List.filter_cons, List.filter_cons]
    have ih := rwp_drop (k := k) hs
    unfold dropK dropW at ih
    split
    · exact .cons h ih
    · exact ih
/-- a value as a key -/
@[reducible] def kO (w : W) : Option Key := match w with
  | .int i => some (.inl i)
  | .str x => some (.inr x)
  | _ => none
theorem kO_rw {K : Frag} {H : Hp} {μ : Mu} {v : V} {w : W} {k : Key} (h : Rw K H μ v w) (e : kO w = some k) : v = kV k := by
  cases w <;> cases e <;> (cases h; rfl)
/-- what a dict holds -/
@[reducible] def rdD (μ : Mu) (w : W) : Option (List (Key × W)) := match w with
  | .ref a => (match μ a with
    | some (.dk kvs) => some kvs
    | some (.rk kvs) => some kvs
    | _ => none)
  | _ => none
theorem rdD_at {K : Frag} {H : Hp} {μ : Mu} {v : V} {w : W} {kvs : List (Key × W)} (h : rdD μ w = some kvs) (r : Rw K H μ v w) (m : Mem K H μ) : ∃ a kv, v = .ref a ∧ Rd H a (.dK kv) ∧ RwP K H μ kv kvs := by
  cases w with
  | ref a =>
    cases r
    cases e : μ a with
    | none => simp only [rdD, e] at h; cases h
    | some o =>
      cases o with
      | dk kvs' =>
        simp only [rdD, e] at h
        cases h
        obtain ⟨kv, h1, h2⟩ := m _ _ e
        exact ⟨a, kv, rfl, .inl h1, h2⟩
      | rk kvs' =>
        simp only [rdD, e] at h
        cases h
        obtain ⟨o, kv, h1, h2⟩ := m _ _ e
        exact ⟨a, kv, rfl, .inr ⟨o, h1⟩, h2⟩
      | _ => simp only [rdD, e] at h; cases h
  | _ => cases h
end Q
namespace Q
open PySem L2 Evl
/-! in, subscripts, slices, attributes -/
@[reducible] def rdS (μ : Mu) (w : W) : Option (List W) := match w with
  | .tup ws => some ws
  | w => rdL μ w
theorem rdS_at {K : Frag} {H : Hp} {μ : Mu} {v : V} {w : W} {ws : List W} (h : rdS μ w = some ws) (r : Rw K H μ v w) (m : Mem K H μ) : ∃ a vs, v = .ref a ∧ (SqL K H a vs ∨ SqT K H a vs) ∧ RwAll K H μ vs ws := by
  unfold rdS at h
  split at h
  · cases h
    cases r with
    | tup q hs => exact ⟨_, _, rfl, .inr (tup_sq q), hs⟩
  · obtain ⟨a, vs, e, q, hs⟩ := rdL_at h r m
    exact ⟨a, vs, e, .inl q, hs⟩
/-- one sign -/
@[reducible] def sg (a : Str) : Option Nat := match a.cps.toList with
  | [c] => some c
  | _ => none
theorem sg_is {a : Str} {c : Nat} (h : sg a = some c) : a = ⟨#[c]⟩ := by
  unfold sg at h
  split at h
  · rename_i c' e
    cases h
    obtain ⟨cps⟩ := a
    congr 1
    exact Array.toList_inj.mp e
  · cases h
@[reducible] def wInG (neg : Bool) : F2 := fun x y μ P => match y with
  | .str z => (match x with
    | .str a => (match sg a with
      | some c => P (.bl (if neg then !decide (c ∈ z.cps.toList) else decide (c ∈ z.cps.toList))) μ
      | none => False)
    | _ => False)
  | y => (match rdD μ y with
    | some kvs => (match kO x with
      | some k => P (.bl (if neg then !(valW kvs k).isSome else (valW kvs k).isSome)) μ
      | none => False)
    | none => (match rdS μ y with
      | some ws => isD 58 x = true ∧ isDs 58 ws = true ∧ P (.bl (if neg then !(ws.any fun z => eqW z x) else ws.any fun z => eqW z x)) μ
      | none => False))
@[reducible] def wNin : F2 := wInG true
def rDin (neg : Bool) : R2 := fun y x H Q => ∃ a o, x = .ref a ∧ DGet H a y o ∧ Q (.bl (if neg then !o.isSome else o.isSome)) H
section
variable {X : Cx}
theorem op_dNin (hu : X.A.units + 64 < cLine) : OpR X (compareOp .NotIn) (rDin true) := by
  intro pins s σ H y x v u Q I ry rx h
  obtain ⟨a, o, rfl, g, q⟩ := h
  cases rx
  exact d_notIn (by omega) I g ry fun s' I' => ⟨.bl (!o.isSome), H, I', rfl, q⟩
theorem dget_of {K : Frag} {H : Hp} {μ : Mu} {a : Addr} {kv : List (Key × V)} {k : Key} (h : Rd H a (.dK kv)) : DGet H a (kV k) (valV kv k) := .inl ⟨kv, k, h, rfl, rfl⟩
theorem in_gen {neg : Bool} {K : Frag} {x y : V} {H : Hp} {Q : VK} (h : rW K (wInG neg) x y H Q) : (∃ (c : Nat) (z : Str), x = .str ⟨#[c]⟩ ∧ y = .str z ∧ Q (.bl (if neg then !decide (c ∈ z.cps.toList) else decide (c ∈ z.cps.toList))) H) ∨ rDin neg x y H Q ∨ rInQ K neg x y H Q := by
  obtain ⟨wx, wy, μ, P, rx, ry, m, h, l⟩ := h
  unfold wInG at h
  split at h
  · split at h
    · split at h
      · rename_i c e
        have e2 := sg_is e
        subst e2
        exact .inl ⟨c, _, rw_str rx, rw_str ry, l.now h m (.bl _)⟩
      · exact h.elim
    · exact h.elim
  · split at h
    · rename_i kvs e
      obtain ⟨a, kv, rfl, hd, r⟩ := rdD_at e ry m
      split at h
      · rename_i k ek
        have ex := kO_rw rx ek
        subst ex
        refine .inr (.inl ⟨a, _, rfl, dget_of (K := K) (μ := μ) hd, ?_⟩)
        have e3 : (valV kv k).isSome = (valW kvs k).isSome := by
          cases f : valW kvs k with
          | none => rw [(rwp_val r).1 f] <;> rfl
          | some w =>
            obtain ⟨u, f1, _⟩ := (rwp_val r).2 w f
            rw [f1] <;> rfl
        rw [e3]
        exact l.now h m (.bl _)
      · exact h.elim
    · split at h
      · rename_i ws e
        obtain ⟨a, vs, rfl, q, r⟩ := rdS_at e ry m
        exact .inr (.inr ⟨58, a, vs, wx, ws, by decide, rfl, q, dq_of rx h.1, h.1, dqs_of r h.2.1, h.2.1, l.now h.2.2 m (.bl _)⟩)
      · exact h.elim
theorem opU_nin (hu : X.A.units + 64 < cLine) : OpR X (compareOp .NotIn) (rW X.K wNin) := opR_imp (op_notIn_sign.or ((op_dNin hu).or (op_notInQ hu))) fun x y H Q h => in_gen (neg := true) h
end
/-! a[b] -/
/-- the item at i, counted from the end where i is negative; sealed: nothing opens it but pick_def -/
noncomputable def pickS (α : Type) : { f : List α → Int → Option α // f = atI } := Classical.choice ⟨⟨_, rfl⟩⟩
noncomputable def pick {α : Type} (xs : List α) (i : Int) : Option α := (pickS α).1 xs i
theorem pick_def {α : Type} (xs : List α) (i : Int) : pick xs i = atI xs i := by
  unfold pick
  rw [(pickS α).2]
theorem pick_nat {α : Type} {xs : List α} {i : Int} {x : α} (h0 : 0 ≤ i) (h : xs[i.toNat]? = some x) : pick xs i = some x := by
  have := atI_nat h
  rw [show ((i.toNat : Nat) : Int) = i by omega] at this
  rw [pick_def]
  exact this
@[reducible] def wIx : F2 := fun x y μ P => match x with
  | .tup ws => (match y with
    | .int i => (match pick ws i with
      | some w => P w μ
      | none => False)
    | _ => False)
  | .str z => (match y with
    | .int i => z.length ≤ 16000000 ∧ (match pick z.cps.toList i with
      | some c => P (.str ⟨#[c]⟩) μ
      | none => False)
    | _ => False)
  | x => (match rdL μ x with
    | some ws => (match y with
      | .int i => (match pick ws i with
        | some w => P w μ
        | none => False)
      | _ => False)
    | none => (match rdD μ x with
      | some kvs => (match kO y with
        | some k => (match valW kvs k with
          | some w => P w μ
          | none => False)
        | none => False)
      | none => False))
def rDix : R2 := fun x y H Q => ∃ a v, x = .ref a ∧ DGet H a y (some v) ∧ Q v H
section
variable {X : Cx} {E : L2.St → XK}
theorem ix_dict (hu : X.A.units + 64 < cLine) : IxR X rDix := by
  intro value slice pins s σ H x y v u Q I rx ry h hs
  obtain ⟨a, z, rfl, g, q⟩ := h
  cases rx
  exact PyProof.Rows.tail_any (dict_typeIs I g) PySem.F.slot_dict_getitem.lookup (d_getItem (by omega) I g ry fun w' s' I' r' => ⟨z, H, I', r', q⟩) hs
theorem ixU (hu : X.A.units + 64 < cLine) : IxR X (rW X.K wIx) := by
  intro value slice pins s σ H x y v u Q I rx ry h hs
  refine (ix_seq.or (ix_dict hu)) value slice pins s σ H x y v u Q I rx ry ?_ hs
  obtain ⟨wx, wy, μ, P, rx, ry, m, h, l⟩ := h
  unfold wIx at h
  split at h
  · split at h
    · split at h
      · rename_i w e
        cases rx with
        | tup q hs =>
          rw [pick_def] at e
          unfold atI at e
          obtain ⟨j, e1, e2⟩ := Option.bind_eq_some_iff.mp e
          obtain ⟨v, e3, e4⟩ := RwAll.at j hs e2
          exact .inl (.inr (.inl ⟨_, _, _, v, rfl, rw_int ry, tup_sq q, by unfold atI; rw [hs.len, e1]; exact e3, l.now h m e4⟩))
      · exact h.elim
    · exact h.elim
  · split at h
    · obtain ⟨hz, h⟩ := h
      split at h
      · rename_i c e
        exact .inl (.inr (.inr ⟨_, _, c, rw_str rx, rw_int ry, big hz, (pick_def _ _).symm.trans e, l.now h m (.str _)⟩))
      · exact h.elim
    · exact h.elim
  · split at h
    · rename_i ws ex
      obtain ⟨a, vs, rfl, hq, hs⟩ := rdL_at ex rx m
      split at h
      · split at h
        · rename_i w e
          rw [pick_def] at e
          unfold atI at e
          obtain ⟨j, e1, e2⟩ := Option.bind_eq_some_iff.mp e
          obtain ⟨v, e3, e4⟩ := RwAll.at j hs e2
          exact .inl (.inl ⟨_, _, _, v, rfl, rw_int ry, hq, by unfold atI; rw [hs.len, e1]; exact e3, l.now h m e4⟩)
        · exact h.elim
      · exact h.elim
    · split at h
      · rename_i kvs ex
        obtain ⟨a, kv, rfl, hd, r⟩ := rdD_at ex rx m
        split at h
        · rename_i k ek
          have e2 := kO_rw ry ek
          subst e2
          split at h
          · rename_i w e
            obtain ⟨u, f1, f2⟩ := (rwp_val r).2 w e
            refine .inr ⟨a, u, rfl, ?_, l.now h m f2⟩
            rw [← f1]
            exact dget_of (K := X.K) (μ := μ) hd
          · exact h.elim
        · exact h.elim
      · exact h.elim
theorem qe_ix {a b : Expr} {fa fb : FE} {pos : Pos} (hu : X.A.units + 64 < cLine) (ha : QE X E a fa) (hb : QE X E b fb) (hs : PlainIx b) : QE X E (.Subscript a b pos) (eOp wIx fa fb) := ⟨(pe_ix (ixU hu) ha.pe hb.pe hs).qimp fun σ H Q h => tE_two (fun _ _ _ _ h => h) h⟩
/-! slices -/
abbrev FO := Rho → Mu → (Option Int → Mu → Prop) → Xo → Prop
@[reducible] def foN : FO := fun _ μ P _ => P none μ
@[reducible] def foS (e : FE) : FO := fun ρ μ P X => e ρ μ (fun w μ1 => match w with
  | .int i => P (some i) μ1
  | _ => False) X
def tO (K : Frag) (E : L2.St → XK) (f : FO) : TO := fun σ H Q => ∃ ρ μ P X, Holds K H μ σ ρ ∧ Mem K H μ ∧ f ρ μ P X ∧ (∀ o μ' H', P o μ' → Stp μ H μ' H' → Mem K H' μ' → Q o H') ∧ XL K (E σ) μ H X
structure QO (X : Cx) (E : L2.St → XK) (e : Option Expr) (f : FO) : Prop where
  po : PO X e (tO X.K E f)
theorem PO.qimp {X : Cx} {e : Option Expr} {t t' : TO} (h : PO X e t) (k : ∀ σ H Q, t' σ H Q → t σ H Q) : PO X e t' := by
  obtain ⟨h⟩ := h
  exact ⟨fun pins s σ H Q I q => h pins s σ H Q I (k σ H Q q)⟩
theorem qo_none : QO X E none foN := ⟨PO.qimp po_none fun σ H Q h => by
  obtain ⟨ρ, μ, P, XX, hh, hm, hf, hv, hx⟩ := h
  exact hv none μ H hf (Stp.refl μ H) hm⟩
theorem qo_some {e : Expr} {f : FE} (h : QE X E e f) : QO X E (some e) (foS f) := ⟨PO.qimp (po_some h.pe) fun σ H Q h => by
  obtain ⟨ρ, μ, P, XX, hh, hm, hf, hv, hx⟩ := h
  exact ⟨ρ, μ, _, XX, hh, hm, hf, fun w μ1 v H1 p1 e1 m1 r1 => by
    dsimp only at p1
    split at p1
    · exact ⟨_, rw_int r1, hv _ μ1 H1 p1 e1 m1⟩
    · exact p1.elim, hx⟩⟩
def cutL {α : Type} (xs : List α) (lo hi : Option Int) : List α := (xs.drop (HT.sIx xs.length 0 lo)).take (HT.sIx xs.length xs.length hi - HT.sIx xs.length 0 lo)
theorem cut_rw {K : Frag} {H : Hp} {μ : Mu} {vs : List V} {ws : List W} (h : RwAll K H μ vs ws) (lo hi : Option Int) : RwAll K H μ (cutV vs lo hi) (cutL ws lo hi) := by
  unfold cutV cutL
  rw [h.len]
  exact (h.drop _).take _
@[reducible] def wSl (x : W) (lo hi : Option Int) (μ : Mu) (P : Po) : Prop := match x with
  | .str z => z.length ≤ 16000000 ∧ P (.str (cutS z lo hi)) μ
  | .tup ws => P (.tup (cutL ws lo hi)) μ
  | x => (match rdL μ x with
    | some ws => P (.lst (cutL ws lo hi)) μ
    | none => False)
@[reducible] def eSl (a : FE) (lo hi : FO) : FE := fun ρ μ P X => a ρ μ (fun x μ1 => lo ρ μ1 (fun l μ2 => hi ρ μ2 (fun h μ3 => wSl x l h μ3 P) X) X) X
theorem qe_sl {e : Expr} {lo hi : Option Expr} {fa : FE} {fl fh : FO} {p2 pos : Pos} (he : QE X E e fa) (hl : QO X E lo fl) (hu : QO X E hi fh) : QE X E (.Subscript e (.Slice lo hi none p2) pos) (eSl fa fl fh) :=
  ⟨(pe_slice (sl_list.or (sl_str.or sl_tupA)) he.pe hl.po hu.po).qimp fun σ H Q h => by
  obtain ⟨ρ, μ, P, XX, hh, hm, hf, hv, hx⟩ := h
  refine ⟨ρ, μ, _, XX, hh, hm, hf, fun x μ1 v H1 p1 e1 m1 r1 => ⟨ρ, μ1, _, XX, hh.stp e1, m1, p1, fun l μ2 H2 p2 e2 m2 => ⟨ρ, μ2, _, XX, hh.stp (e1.trans e2), m2, p2, fun h μ3 H3 p3 e3 m3 => ?_, hx.stp (e1.trans e2)⟩, hx.stp e1⟩, hx⟩
  have r3 := r1.stp (e2.trans e3)
  have hv3 : VL X.K Q μ3 H3 P := fun w μ' v' H' p e => hv w μ' v' H' p (((e1.trans e2).trans e3).trans e)
  unfold wSl at p3
  split at p3
  · exact .inr (.inl ⟨_, rw_str r3, big p3.1, hv3.now p3.2 m3 (.str _)⟩)
  · cases r3 with
    | @tup a vs _ q hs =>
      refine .inr (.inr ⟨_, _, rfl, tup_sq q, fun w => ?_, fun _ p hp => hv3.tup p3 m3 (cut_rw hs l h) hp⟩)
      have full : ∀ us : List W, vs.length = us.length → cutL us l h = us := fun us e => by
        unfold cutL
        rw [← e, w.1, w.2, List.drop_zero, Nat.sub_zero, e, List.take_length]
      rw [full _ hs.len] at p3
      exact hv3.now p3 m3 (.tup q hs)
  · split at p3
    · rename_i ws ex
      obtain ⟨a, vs, rfl, hq, hs⟩ := rdL_at ex r3 m3
      exact .inl ⟨a, vs, rfl, hq, fun p hp => hv3.lst p3 m3 (cut_rw hs l h) hp⟩
    · exact p3.elim⟩
/-! attributes -/
def lk {β : Type} (f : Str) : List (Str × β) → Option β
  | [] => none
  | (g, x) :: r => if f = g then some x else lk f r
theorem lk_lookup {β : Type} (f : Str) : ∀ fs : List (Str × β), fs.lookup f = lk f fs
  | [] => rfl
  | (g, x) :: r => by
    rw [List.lookup_cons]
    unfold lk
    by_cases h : f = g
    · rw [if_pos h, beq_iff_eq.mpr h]
    · rw [if_neg h, beq_eq_false_iff_ne.mpr h]
      exact lk_lookup f r
theorem rwp_lk {K : Frag} {H : Hp} {μ : Mu} {f : Str} : ∀ {fv : List (Str × V)} {fs : List (Str × W)}, RwP K H μ fv fs → (lk f fs = none → fv.lookup f = none) ∧ ∀ w, lk f fs = some w → ∃ v, fv.lookup f = some v ∧ Rw K H μ v w
  | _, _, .nil => ⟨fun _ => rfl, fun w e => by cases e⟩
  | _, _, @RwP.cons _ _ _ _ q v vs w ws h hs => by
    rw [lk_lookup]
    unfold lk
    have ih := rwp_lk (f := f) hs
    rw [lk_lookup] at ih
    by_cases c : f = q
    · rw [if_pos c, if_pos c]
      refine ⟨fun e => ?_, fun w' e => ?_⟩
      · cases e
      · cases e
        exact ⟨_, rfl, h⟩
    · rw [if_neg c, if_neg c]
      exact ih
def pf (f : Str) (w : W) : List (Str × W) → List (Str × W)
  | [] => [(f, w)]
  | (g, x) :: r => if g = f then (g, w) :: r else (g, x) :: pf f w r
theorem rwp_pf {K : Frag} {H : Hp} {μ : Mu} {f : Str} {v : V} {w : W} (hv : Rw K H μ v w) : ∀ {fv : List (Str × V)} {fs : List (Str × W)}, RwP K H μ fv fs → RwP K H μ (putF f v fv) (pf f w fs)
  | _, _, .nil => .cons hv .nil
  | _, _, @RwP.cons _ _ _ _ q u vs x ws h hs => by
    unfold putF pf
    by_cases c : q = f
    · rw [if_pos c, if_pos c]
      exact .cons hv hs
    · rw [if_neg c, if_neg c]
      exact .cons h (rwp_pf hv hs)
/-- o.f of one of the classes cs -/
@[reducible] def wFld (cs : List Str) (f : Str) : F1 := fun x μ P => match x with
  | .ref a => (match μ a with
    | some (.ins c fs) => c ∈ cs ∧ (match lk f fs with
      | some w => P w μ
      | none => False)
    | _ => False)
  | _ => False
@[reducible] def eFld (cs : List Str) (o : FE) (f : Str) : FE := eUn (wFld cs f) o
theorem ins_at {K : Frag} {H : Hp} {μ : Mu} {a : Addr} {c : Str} {fs : List (Str × W)} (m : Mem K H μ) (h : μ a = some (.ins c fs)) : ∃ dx fv, H a = some (.ins (He.ga K c) dx fv) ∧ RwP K H μ fv fs := m a _ h
theorem qe_fld {o : Expr} {f : Str} {fo : FE} {cs : List Str} {pos : Pos} (hc : ∀ c ∈ cs, Cls X.K (He.ga X.K c) ∧ NoAttr X.K (He.ga X.K c) f) (he : QE X E o fo) (hb : attributeBase o f X.env (eval o X.env) = eval o X.env) : QE X E (.Attribute o f pos) (eFld cs fo f) := ⟨(pe_fld he.pe hb).qimp fun σ H Q h => by
  obtain ⟨ρ, μ, P, XX, hh, hm, hf, hv, hx⟩ := h
  refine ⟨ρ, μ, _, XX, hh, hm, hf, fun x μ1 v H1 p1 e1 m1 r1 => ?_, hx⟩
  dsimp only [wFld] at p1
  split at p1
  · split at p1
    · rename_i a _ c fs e
      obtain ⟨hcs, p1⟩ := p1
      cases r1
      obtain ⟨dx, fv, ha, r⟩ := ins_at m1 e
      split at p1
      · rename_i w ew
        obtain ⟨v, e2, r2⟩ := (rwp_lk r).2 w ew
        exact ⟨a, _, dx, fv, v, rfl, ha, (hc c hcs).1, (hc c hcs).2, e2, hv w μ1 v H1 p1 e1 m1 r2⟩
      · exact p1.elim
    · exact p1.elim
  · exact p1.elim⟩
@[reducible] def sFld (cs : List Str) (o : FE) (f : Str) (e : FE) : FS := fun ρ μ N => e ρ μ (fun w μ1 => o ρ μ1 (fun x μ2 => match x with
  | .ref a => (match μ2 a with
    | some (.ins c fs) => c ∈ cs ∧ fs.length ≤ 900 ∧ N.nx ρ (mset μ2 a (.ins c (pf f w fs)))
    | _ => False)
  | _ => False) (N.ex ρ)) (N.ex ρ)
theorem qs_fld {o e : Expr} {f : Str} {fo fe : FE} {cs : List Str} {pos pos' : Pos} (hc : ∀ c ∈ cs, Cls X.K (He.ga X.K c) ∧ NoAttr X.K (He.ga X.K c) f) (ho : QE X E o fo) (he : QE X E e fe) (hs : swapsWith e (some (.Attribute o f pos')) pos.line X.env = pure false := by rfl) : QS X E (.Assign [.Attribute o f pos'] e pos) (sFld cs fo f fe) := ⟨(ps_fld ho.pe he.pe hs).qimp fun D σ H h => by
  obtain ⟨ρ, μ, N, hh, hm, hf, l⟩ := h
  refine ⟨ρ, μ, _, _, hh, hm, hf, fun w μ1 v H1 p1 e1 m1 r1 => ⟨ρ, μ1, _, _, hh.stp e1, m1, p1, fun x μ2 u H2 p2 e2 m2 r2 => ?_, (l.stp e1).xl (hh.stp e1)⟩, l.xl hh⟩
  dsimp only at p2
  split at p2
  · split at p2
    · rename_i a _ c fs e
      obtain ⟨hcs, hl, p2⟩ := p2
      cases r2
      obtain ⟨dx, fv, ha, r⟩ := ins_at m2 e
      have ll := r.len
      have st : Stp μ2 H2 (mset μ2 a (.ins c (pf f w fs))) (upd H2 a (.ins (He.ga X.K c) dx (putF f v fv))) := Stp.put e (nf_ins ha)
      exact ⟨a, _, dx, fv, rfl, ha, (hc c hcs).1, (hc c hcs).2, by omega, l.nx ρ _ σ _ p2 ((e1.trans e2).trans st) (m2.put st ⟨dx, _, upd_same, (rwp_pf (r1.stp e2) r).stp st⟩) (hh.stp ((e1.trans e2).trans st))⟩
    · exact p2.elim
  · exact p2.elim⟩
end
end Q
namespace Q
open PySem L2 Evl
/-! defs: what a def does, as a function; calls -/
abbrev FW := List W → Mu → Po → Xo → Prop
/-- what a def hands back: it may forget, and lists that nobody else has become values -/
def Rt (P : Po) (w : W) (μ : Mu) : Prop := ∃ w' μ', Sub μ' μ ∧ Fz μ μ' w w' ∧ P w' μ'
theorem Rt.now {P : Po} {w : W} {μ : Mu} (h : P w μ) : Rt P w μ := ⟨w, μ, Sub.refl μ, .same w, h⟩
theorem Rt.forget {P : Po} {w : W} {μ : Mu} (μ' : Mu) (s : Sub μ' μ) (h : P w μ') : Rt P w μ := ⟨w, μ', s, .same w, h⟩
@[reducible] def rho0 : Nat → List W → Rho
  | 0, _ => []
  | n + 1, [] => none :: rho0 n []
  | n + 1, w :: ws => some w :: rho0 n ws
theorem rho0_nil : ∀ n, rho0 n [] = List.replicate n none
  | 0 => rfl
  | n + 1 => by
    show none :: rho0 n [] = _
    rw [rho0_nil n]
    rfl
theorem rho0_is : ∀ (n : Nat) (ws : List W), ws.length ≤ n → rho0 n ws = ws.map some ++ List.replicate (n - ws.length) none
  | n, [], _ => by
    rw [rho0_nil]
    rfl
  | 0, w :: ws, h => absurd h (Nat.not_succ_le_zero _)
  | n + 1, w :: ws, h => by
    show some w :: rho0 n ws = _
    rw [rho0_is n ws (Nat.le_of_succ_le_succ h), List.length_cons, Nat.add_sub_add_right]
    rfl
def fDef (np n : Nat) (fb : FS) : FW := fun ws μ P X => ws.length = np ∧ fb (rho0 n ws) μ ⟨fun _ μ' => Rt P .non μ', fun w μ' => Rt P w μ', fun _ _ => False, fun _ _ => False, fun _ c fs μ' => ∃ μ'', Sub μ'' μ' ∧ X c fs μ''⟩
def spF (K : Frag) (f : FW) : Sp := fun vs H Q E => ∃ ws μ P X, RwAll K H μ vs ws ∧ Mem K H μ ∧ f ws μ P X ∧ VL K Q μ H P ∧ XL K E μ H X
theorem Pay.sub {K : Frag} {H : Hp} {μ μ' : Mu} {d : Option Addr} {fs : List (Str × W)} (s : Sub μ' μ) (h : Pay K H μ d fs) : Pay K H μ' d fs := by
  cases h with
  | none => exact .none
  | some h n r z => exact .some h (s.none n) (r.stp (s.stp H)) z
theorem el_def {K : Frag} {E : XK} {Q : VK} {μ : Mu} {H : Hp} {P : Po} {X : Xo} (v : VL K Q μ H P) (x : XL K E μ H X) :
    EL K (fun _ => E) ⟨fun σ H => Q .non H, Q, fun _ _ => False, fun _ _ => False⟩ μ H ⟨fun _ μ' => Rt P .non μ', fun w μ' => Rt P w μ', fun _ _ => False, fun _ _ => False, fun _ c fs μ' => ∃ μ'', Sub μ'' μ' ∧ X c fs μ''⟩ := by
  have ret : VL K Q μ H (fun w μ' => Rt P w μ') := fun w μ' u H' ⟨w', μ'', s, z, p⟩ e m r => v w' μ'' u H' p (e.trans (s.stp H')) (s.mem m) (z.rw s m r)
  exact ⟨fun ρ' μ' σ' H' n e m _ => ret .non μ' .non H' n e m .non, ret, fun _ _ _ _ n => n.elim, fun _ _ _ _ n => n.elim, fun ρ' c fs μ' d σ' H' ⟨μ'', s, n⟩ e m _ p => x c fs μ'' d H' n (e.trans (s.stp H')) (s.mem m) (p.sub s)⟩
section
variable {P : Program} {w : World} {K : Frag} {mg : Str → Option Value} {base : Heap}
abbrev FnM (K : Frag) (x qual : Str) (st : Stmt) (f : Addr) (fd : FuncData) : Prop := L2.FunD K x qual (defArgs st) (defBody st) (defScope st) [] [] f fd
theorem fn_q {x qual : Str} {st : Stmt} {f : Addr} {fd : FuncData} {N ps : List Str} {k : Nat} {fb : FS} (F : FnM K x qual st f fd) (S : FnScope N ps (defScope st)) (hl : ps.length ≤ N.length)
    (body : ∀ (cdv : Value) (A : Around) (outer : List PySem.Env) (s : Shared) (H : Hp) (E : XK), Room k (A.deeper (PyProof.Rows.envOfC qual (defScope st) s.heap.objs.size f cdv)) →
      QSs (cxOf (L2N.CX P w) P w K mg base N qual (defScope st) f cdv A outer s H E) (fun _ => E) (defBody st) fb) : FnOk P w K mg base (L2N.CX P w) (k + 1) f fd ps (spF K (fDef ps.length N.length fb)) := by
  refine L2.FunD.ok F S (fun vs H Q E h => ?_) (fun cdv A outer s H vs Q E hr h => ?_)
  · obtain ⟨ws, μ, Pq, X, h1, _, h2, _⟩ := h
    rw [h1.len]
    exact h2.1
  · obtain ⟨ws, μ, Pq, X, h1, hm, h2, v, x⟩ := h
    have h0 := Holds.start (N := N) h1
    rw [← rho0_is _ _ (by rw [h2.1]; exact hl)] at h0
    exact ⟨_, (body cdv A outer s H E hr).pss, _, μ, _, h0, hm, h2.2, el_def v x⟩
/-- a def, a method, a class with its __init__, by what they do -/
structure DefQ (P : Program) (w : World) (K : Frag) (mg : Str → Option Value) (base : Heap) (k : Nat) (x : Str) (ps : List Str) (f : FW) : Prop where
  ex : ∃ (a : Addr) (fd : FuncData), FnOk P w K mg base (L2N.CX P w) k a fd ps (spF K f) ∧ mg x = some (.ref a) ∧ PySem.W.keepIn K (.ref a) = true ∧ Binds K fd ps []
structure MetQ (P : Program) (w : World) (K : Frag) (mg : Str → Option Value) (base : Heap) (k : Nat) (x m : Str) (ps : List Str) (f : FW) : Prop where
  cls : Cls K (He.ga K x)
  ex : ∃ (a : Addr) (fd : FuncData), FnOk P w K mg base (L2N.CX P w) k a fd ps (spF K f) ∧ Meth K (He.ga K x) m a ∧ Binds K fd ps []
structure MakQ (P : Program) (w : World) (K : Frag) (mg : Str → Option Value) (base : Heap) (k : Nat) (x : Str) (ps : List Str) (f : FW) : Prop where
  g : mg x = some (.ref (He.ga K x))
  ex : ∃ (a : Addr) (fd : FuncData), FnOk P w K mg base (L2N.CX P w) k a fd ps (spF K f) ∧ Mk K (He.ga K x) a ∧ Binds K fd ps []
end
/-- what a body's exceptions may do -/
def Px (X : Cx) (E : L2.St → XK) : Prop := ∀ σ, PassesAt (L2N.CX X.prog X.w) X σ (E σ)
def EN : L2.St → XK := fun _ _ _ _ => False
@[reducible] def eCall (f : FW) (a : FA) : FE := fun ρ μ P X => a ρ μ (fun ws μ1 => f ws μ1 P X) X
section
variable {X : Cx} {E : L2.St → XK} {k : Nat} {x m : Str} {ps : List Str} {f : FW} {e o : Expr} {es : List Expr} {fo : FE} {fa : FA} {p pos apos : Pos}
theorem sp_now {K : Frag} {H : Hp} {μ : Mu} {vs : List V} {ws : List W} {P : Po} {Xx : Xo} {Q : VK} {Ek : XK} (r : RwAll K H μ vs ws) (m : Mem K H μ) (h : f ws μ P Xx) (v : VL K Q μ H P) (x : XL K Ek μ H Xx) : spF K f (vs ++ []) H Q Ek := by
  rw [List.append_nil]
  exact ⟨ws, μ, P, Xx, r, m, h, v, x⟩
theorem VL.stp {K : Frag} {Q : VK} {μ μ1 : Mu} {H H1 : Hp} {P : Po} (e : Stp μ H μ1 H1) (h : VL K Q μ H P) : VL K Q μ1 H1 P := fun w μ' v H' p e2 => h w μ' v H' p (e.trans e2)
theorem qe_call (px : Px X E) (D : DefQ X.prog X.w X.K X.mg X.base k x ps f) (hr : Room k X.A) (hg : Gl X x) (ha : QA X E (e :: es) fa) (hdb : (x == ("__debug__" : Str)) = false := by decide)
    (he : starEach (e :: es) X.env = (false, eval e X.env) :: starEach es X.env := by rfl) (hpl : (backTo pos (starEach es X.env)).any (·.1) = false := by rfl) : QE X E (.Call (.Name x p) (e :: es) [] pos) (eCall f fa) := by
  obtain ⟨a, fd, h, g, kp, b⟩ := D.ex
  refine ⟨(pe_callSD h hr hg g kp b .nil px ha.pa hdb he hpl).qimp fun σ H Q h => ?_⟩
  obtain ⟨ρ, μ, P, XX, hh, hm, hf, hv, hx⟩ := h
  exact ⟨ρ, μ, _, XX, hh, hm, hf, fun ws μ1 vs H1 p1 e1 m1 r1 => sp_now r1 m1 p1 (hv.stp e1) (hx.stp e1), hx⟩
/-- a method: of the class that the object is of -/
@[reducible] def eMet (m : Str) (ds : List (Str × FW)) (o : FE) (a : FA) : FE := fun ρ μ P X => o ρ μ (fun w μ1 => match w with
  | .ref r => (match μ1 r with
    | some (.ins c fs) => lk m fs = none ∧ (match lk c ds with
      | some f => a ρ μ1 (fun ws μ2 => f (.ref r :: ws) μ2 P X) X
      | none => False)
    | _ => False)
  | _ => False) X
/-- all of them are there -/
def MetsQ (X : Cx) (k : Nat) (m : Str) (ds : List (Str × FW)) : Prop := ∀ c f, lk c ds = some f → ∃ ps, MetQ X.prog X.w X.K X.mg X.base k c m ps f
theorem MetQ.mono {P : Program} {w : World} {K : Frag} {mg : Str → Option Value} {base : Heap} {j k : Nat} {x m : Str} {ps : List Str} {f : FW} (h : MetQ P w K mg base j x m ps f) (l : j ≤ k) : MetQ P w K mg base k x m ps f := by
  obtain ⟨a, fd, F, r⟩ := h.ex
  exact ⟨h.cls, a, fd, F.mono l, r⟩
theorem mets1 {c : Str} {f : FW} (h : MetQ X.prog X.w X.K X.mg X.base k c m ps f) : MetsQ X k m [(c, f)] := fun c' f' e => by
  unfold lk at e
  split at e
  · rename_i q
    cases e
    exact ⟨ps, q ▸ h⟩
  · cases e
theorem met_at {K : Frag} {H : Hp} {μ : Mu} {r : Addr} {c : Str} {fs : List (Str × W)} (m' : Mem K H μ) (e : μ r = some (.ins c fs)) (n : lk m fs = none) : ∃ dx fv, H r = some (.ins (He.ga K c) dx fv) ∧ fv.lookup m = none := by
  obtain ⟨dx, fv, h, rr⟩ := ins_at m' e
  exact ⟨dx, fv, h, (rwp_lk rr).1 n⟩
theorem QE.go {pins : List (Addr × Obj)} {s : Shared} {σ : St} {H : Hp} {ρ : Rho} {μ : Mu} {P : Po} {XX : Xo} (h : QE X E o fo) (I : Inv X pins σ H s) (hh : Holds X.K H μ σ ρ) (hm : Mem X.K H μ) (hf : fo ρ μ P XX) (hx : XL X.K (E σ) μ H XX) :
    wpAny (model X.prog X.w) X.A (eval o X.env) (fun u s1 => ∃ v H1 w μ1, Inv X pins σ H1 s1 ∧ RelV v u ∧ P w μ1 ∧ Stp μ H μ1 H1 ∧ Mem X.K H1 μ1 ∧ Rw X.K H1 μ1 v w) X.xe s :=
  thn (h.pe.run pins s σ H (fun v H1 => ∃ w μ1, P w μ1 ∧ Stp μ H μ1 H1 ∧ Mem X.K H1 μ1 ∧ Rw X.K H1 μ1 v w) I ⟨ρ, μ, P, XX, hh, hm, hf, fun w μ1 v H1 p1 e1 m1 r1 => ⟨w, μ1, p1, e1, m1, r1⟩, hx⟩) fun u s1 ⟨v, H1, I1, rx, w, μ1, p1, e1, m1, r1⟩ => ⟨v, H1, w, μ1, I1, rx, p1, e1, m1, r1⟩
theorem QA.go {pins : List (Addr × Obj)} {s : Shared} {σ : St} {H : Hp} {ρ : Rho} {μ : Mu} {P : List W → Mu → Prop} {XX : Xo} (h : QA X E es fa) (pos : Pos) (I : Inv X pins σ H s) (hh : Holds X.K H μ σ ρ) (hm : Mem X.K H μ) (hf : fa ρ μ P XX) (hx : XL X.K (E σ) μ H XX) :
    wpAny (model X.prog X.w) X.A (spliced (backTo pos (starEach es X.env))) (fun us s1 => ∃ vs H1 ws μ1, Inv X pins σ H1 s1 ∧ Vals vs us ∧ P ws μ1 ∧ Stp μ H μ1 H1 ∧ Mem X.K H1 μ1 ∧ RwAll X.K H1 μ1 vs ws) X.xe s :=
  thn (h.pa.run pos pins s σ H (fun vs H1 => ∃ ws μ1, P ws μ1 ∧ Stp μ H μ1 H1 ∧ Mem X.K H1 μ1 ∧ RwAll X.K H1 μ1 vs ws) I ⟨ρ, μ, P, XX, hh, hm, hf, fun w μ1 v H1 p1 e1 m1 r1 => ⟨w, μ1, p1, e1, m1, r1⟩, hx⟩) fun u s1 ⟨v, H1, I1, rx, w, μ1, p1, e1, m1, r1⟩ => ⟨v, H1, w, μ1, I1, rx, p1, e1, m1, r1⟩
theorem qe_met {pl : Sem Bool} {ds : List (Str × FW)} (px : Px X E) (D : MetsQ X k m ds) (hr : Room k X.A) (ho : QE X E o fo) (ha : QA X E (e :: es) fa)
    (hst : starEach (e :: es) X.env = (false, eval e X.env) :: starEach es X.env := by rfl) (hpl : (backTo pos (starEach es X.env)).any (·.1) = false := by rfl)
    (ht : eval (.Call (.Attribute o m apos) (e :: es) [] pos) X.env = (do
      let ov ← eval o X.env
      standAt apos.atName
      let (f, first) ← holding [ov] (getMethod ov m pl)
      callWith pos f first (backTo pos (starEach (e :: es) X.env)) (backToKw pos (keywordEach [] X.env))) := by rfl) : QE X E (.Call (.Attribute o m apos) (e :: es) [] pos) (eMet m ds fo fa) := by
  refine ⟨⟨fun pins s σ H Q I hq => ?_⟩⟩
  obtain ⟨ρ, μ, P, XX, hh, hm, hf, hv, hx⟩ := hq
  refine PySem.W.methodCall_KW (pl := pl) (thn (ho.go I hh hm hf hx) fun u s1 ⟨v, H1, w, μ1, I1, rx, p1, e1, m1, r1⟩ => ?_) ht
  split at p1
  · split at p1
    · rename_i r _ c fs e
      obtain ⟨n, p1⟩ := p1
      split at p1
      · rename_i f ef
        cases r1
        obtain rfl : u = Value.ref r := rx
        obtain ⟨ps, M⟩ := D c f ef
        obtain ⟨a, fd, F, hmt, hb⟩ := M.ex
        obtain ⟨dx, fv, h1, l1⟩ := met_at m1 e n
        refine getmeth_ok I1 h1 M.cls hmt l1 ?_
        refine PySem.W.callWith_K (first := [.ref r]) (h₀ := X.base) I1.ok.mod.kin hmt.kp (thn (ha.go pos I1 (hh.stp e1) m1 p1 (hx.stp e1)) fun us s2 ⟨vs, H2, ws, μ2, I2, r, p2, e2, m2, r2⟩ => ⟨I2.kIn, ?_⟩) hst hpl
        exact run_fnSD (us := .ref _ :: us) (vs := .ref _ :: vs) (E := E) F hr hb .nil (px σ) I2 (.cons rfl r) (sp_now (.cons (.ref _) r2) m2 p2 (hv.stp (e1.trans e2)) (hx.stp (e1.trans e2)))
      · exact p1.elim
    · exact p1.elim
  · exact p1.elim
theorem qe_met0 {pl : Sem Bool} {ds : List (Str × FW)} (px : Px X E) (D : MetsQ X k m ds) (hr : Room k X.A) (ho : QE X E o fo)
    (ht : eval (.Call (.Attribute o m apos) [] [] pos) X.env = (do
      let ov ← eval o X.env
      standAt apos.atName
      let (f, first) ← holding [ov] (getMethod ov m pl)
      callWith pos f first (backTo pos (starEach [] X.env)) (backToKw pos (keywordEach [] X.env))) := by rfl) : QE X E (.Call (.Attribute o m apos) [] [] pos) (eMet m ds fo aNil) := by
  refine ⟨⟨fun pins s σ H Q I hq => ?_⟩⟩
  obtain ⟨ρ, μ, P, XX, hh, hm, hf, hv, hx⟩ := hq
  refine PySem.W.methodCall_KW (pl := pl) (thn (ho.go I hh hm hf hx) fun u s1 ⟨v, H1, w, μ1, I1, rx, p1, e1, m1, r1⟩ => ?_) ht
  split at p1
  · split at p1
    · rename_i r _ c fs e
      obtain ⟨n, p1⟩ := p1
      split at p1
      · rename_i f ef
        cases r1
        obtain rfl : u = Value.ref r := rx
        obtain ⟨ps, M⟩ := D c f ef
        obtain ⟨a, fd, F, hmt, hb⟩ := M.ex
        obtain ⟨dx, fv, h1, l1⟩ := met_at m1 e n
        refine getmeth_ok I1 h1 M.cls hmt l1 ?_
        refine PySem.W.callWith_K0 I1.kIn hmt.kp ?_
        exact run_fnSD (us := [.ref _]) (vs := [.ref _]) (E := E) F hr hb .nil (px σ) I1 (.cons rfl .nil) (sp_now (.cons (.ref _) .nil) m1 p1 (hv.stp e1) (hx.stp e1))
      · exact p1.elim
    · exact p1.elim
  · exact p1.elim
/-- C(..) -/
@[reducible] def eMak (c : Str) (f : FW) (a : FA) : FE := fun ρ μ P X => a ρ μ (fun ws μ1 => ∀ p, μ1 p = none → f (.ref p :: ws) (mset μ1 p (.ins c [])) (fun w μ2 => w = .non ∧ P (.ref p) μ2) X) X
theorem run_mk {pins : List (Addr × Obj)} {σ : St} {H : Hp} {s : Shared} {Q : VK} {us : List Value} {vs : List V} {ws : List W} {μ : Mu} {P : Po} {XX : Xo} (px : Px X E) (D : MakQ X.prog X.w X.K X.mg X.base k x ps f) (hr : Room (k + 1) X.A) (I : Inv X pins σ H s) (r : Vals vs us) (rw' : RwAll X.K H μ vs ws) (hm : Mem X.K H μ)
    (hf : ∀ p, μ p = none → f (.ref p :: ws) (mset μ p (.ins x [])) (fun w μ2 => w = .non ∧ P (.ref p) μ2) XX) (hv : VL X.K Q μ H P) (hx : XL X.K (E σ) μ H XX) : wpAny (model X.prog X.w) X.A (call (.ref (He.ga X.K x)) us) (EP X pins σ Q) X.xe s := by
  obtain ⟨a, fd, F, M, hb⟩ := D.ex
  have n1 : H (s.heap.objs.size + 1) = none := I.hok.fresh (Nat.le_succ _)
  have n0 : H s.heap.objs.size = none := I.hok.fresh (Nat.le_refl _)
  have J := Inv.made (C := He.ga X.K x) I
  have n2 : upd H s.heap.objs.size (.own (s.heap.objs.size + 1)) (s.heap.objs.size + 1) = none := by
    rw [upd_ne (Nat.ne_of_gt (Nat.lt_succ_self _))]
    exact n1
  have st : Stp μ H (mset μ (s.heap.objs.size + 1) (.ins x [])) (upd (upd H s.heap.objs.size (.own (s.heap.objs.size + 1))) (s.heap.objs.size + 1) (.ins (He.ga X.K x) s.heap.objs.size [])) := (Stp.new n0).trans (Stp.newT n2)
  have m2 : Mem X.K (upd (upd H s.heap.objs.size (.own (s.heap.objs.size + 1))) (s.heap.objs.size + 1) (.ins (He.ga X.K x) s.heap.objs.size [])) (mset μ (s.heap.objs.size + 1) (.ins x [])) := (hm.new n0).put (Stp.newT n2) ⟨_, [], upd_same, .nil⟩
  have q := sp_now (f := f) (Q := fun v H2 => v = V.non ∧ Q (.ref (s.heap.objs.size + 1)) H2) (Ek := E σ) (RwAll.cons (.ref (s.heap.objs.size + 1)) (rw'.stp st)) m2 (hf _ (hm.free n1)) (fun w' μ' v H' p e m' r' => by
    obtain ⟨rfl, p⟩ := p
    cases r'
    exact ⟨rfl, hv _ μ' _ H' p (st.trans e) m' (.ref _)⟩) (hx.stp st)
  have rr : Vals (V.ref (s.heap.objs.size + 1) :: vs ++ []) (Value.ref (s.heap.objs.size + 1) :: us ++ []) := (show Vals (V.ref (s.heap.objs.size + 1) :: vs) (Value.ref (s.heap.objs.size + 1) :: us) from .cons rfl r).append .nil
  have hl : (Value.ref (s.heap.objs.size + 1) :: us ++ []).length = ps.length := by
    rw [← rr.length]
    exact F.len _ _ _ _ q
  refine wpAny_call (make_map (f := a) I.kIn M.makes M.init (beq_iff_eq.mp M.fn) (codeAny_mono (F.run _ X.stack _ _ ⟨Value.ref (s.heap.objs.size + 1) :: us, []⟩ _ _ _ (E σ) (hr.make _ us []) (J.env0.make _ us []) (hb _ (Value.ref (s.heap.objs.size + 1) :: us) J.kIn hl) rr q) fun r s' hq' => ?_))
  cases r with
  | error er => exact px σ pins _ _ er s' J hq'
  | ok fl =>
    cases fl with
    | ret u =>
      obtain ⟨v, H', I3, rv, ev, q3⟩ := J.after hq'
      subst ev
      exact ⟨rv, ⟨V.ref _, H', I3, rfl, q3⟩⟩
    | _ => exact False.elim hq'
theorem qe_mak0 (px : Px X E) (D : MakQ X.prog X.w X.K X.mg X.base k x ps f) (hr : Room (k + 1) X.A) (hg : Gl X x) (hdb : (x == ("__debug__" : Str)) = false := by decide) : QE X E (.Call (.Name x p) [] [] pos) (eMak x f aNil) := by
  refine ⟨⟨fun pins s σ H Q I hq => ?_⟩⟩
  obtain ⟨ρ, μ, P, XX, hh, hm, hf, hv, hx⟩ := hq
  obtain ⟨a, fd, F, M, hb⟩ := D.ex
  refine wpAny_Call_Name_kw (ld_glob I hg D.g ?_ hdb)
  exact PySem.W.callWith_K0 I.kIn M.kp (run_mk (us := []) px D hr I .nil .nil hm hf hv hx)
end
end Q
namespace Q
open PySem L2 Evl RZ
/-! walks: loops, comprehensions -/
structure ItW (K : Frag) (J : It) (Rel : Hp → Mu → Prop) (std : Mu → Prop) (ws : List W) : Prop where
  mono : ∀ H μ H' μ', Rel H μ → Stp μ H μ' H' → Rel H' μ'
  go : ∀ i H μ, Rel H μ → Mem K H μ → std μ → i < ws.length → J.go i H
  yld : ∀ i H μ x H' y, Rel H μ → Mem K H μ → std μ → ws[i]? = some y → J.yld i H x H' → Stp μ H μ H' ∧ Mem K H' μ ∧ Rw K H' μ x y
  stop : ∀ i H μ, Rel H μ → Mem K H μ → std μ → ws.length ≤ i → J.stop i H
abbrev FI := Rho → Mu → ((Mu → Prop) → List W → Mu → Prop) → Xo → Prop
def tI (K : Frag) (E : L2.St → XK) (f : FI) : TI := fun σ H R => ∃ ρ μ P X, Holds K H μ σ ρ ∧ Mem K H μ ∧ f ρ μ P X ∧
  (∀ std ws μ1 H1 J Rel, P std ws μ1 → Stp μ H μ1 H1 → Mem K H1 μ1 → Rel H1 μ1 → ItW K J Rel std ws → R J H1) ∧ XL K (E σ) μ H X
structure QI (X : Cx) (E : L2.St → XK) (tg iter : Expr) (f : FI) : Prop where
  pi : PI X tg iter (tI X.K E f)
theorem PI.qimp {X : Cx} {tg e : Expr} {t t' : TI} (h : PI X tg e t) (k : ∀ σ H R, t' σ H R → t σ H R) : PI X tg e t' := ⟨fun pins s σ H Q I q => h.run pins s σ H Q I (k σ H Q q)⟩
/-! what is walked -/
theorem itw_list {K : Frag} {a : Addr} {w : W} {ws : List W} : ItW K (Itl K a) (fun H μ => Rw K H μ (.ref a) w) (fun μ => rdL μ w = some ws) ws where
  mono := fun _ _ _ _ r e => r.stp e
  go := fun i H μ r m h hi => by
    obtain ⟨b, vs, e, q, hs⟩ := rdL_at h r m
    cases e
    obtain ⟨v, e1, _⟩ := RwAll.at i hs (List.getElem?_eq_getElem hi)
    exact ⟨vs, v, q, e1⟩
  yld := fun i H μ x H' y r m h hy q => by
    obtain ⟨e, q⟩ := q
    subst e
    obtain ⟨b, vs, e, q2, hs⟩ := rdL_at h r m
    cases e
    obtain ⟨v, e1, r1⟩ := RwAll.at i hs hy
    have e2 := q vs q2
    rw [e1] at e2
    cases e2
    exact ⟨Stp.refl _ _, m, r1⟩
  stop := fun i H μ r m h hi => by
    obtain ⟨b, vs, e, q, hs⟩ := rdL_at h r m
    cases e
    exact ⟨vs, q, by rw [hs.len]; exact hi⟩
theorem itw_tup {K : Frag} {a : Addr} {ws : List W} {std : Mu → Prop} : ItW K (Itt K a) (fun H μ => Rw K H μ (.ref a) (.tup ws)) std ws where
  mono := fun _ _ _ _ r e => r.stp e
  go := fun i H μ r m h hi => by
    cases r with
    | tup q hs =>
      obtain ⟨v, e1, _⟩ := RwAll.at i hs (List.getElem?_eq_getElem hi)
      exact ⟨_, v, tup_sq q, e1⟩
  yld := fun i H μ x H' y r m h hy q => by
    obtain ⟨e, q⟩ := q
    subst e
    cases r with
    | tup q2 hs =>
      obtain ⟨v, e1, r1⟩ := RwAll.at i hs hy
      have e2 := q _ (tup_sq q2)
      rw [e1] at e2
      cases e2
      exact ⟨Stp.refl _ _, m, r1⟩
  stop := fun i H μ r m h hi => by
    cases r with
    | tup q hs => exact ⟨_, tup_sq q, by rw [hs.len]; exact hi⟩
/-- the signs of a text -/
def signs (z : Str) : List W := z.cps.toList.map fun c => .str ⟨#[c]⟩
theorem itw_str {K : Frag} {z : Str} {std : Mu → Prop} : ItW K (Its z) (fun _ _ => True) std (signs z) where
  mono := fun _ _ _ _ _ _ => trivial
  go := fun i H μ _ _ _ hi => by
    have h2 : i < z.cps.toList.length := by simpa [signs] using hi
    simpa [Its] using h2
  yld := fun i H μ x H' y _ m _ hy q => by
    obtain ⟨e, c, hc, rfl⟩ := q
    subst e
    unfold signs at hy
    rw [List.getElem?_map, Array.getElem?_toList, hc] at hy
    cases hy
    exact ⟨Stp.refl _ _, m, .str _⟩
  stop := fun i H μ _ _ _ hi => by
    have h2 : z.cps.toList.length ≤ i := by simpa [signs] using hi
    simpa [Its] using h2
def nums (lo : Int) (n : Nat) : List W := (List.range n).map fun (i : Nat) => .int (lo + (i : Int))
theorem itw_range {K : Frag} {lo : Int} {n : Nat} {std : Mu → Prop} : ItW K (Itr lo n) (fun _ _ => True) std (nums lo n) where
  mono := fun _ _ _ _ _ _ => trivial
  go := fun i H μ _ _ _ hi => by simpa [nums, Itr] using hi
  yld := fun i H μ x H' y _ m _ hy q => by
    obtain ⟨e, rfl⟩ := q
    subst e
    unfold nums at hy
    rw [List.getElem?_map] at hy
    obtain ⟨j, h1, h2⟩ := Option.map_eq_some_iff.mp hy
    obtain ⟨h3, h4⟩ := List.getElem?_eq_some_iff.mp h1
    rw [List.getElem_range] at h4
    subst h4
    subst h2
    exact ⟨Stp.refl _ _, m, .int _⟩
  stop := fun i H μ _ _ _ hi => by simpa [nums, Itr] using hi
def kW : Key → W
  | .inl i => .int i
  | .inr x => .str x
theorem rw_kW {K : Frag} {H : Hp} {μ : Mu} (k : Key) : Rw K H μ (kV k) (kW k) := by
  cases k
  · exact .int _
  · exact .str _
theorem itw_keys {K : Frag} {d : Addr} {o : Obj} {kv : List (Key × V)} {kvs : List (Key × W)} (hk : kv.map (·.1) = kvs.map (·.1)) {std : Mu → Prop} : ItW K (Itk d o kv) (fun H _ => H d = some (.frz o (.dK kv))) std (kvs.map fun p => kW p.1) where
  mono := fun _ _ _ _ r e => e.fz _ _ _ r
  go := fun i H μ r _ _ hi => ⟨r, by
    have := congrArg List.length hk
    simp only [List.length_map] at this hi
    omega⟩
  yld := fun i H μ x H' y r m _ hy q => by
    obtain ⟨e, k, v, h1, rfl⟩ := q
    subst e
    rw [show kvs.map (fun p => kW p.1) = (kvs.map (·.1)).map kW by rw [List.map_map]; rfl, ← hk, List.getElem?_map, List.getElem?_map, h1] at hy
    cases hy
    exact ⟨Stp.refl _ _, m, rw_kW k⟩
  stop := fun i H μ r _ _ hi => ⟨r, by
    have := congrArg List.length hk
    simp only [List.length_map] at this hi
    omega⟩
section
variable {X : Cx} {E : L2.St → XK} {tg : Expr}
@[reducible] def iSq (e : FE) : FI := fun ρ μ P X => e ρ μ (fun w μ1 => match w with
  | .str z => P (fun _ => True) (signs z) μ1
  | .tup ws => P (fun _ => True) ws μ1
  | w => (match rdL μ1 w with
    | some ws => P (fun μ => rdL μ w = some ws) ws μ1
    | none => False)) X
theorem qi_seq {l : Expr} {f : FE} (hl : QE X E l f) : QI X E tg l (iSq f) := ⟨⟨fun pins s σ H R I h => by
  obtain ⟨ρ, μ, P, XX, hh, hm, hf, hk, hx⟩ := h
  refine thn (hl.go I hh hm hf hx) fun u s1 ⟨v, H1, w, μ1, I1, rx, p1, e1, m1, r1⟩ => ?_
  split at p1
  · rename_i z
    have ev := rw_str r1
    subst ev
    obtain ⟨t, rfl⟩ := rx
    have q := hk _ _ μ1 H1 (Its z) (fun _ _ => True) p1 e1 m1 trivial itw_str
    cases ha : z.cps.all (· < 128)
    · exact wpAny_pyIter_wide ha (pi_one (tk := s1.toks) I1 _ (turn_str _ z t "str_iterator" (.inr rfl)) ⟨_, Heap.get?_push_size _ rfl, rfl, rfl⟩ q)
    · exact wpAny_pyIter_ascii ha (pi_one (tk := s1.toks) I1 _ (turn_str _ z t "str_ascii_iterator" (.inl rfl)) ⟨_, Heap.get?_push_size _ rfl, rfl, rfl⟩ q)
  · have r2 := r1
    cases r1 with
    | @tup a vs _ q hs =>
      cases rx
      obtain ⟨its, rv, pt, hz⟩ := I1.tuple (tup_sq q)
      have q2 := hk _ _ μ1 H1 (Itt X.K a) _ p1 e1 m1 r2 itw_tup
      exact wpAny_pyIter_tuple (show s1.heap.IsTuple a its.toArray from pt) (pi_one (tk := s1.toks) I1 _ (turn_tuple a _) ⟨_, Heap.get?_push_size _ rfl, rfl, rfl⟩ q2)
  · split at p1
    · rename_i ws ew
      obtain ⟨a, vs, rfl, q, hs⟩ := rdL_at ew r1 m1
      cases rx
      obtain ⟨its, rv, pt, hz⟩ := I1.list q
      have q2 := hk _ _ μ1 H1 (Itl X.K a) _ p1 e1 m1 r1 itw_list
      exact wpAny_pyIter_list pt.isList (pi_one (tk := s1.toks) I1 _ (turn_list a _) ⟨_, Heap.get?_push_size _ rfl, rfl, rfl⟩ q2)
    · exact p1.elim⟩⟩
@[reducible] def iR1 (a : FA) : FI := fun ρ μ P X => a ρ μ (fun ws μ1 => match ws with
  | [.int n] => (-(2 ^ 62) ≤ n ∧ n < 2 ^ 62) ∧ P (fun _ => True) (nums 0 n.toNat) μ1
  | _ => False) X
theorem qi_range1 {a : Expr} {f : FA} {p pos : Pos} (hg : Gl X "range") (hm : X.mg "range" = none) (ha : QA X E [a] f) (hs : starEach [a] X.env = [(false, eval a X.env)] := by rfl) : QI X E tg (.Call (.Name "range" p) [a] [] pos) (iR1 f) := ⟨PI.qimp (pi_range1 hg hm ha.pa hs) fun σ H R h => by
  obtain ⟨ρ, μ, P, XX, hh, hm, hf, hk, hx⟩ := h
  refine ⟨ρ, μ, _, XX, hh, hm, hf, fun ws μ1 vs H1 p1 e1 m1 r1 => ?_, hx⟩
  split at p1
  · obtain ⟨v, rfl, r⟩ := r1.one
    have ev := rw_int r
    subst ev
    exact ⟨_, rfl, p1.1.1, p1.1.2, hk _ _ μ1 H1 _ (fun _ _ => True) p1.2 e1 m1 trivial itw_range⟩
  · exact p1.elim⟩
/-- the keys, the values of a locked dict -/
@[reducible] def iKy (e : FE) : FI := fun ρ μ P X => e ρ μ (fun w μ1 => match w with
  | .ref a => (match μ1 a with
    | some (.rk kvs) => P (fun _ => True) (kvs.map fun p => kW p.1) μ1
    | _ => False)
  | _ => False) X
theorem qi_keys {e : Expr} {f : FE} (he : QE X E e f) : QI X E tg e (iKy f) := ⟨PI.qimp (pi_keys he.pe) fun σ H R h => by
  obtain ⟨ρ, μ, P, XX, hh, hm, hf, hk, hx⟩ := h
  refine ⟨ρ, μ, _, XX, hh, hm, hf, fun w μ1 v H1 p1 e1 m1 r1 => ?_, hx⟩
  dsimp only at p1
  split at p1
  · split at p1
    · rename_i a _ kvs ea
      cases r1
      obtain ⟨o, kv, h1, h2⟩ := m1 _ _ ea
      exact ⟨a, o, rfl, .inl ⟨kv, h1, hk _ _ μ1 H1 _ (fun H _ => H a = some (.frz o (.dK kv))) p1 e1 m1 h1 (itw_keys h2.keys)⟩⟩
    · exact p1.elim
  · exact p1.elim⟩
end
/-! ### for -/
def itS (std : Mu → Prop) (g : FG) (b : FS) : List W → Rho → Mu → En → Prop
  | [], ρ, μ, N => std μ ∧ N.nx ρ μ
  | w :: ws, ρ, μ, N => std μ ∧ g w ρ μ fun ρ1 μ1 => b ρ1 μ1 { nx := fun ρ' μ' => itS std g b ws ρ' μ' N, ct := fun ρ' μ' => itS std g b ws ρ' μ' N, bk := N.nx, rt := N.rt, ex := N.ex }
@[reducible] def sFor (i : FI) (g : FG) (b : FS) : FS := fun ρ μ N => i ρ μ (fun std ws μ1 => itS std g b ws ρ μ1 N) (N.ex ρ)
theorem qs_for {X : Cx} {E : L2.St → XK} {tg iter : Expr} {body : List Stmt} {fi : FI} {g : FG} {b : FS} {pos : Pos} (po : PassesOwn (model X.prog X.w) X.A X.env X.xe) (hc : X.calm = true) (hi : QI X E tg iter fi) (hg : QG X tg g) (hb : QSs X E body b)
    (hs : ∀ x, foldedSetIterable iter X.env x = pure x := by intro _; rfl) : QS X E (.For tg iter body [] pos) (sFor fi g b) := ⟨(ps_for po hc hi.pi hg.pg hb.pss hs).qimp fun D σ H h => by
  obtain ⟨ρ, μ, N, hh, hm, hf, l⟩ := h
  refine ⟨ρ, μ, _, _, hh, hm, hf, fun std ws μ1 H1 J Rel p1 e1 m1 rel itw => ?_, l.xl hh⟩
  refine ⟨fun i m σ' H' => m = ws.length - i ∧ i ≤ ws.length ∧ ∃ ρ' μ', itS std g b (ws.drop i) ρ' μ' N ∧ Stp μ1 H1 μ' H' ∧ Mem X.K H' μ' ∧ Holds X.K H' μ' σ' ρ', ⟨ws.length, by simp, Nat.zero_le _, ρ, μ1, by simpa using p1, Stp.refl _ _, m1, hh.stp e1⟩, ?_⟩
  rintro i m σ' H' ⟨rfl, hi2, ρ', μ', q, e2, m2, h2⟩
  have rel2 := itw.mono _ _ _ _ rel e2
  by_cases hlt : i < ws.length
  · have ed : ws.drop i = ws[i] :: ws.drop (i + 1) := List.drop_eq_getElem_cons hlt
    rw [ed] at q
    obtain ⟨hstd, q⟩ := q
    refine .inr ⟨itw.go i H' μ' rel2 m2 hstd hlt, fun σ3 H3 => ∃ ρ3 μ3, itS std g b (ws.drop (i + 1)) ρ3 μ3 N ∧ Stp μ1 H1 μ3 H3 ∧ Mem X.K H3 μ3 ∧ Holds X.K H3 μ3 σ3 ρ3, fun σ3 H3 ⟨ρ3, μ3, q3, e3, m3, h3⟩ => ⟨ws.length - (i + 1), by omega, rfl, hlt, ρ3, μ3, q3, e3, m3, h3⟩, fun x H3 y => ?_⟩
    obtain ⟨e3, m3, r3⟩ := itw.yld i H' μ' x H3 _ rel2 m2 hstd (List.getElem?_eq_getElem hlt) y
    have e13 := e2.trans e3
    refine ⟨_, ρ', μ', _, r3, h2.stp e3, m3, q, fun ρ4 μ4 σ4 H4 p4 e4 m4 h4 => ⟨ρ4, μ4, _, h4, m4, p4, ?_⟩⟩
    have e04 := (e1.trans e13).trans e4
    exact ⟨fun ρ5 μ5 σ5 H5 n e m h => ⟨ρ5, μ5, n, (e13.trans e4).trans e, m, h⟩, fun w μ5 v H5 n e m r => l.rt w μ5 v H5 n (e04.trans e) m r, fun ρ5 μ5 σ5 H5 n e m h => l.nx ρ5 μ5 σ5 H5 n (e04.trans e) m h, fun ρ5 μ5 σ5 H5 n e m h => ⟨ρ5, μ5, n, (e13.trans e4).trans e, m, h⟩, fun ρ5 c fs μ5 d σ5 H5 n e m h p => l.ex ρ5 c fs μ5 d σ5 H5 n (e04.trans e) m h p⟩
  · have ei : i = ws.length := by omega
    subst ei
    rw [List.drop_length] at q
    exact .inl ⟨itw.stop _ H' μ' rel2 m2 q.1 (Nat.le_refl _), l.nx ρ' μ' σ' H' q.2 (e1.trans e2) m2 h2⟩⟩
/-- by an invariant over the turns -/
theorem itS_inv {std : Mu → Prop} {g : FG} {b : FS} {N : En} (ws : List W) (I : Nat → Rho → Mu → Prop) {ρ : Rho} {μ : Mu} (h0 : I 0 ρ μ)
    (hs : ∀ i w ρ μ, ws[i]? = some w → I i ρ μ → std μ ∧ ∀ K : Rho → Mu → Prop, (∀ ρ' μ', I (i + 1) ρ' μ' → K ρ' μ') → g w ρ μ fun ρ1 μ1 => b ρ1 μ1 { nx := K, ct := K, bk := N.nx, rt := N.rt, ex := N.ex })
    (hd : ∀ ρ μ, I ws.length ρ μ → std μ ∧ N.nx ρ μ) : itS std g b ws ρ μ N := by
  have key : ∀ (n i : Nat) (ρ : Rho) (μ : Mu), n = ws.length - i → i ≤ ws.length → I i ρ μ → itS std g b (ws.drop i) ρ μ N := by
    intro n
    induction n with
    | zero =>
      intro i ρ μ hn hi h
      have e : i = ws.length := by omega
      subst e
      rw [List.drop_length]
      exact hd ρ μ h
    | succ n ih =>
      intro i ρ μ hn hi h
      have hlt : i < ws.length := by omega
      rw [List.drop_eq_getElem_cons hlt]
      obtain ⟨h1, h2⟩ := hs i ws[i] ρ μ (List.getElem?_eq_getElem hlt) h
      exact ⟨h1, h2 _ fun ρ' μ' q => ih (i + 1) ρ' μ' (by omega) hlt q⟩
  simpa using key ws.length 0 ρ μ (by simp) (Nat.zero_le _) h0
/-! ### while -/
inductive itWh (c : FT) (b : FS) : Rho → Mu → En → Prop
  | mk {ρ : Rho} {μ : Mu} {N : En} (I : Nat → Rho → Mu → Prop) (n : Nat) (h : I n ρ μ)
      (step : ∀ n ρ μ, I n ρ μ → c ρ μ (fun d μ1 => if d = true then b ρ μ1 { nx := fun ρ' μ' => ∃ m, m < n ∧ I m ρ' μ', ct := fun ρ' μ' => ∃ m, m < n ∧ I m ρ' μ', bk := N.nx, rt := N.rt, ex := N.ex } else N.nx ρ μ1) (N.ex ρ)) : itWh c b ρ μ N
/-! ### a dict is locked -/
@[reducible] def sLock (f : FS) : FS := fun ρ μ N => ∃ a kvs, μ a = some (.dk kvs) ∧ f ρ (mset μ a (.rk kvs)) { nx := fun ρ' μ' => μ' a = some (.rk kvs) ∧ N.nx ρ' (mset μ' a (.dk kvs)), rt := fun w μ' => μ' a = some (.rk kvs) ∧ N.rt w (mset μ' a (.dk kvs)), bk := fun ρ' μ' => μ' a = some (.rk kvs) ∧ N.bk ρ' (mset μ' a (.dk kvs)), ct := fun ρ' μ' => μ' a = some (.rk kvs) ∧ N.ct ρ' (mset μ' a (.dk kvs)), ex := N.ex }
section
variable {K : Frag} {μ : Mu} {H : Hp} {a : Addr} {kvs : List (Key × W)} {kv : List (Key × V)} {od : Obj}
theorem lock_in (e : μ a = some (.dk kvs)) (h : H a = some (.dK kv)) : Stp μ H (mset μ a (.rk kvs)) (upd H a (.frz od (.dK kv))) := Stp.put e (nf_dk h)
theorem lock_mem (m : Mem K H μ) (e : μ a = some (.dk kvs)) (h : H a = some (.dK kv)) (r : RwP K H μ kv kvs) : Mem K (upd H a (.frz od (.dK kv))) (mset μ a (.rk kvs)) := m.put (lock_in e h) ⟨od, kv, upd_same, r.stp (lock_in e h)⟩
/-- behind the lock: from before it -/
theorem lock_out {μ' : Mu} {H' : Hp} (e : μ a = some (.dk kvs)) (h : H a = some (.dK kv)) (s : Stp (mset μ a (.rk kvs)) (upd H a (.frz od (.dK kv))) μ' H') : Stp μ H (mset μ' a (.dk kvs)) (upd H' a (.dK kv)) := ⟨fun b o q n => by
  have ne : b ≠ a := fun z => by
    rw [z, e] at n
    cases n
  have := s.st b o (by rw [upd_ne ne]; exact q) (by rw [mset_ne ne]; exact n)
  exact ⟨by rw [upd_ne ne]; exact this.1, by rw [mset_ne ne]; exact this.2⟩, fun b o u q => by
  have ne : b ≠ a := fun z => by
    rw [z, h] at q
    cases q
  rw [upd_ne ne]
  exact s.fz b o u (by rw [upd_ne ne]; exact q)⟩
/-- what stands stays when the lock is let go, for what is held besides -/
theorem unlock_sto {μ' : Mu} {H' : Hp} (e' : μ' a = some (.rk kvs)) : Sto μ' H' (mset μ' a (.dk kvs)) (upd H' a (.dK kv)) := fun b o q n => by
  have ne : b ≠ a := fun z => by
    rw [z, e'] at n
    cases n
  exact ⟨by rw [upd_ne ne]; exact q, by rw [mset_ne ne]; exact n⟩
theorem lock_back {μ' : Mu} {H' : Hp} (m : Mem K H' μ') (e : μ a = some (.dk kvs)) (h : H a = some (.dK kv)) (s : Stp (mset μ a (.rk kvs)) (upd H a (.frz od (.dK kv))) μ' H') (e' : μ' a = some (.rk kvs)) : H' a = some (.frz od (.dK kv)) ∧ Mem K (upd H' a (.dK kv)) (mset μ' a (.dk kvs)) := by
  have hf := s.fz a od _ (upd_same (H := H))
  refine ⟨hf, m.sto (unlock_sto e') fun b o q => ?_⟩
  by_cases hb : b = a
  · subst hb
    rw [mset_same] at q
    cases q
    obtain ⟨o2, kv2, h1, h2⟩ := m _ _ e'
    rw [hf] at h1
    cases h1
    exact .inr ⟨kv, upd_same, h2.sto (unlock_sto e')⟩
  · rw [mset_ne hb] at q
    exact .inl ⟨q, upd_ne hb⟩
end
theorem qs_lock {X : Cx} {E : L2.St → XK} {st : Stmt} {f : FS} (h : QS X E st f) : QS X E st (sLock f) := ⟨(ps_lock h.ps).qimp fun D σ H h => by
  obtain ⟨ρ, μ, N, hh, hm, ⟨a, kvs, e, hf⟩, l⟩ := h
  obtain ⟨kv, h1, h2⟩ := hm _ _ e
  refine ⟨a, .dK kv, h1, by trivial, fun od => ⟨ρ, _, _, hh.stp (lock_in e h1), lock_mem hm e h1 h2, hf, ?_⟩⟩
  refine ⟨fun ρ' μ' σ' H' n s m hh => ?_, fun w μ' v H' n s m r => ?_, fun ρ' μ' σ' H' n s m hh => ?_, fun ρ' μ' σ' H' n s m hh => ?_, fun ρ' c fs μ' d σ' H' n s m hh p => l.ex ρ' c fs μ' d σ' H' n ((lock_in e h1).trans s) m hh p⟩
  · obtain ⟨q1, q2⟩ := lock_back m e h1 s n.1
    exact ⟨q1, l.nx ρ' _ σ' _ n.2 (lock_out e h1 s) q2 (hh.sto (unlock_sto n.1))⟩
  · obtain ⟨q1, q2⟩ := lock_back m e h1 s n.1
    exact ⟨q1, l.rt w _ v _ n.2 (lock_out e h1 s) q2 (r.sto (unlock_sto n.1))⟩
  · obtain ⟨q1, q2⟩ := lock_back m e h1 s n.1
    exact ⟨q1, l.bk ρ' _ σ' _ n.2 (lock_out e h1 s) q2 (hh.sto (unlock_sto n.1))⟩
  · obtain ⟨q1, q2⟩ := lock_back m e h1 s n.1
    exact ⟨q1, l.ct ρ' _ σ' _ n.2 (lock_out e h1 s) q2 (hh.sto (unlock_sto n.1))⟩⟩
end Q
namespace Q
open PySem PySem.Spec PyProof.Rows L2 Evl
/-! comprehensions: what is made is tracked while it is made; nothing is raised within -/
/-! targets of own names -/
/-! tests -/
theorem _root_.L2.PTs.qimp {X : Cx} {e : List Expr} {t t' : TT} (h : PTs X e t) (k : ∀ σ H Q, t' σ H Q → t σ H Q) : PTs X e t' := ⟨fun pins s σ H Q I q => h.run pins s σ H Q I (k σ H Q q)⟩
/-! [e for .. in .. if c] -/
/-! {k: v for .. in .. if c} -/
theorem new_dk {K : Frag} {H : Hp} {μ : Mu} {p : Addr} (m : Mem K H μ) (hp : H p = none) : Mem K (upd H p (.dK [])) (mset μ p (.dk [])) := m.put (Stp.newT hp) ⟨[], upd_same, .nil⟩
/-! ### what comprehensions come to, where their elements change nothing -/
/-- μ' holds all that μ holds -/
def Ext (μ μ' : Mu) : Prop := ∀ a o, μ a = some o → μ' a = some o
theorem Ext.new {μ : Mu} {p : Addr} {o : O} (h : μ p = none) : Ext μ (mset μ p o) := fun a u e => by
  rw [mset_ne fun z => by
    rw [z, h] at e
    cases e]
  exact e
end Q
namespace Q.So
open PySem L2 Evl
open Q (sLt)
theorem cmpS_gt {P : Program} {w : World} {A : Around} {B : Nat → Value → Prop} (z : Nat → Str) (hz : ∀ i v, B i v → ∃ t, v = .str (z i) t) : CmpOf P w A .Gt B (fun i j => decide ((z j).cps.toList < (z i).cps.toList)) := by
  intro i j vi vj s Q E bi bj h
  obtain ⟨t, rfl⟩ := hz i vi bi
  obtain ⟨u, rfl⟩ := hz j vj bj
  refine richCompare_gives (op := .Gt) (typeIs_str s _ t) (typeIs_str s _ u) F.slot_str_gt F.entry_str_gt ?_ (gives_str_gt _ _ t u) (fun q => nomatch q) h
  exact F.args_str_gt_2 _ _
theorem cmpS_lt {P : Program} {w : World} {A : Around} {B : Nat → Value → Prop} (z : Nat → Str) (hz : ∀ i v, B i v → ∃ t, v = .str (z i) t) : CmpOf P w A .Lt B (fun i j => decide ((z i).cps.toList < (z j).cps.toList)) := by
  intro i j vi vj s Q E bi bj h
  obtain ⟨t, rfl⟩ := hz i vi bi
  obtain ⟨u, rfl⟩ := hz j vj bj
  refine richCompare_gives (op := .Lt) (typeIs_str s _ t) (typeIs_str s _ u) F.slot_str_lt F.entry_str_lt ?_ (gives_str_lt _ _ t u) (fun q => nomatch q) h
  exact F.args_str_lt_2 _ _
section
variable {prog : Program} {w : World} {A : Around} {E : Value → Shared → Prop} {s : Shared}
/-- the walk over the pair that max, min lay down -/
theorem pair_walk {op : CmpOp} {a b : Value} {bt : Nat → Nat → Bool} {Q : Value → Shared → Prop} (hh : A.handled = none) (hc : CmpOf prog w A.in1 op (fun i v => (#[a, b] : Array Value)[i]? = some v) bt)
    (h : ∀ h' tk, (∀ c o, s.heap.get? c = some o → h'.get? c = some o) → Q (if bt 1 0 = true then b else a) { s with heap := h', toks := tk }) :
    wpAny (model prog w) A.in1 (pyIter (.ref s.heap.objs.size)) (fun it s₂ => ∃ I fp wr n P St bt, it = .ref I ∧ Walks prog w A.in1 I fp wr n P St ∧ St 0 s₂.heap ∧ (∀ b ∈ fp, b < s₂.heap.objs.size) ∧ 0 < n ∧ CmpOf prog w A.in1 op P bt ∧
      ∀ v h' tk, P (argBest bt (n - 1)) v → (∀ b o, b ∉ wr → s₂.heap.get? b = some o → h'.get? b = some o) → Q v { s₂ with heap := h', toks := tk }) E
      { s with heap := s.heap.push { cls := .type "tuple", data := .seq #[a, b] } } := by
  have new : (s.heap.push { cls := .type "tuple", data := .seq #[a, b] }).IsTuple s.heap.objs.size #[a, b] := ⟨_, Heap.get?_push_size _ rfl, rfl, 0, rfl⟩
  have sz : (s.heap.push { cls := .type "tuple", data := .seq #[a, b] }).objs.size = s.heap.objs.size + 1 := Heap.size_push ..
  refine wpAny_pyIter_tuple new ?_
  refine ⟨_, [_, s.heap.objs.size], [_], 2, _, _, bt, rfl, Walks.tuple (A := A.in1) hh _ s.heap.objs.size (fun z => Nat.succ_ne_self _ (sz.symm.trans z.symm)) #[a, b], ?_, ?_, by decide, hc, ?_⟩
  · exact ⟨⟨_, Heap.get?_push_size _ rfl, rfl, rfl⟩, new.push _⟩
  · intro c hm
    show c < ((s.heap.push _).push _).objs.size
    rw [Heap.size_push, sz]
    simp only [List.mem_cons, List.not_mem_nil, or_false] at hm
    rcases hm with rfl | rfl
    · rw [sz]
      exact Nat.lt_succ_self _
    · exact Nat.lt_succ_of_lt (Nat.lt_succ_self _)
  · intro v h' tk hP hk
    have old : ∀ c o, s.heap.get? c = some o → h'.get? c = some o := by
      intro c o e
      refine hk c o ?_ (Heap.get?_push_of_some _ (Heap.get?_push_of_some _ e))
      intro hm
      simp only [List.mem_cons, List.not_mem_nil, or_false] at hm
      have l := Heap.lt_size e
      rw [hm, sz] at l
      exact Nat.lt_irrefl _ (Nat.lt_of_succ_lt l)
    have q := h h' tk old
    have hv : v = if bt 1 0 = true then b else a := by
      have hb : argBest bt (2 - 1) = if bt 1 0 = true then 1 else 0 := by simp [argBest]
      rw [hb] at hP
      by_cases c : bt 1 0 = true
      · rw [if_pos c] at hP ⊢
        simpa using hP.symm
      · rw [if_neg c] at hP ⊢
        simpa using hP.symm
    rw [hv]
    exact q
theorem sAt {x y : Str} {t u : Tok} (i : Nat) (v : Value) (h : (#[Value.str x t, Value.str y u] : Array Value)[i]? = some v) : ∃ t', v = .str (if i = 0 then x else y) t' := by
  match i, h with
  | 0, h => exact ⟨t, by simpa using h.symm⟩
  | 1, h => exact ⟨u, by simpa using h.symm⟩
  | n + 2, h => simp at h
end
def sMax (x y : Str) : Str := if sLt x y = true then y else x
def sMin (x y : Str) : Str := if sLt y x = true then y else x
def rMaxS : List V → Hp → VK → Prop := fun xs H Q => ∃ x y, xs = [.str x, .str y] ∧ Q (.str (sMax x y)) H
def rMinS : List V → Hp → VK → Prop := fun xs H Q => ∃ x y, xs = [.str x, .str y] ∧ Q (.str (sMin x y)) H
theorem cr_maxS {X : Cx} (hc : X.calm = true) : CallR X (.builtin "max") rMaxS := by
  intro pins s σ H xs us Q I r h
  obtain ⟨x, y, rfl, q⟩ := h
  obtain ⟨u1, u2, rfl, ⟨t, rfl⟩, ⟨t', rfl⟩⟩ := vals2 r
  refine call_max_two (pair_walk (I.ok.hd hc) (cmpS_gt (fun i => if i = 0 then x else y) (fun i v => sAt i v)) fun h' tk k => ⟨_, H, I.kept k, ?_, q⟩)
  unfold sMax sLt
  by_cases c : x.cps.toList < y.cps.toList
  · simp [c]
    exact ⟨_, rfl⟩
  · simp [c]
    exact ⟨_, rfl⟩
theorem cr_minS {X : Cx} (hc : X.calm = true) : CallR X (.builtin "min") rMinS := by
  intro pins s σ H xs us Q I r h
  obtain ⟨x, y, rfl, q⟩ := h
  obtain ⟨u1, u2, rfl, ⟨t, rfl⟩, ⟨t', rfl⟩⟩ := vals2 r
  refine call_min_two (pair_walk (I.ok.hd hc) (cmpS_lt (fun i => if i = 0 then x else y) (fun i v => sAt i v)) fun h' tk k => ⟨_, H, I.kept k, ?_, q⟩)
  unfold sMin sLt
  by_cases c : y.cps.toList < x.cps.toList
  · simp [c]
    exact ⟨_, rfl⟩
  · simp [c]
    exact ⟨_, rfl⟩
theorem sLt_irr (x : Str) : sLt x x = false := by
  unfold sLt
  exact decide_eq_false (List.lt_irrefl _)
theorem sLt_tr {x y z : Str} (h1 : sLt x y = true) (h2 : sLt y z = true) : sLt x z = true := by
  unfold sLt at *
  exact decide_eq_true (List.lt_trans (of_decide_eq_true h1) (of_decide_eq_true h2))
theorem str_eq {x y : Str} (h : x.cps.toList = y.cps.toList) : x = y := by
  cases x
  cases y
  exact congrArg _ (Array.toList_inj.mp h)
theorem sLt_tri (x y : Str) : sLt x y = true ∨ x = y ∨ sLt y x = true := by
  unfold sLt
  by_cases h1 : x.cps.toList < y.cps.toList
  · exact .inl (decide_eq_true h1)
  · by_cases h2 : y.cps.toList < x.cps.toList
    · exact .inr (.inr (decide_eq_true h2))
    · exact .inr (.inl (str_eq (List.le_antisymm (List.not_lt.mp h2) (List.not_lt.mp h1))))
theorem sLt_as {x y : Str} (h : sLt x y = true) : sLt y x = false := by
  cases e : sLt y x with
  | false => rfl
  | true =>
    have q := sLt_tr h e
    rw [sLt_irr] at q
    cases q
theorem sLt_asym {a b : Str} (h : sLt a b = true) : sLt b a = false := sLt_as h
/-- the order of texts is total, so a sorted arrangement is the only one -/
def leS (a b : Str) : Bool := !sLt b a
theorem leS_tr (a b c : Str) (h1 : leS a b = true) (h2 : leS b c = true) : leS a c = true := by
  unfold leS at *
  cases q : sLt c a with
  | false => rfl
  | true =>
    rcases sLt_tri b c with h | h | h
    · have := sLt_tr h q
      rw [this] at h1
      cases h1
    · subst h
      rw [q] at h1
      cases h1
    · rw [h] at h2
      cases h2
theorem leS_tot (a b : Str) : (leS a b || leS b a) = true := by
  unfold leS
  rcases sLt_tri a b with h | h | h
  · rw [sLt_as h]
    rfl
  · subst h
    rw [sLt_irr]
    rfl
  · rw [h, sLt_as h]
    rfl
theorem leS_anti {a b : Str} (h1 : leS a b = true) (h2 : leS b a = true) : a = b := by
  unfold leS at *
  rcases sLt_tri a b with h | h | h
  · rw [h] at h2
    cases h2
  · exact h
  · rw [h] at h1
    cases h1
def sortS (ks : List Str) : List Str := ks.mergeSort leS
theorem sortS_perm (ks : List Str) : (sortS ks).Perm ks := List.mergeSort_perm ks leS
theorem sortS_pw (ks : List Str) : (sortS ks).Pairwise (fun a b => leS a b = true) := List.pairwise_mergeSort leS_tr leS_tot ks
theorem rising_pw : ∀ (p : Str) (l : List Str), PyProof.Rows.risingS p l = true → (p :: l).Pairwise (fun a b => leS a b = true)
  | p, [], _ => by simp
  | p, x :: r, h => by
    unfold PyProof.Rows.risingS at h
    obtain ⟨h1, h2⟩ := Bool.and_eq_true_iff.mp h
    have ih := rising_pw x r h2
    have hpx : leS p x = true := by
      unfold leS sLt
      rw [PyProof.Rows.lt_meets]
      exact h1
    refine List.pairwise_cons.mpr ⟨fun y hy => ?_, ih⟩
    rcases List.mem_cons.mp hy with e | e
    · rw [e]
      exact hpx
    · exact leS_tr p x y hpx ((List.pairwise_cons.mp ih).1 y e)
theorem sorted_pw {l : List Str} (h : PyProof.Rows.sortedS l = true) : l.Pairwise (fun a b => leS a b = true) := by
  cases l with
  | nil => exact List.Pairwise.nil
  | cons x r => exact rising_pw x r h
theorem pw_only {a b : List Str} (hp : a.Perm b) (ha : a.Pairwise (fun a b => leS a b = true)) (hb : b.Pairwise (fun a b => leS a b = true)) : a = b :=
  List.Perm.eq_of_pairwise (le := fun a b => leS a b = true) (fun _ _ _ _ h1 h2 => leS_anti h1 h2) ha hb hp
theorem sorted_only {ks ys : List Str} (hp : ys.Perm ks) (h : PyProof.Rows.sortedS ys = true) : ys = sortS ks := pw_only (hp.trans (sortS_perm ks).symm) (sorted_pw h) (sortS_pw ks)
open PyProof.Rows SrtO Srt
def sv : Value → Str
  | .str x _ => x
  | _ => ""
def ltSv (v u : Value) : Bool := sLt (sv v) (sv u)
theorem swo_str : Swo ltSv := by
  refine ⟨fun x y h => sLt_asym h, fun x y z h1 h2 => ?_⟩
  have l1 : leS (sv x) (sv y) = true := by unfold leS; rw [show sLt (sv y) (sv x) = false from h1]; rfl
  have l2 : leS (sv y) (sv z) = true := by unfold leS; rw [show sLt (sv z) (sv y) = false from h2]; rfl
  have l3 := leS_tr _ _ _ l1 l2
  unfold leS at l3
  show sLt (sv z) (sv x) = false
  cases e : sLt (sv z) (sv x) with
  | false => rfl
  | true =>
    rw [e] at l3
    cases l3
theorem strs_mem : ∀ {vs : List Value} {ss : List Str}, StrsAre vs ss → ∀ v ∈ vs, ∃ x t, v = Value.str x t
  | _, _, .nil, v, h => absurd h (by simp)
  | _, _, .cons n t r, v, h => by
    rcases List.mem_cons.mp h with e | h
    · exact ⟨n, t, e⟩
    · exact strs_mem r v h
theorem strs_sv : ∀ {vs : List Value}, (∀ v ∈ vs, ∃ x t, v = Value.str x t) → StrsAre vs (vs.map sv)
  | [], _ => .nil
  | v :: vs, h => by
    obtain ⟨i, t, e⟩ := h v List.mem_cons_self
    subst e
    exact .cons i t (strs_sv fun u hu => h u (List.mem_cons_of_mem _ hu))
theorem sv_strs : ∀ {vs : List Value} {ns : List Str}, StrsAre vs ns → vs.map sv = ns
  | _, _, .nil => rfl
  | _, _, .cons n t r => congrArg (n :: ·) (sv_strs r)
section
variable {prog : Program} {w : World} {A : Around} {E : Value → Shared → Prop} {s : Shared}
theorem str_cmp {vs : List Value} {ns : List Str} (hI : StrsAre vs ns) : Cmp prog w A s oneType' (fun p => p.1 ∈ vs) (lt2 ltSv) := by
  intro p q hm hm'
  obtain ⟨a, t, e⟩ := strs_mem hI _ hm
  obtain ⟨b, u, e'⟩ := strs_mem hI _ hm'
  show wpAny (model prog w) A (keyLt' oneType' p.1 q.1) (fun r s' => s' = s ∧ r = ltSv p.1 q.1) (fun _ _ => False) s
  rw [e, e', keyLt'_oneType]
  exact oneLt_str ⟨rfl, rfl⟩
theorem strs_sortable {a : Addr} {vs : List Value} {ns : List Str} (hI : StrsAre vs ns) (h2 : 2 ≤ vs.length) : SortableO prog w A s a vs ltSv := by
  intro h' _
  refine ⟨oneType', fun Q E hq => ?_, str_cmp hI⟩
  match vs, hI, h2 with
  | v1 :: v2 :: rest, hI, _ =>
    rw [keyKind_strs hI]
    exact wpAny_pure hq
  | [], _, h => exact absurd h (by decide)
  | [v], _, h => exact absurd h (by simp)
theorem strs_out {vs out : List Value} {ns : List Str} (hI : StrsAre vs ns) (hs : Srtd ltSv out) (hp : out.Perm vs) : StrsAre out (sortS ns) := by
  have h1 : StrsAre out (out.map sv) := strs_sv fun v hv => strs_mem hI v (hp.mem_iff.mp hv)
  have h2 : (out.map sv).Perm ns := by
    have q := hp.map sv
    rw [sv_strs hI] at q
    exact q
  have h3 : (out.map sv).Pairwise (fun a b => leS a b = true) := List.pairwise_map.mpr (hs.imp fun {x y} h => by
    have h' : sLt (sv y) (sv x) = false := h
    unfold leS
    rw [h']
    rfl)
  have e : out.map sv = sortS ns := pw_only (h2.trans (sortS_perm ns).symm) h3 (sortS_pw ns)
  rwa [e] at h1
end
/-- sorted(list of texts) -/
def rSrtSA (K : Frag) : List V → Hp → VK → Prop := fun vs H Q => ∃ (a : Addr) (xs : List Str), vs = [V.ref a] ∧ SqL K H a (xs.map V.str) ∧
  ∀ p : Addr, H p = none → Q (.ref p) (upd H p (.lst ((sortS xs).map V.str)))
theorem cr_srtSA {X : Cx} : CallR X (.builtin "sorted") (rSrtSA X.K) := by
  intro pins s σ H vs us Q I r h
  obtain ⟨a, xs, rfl, hs, q⟩ := h
  obtain ⟨its, rv, hl, hz⟩ := I.list hs
  rw [Vals.ref1 r]
  have hlen0 := rv.length
  rw [List.length_map] at hlen0 hz
  refine sorted_strsAny hl.isList rv.strs (by rw [← hlen0]; exact hz) fun out ys h1 h2 h3 => ?_
  have e := sorted_only h2 h3
  subst e
  obtain ⟨ep, he'⟩ := sortedAll_at s.heap its out
  have hlen : ((sortS xs).map V.str).length ≤ sizeLine := by
    rw [List.length_map, h2.length_eq]
    exact hz
  exact ⟨.ref _, upd H (s.heap.objs.size + 1) (.lst ((sortS xs).map V.str)), I.laid (t' := s.toks) (fun _ _ => sortedAll_old) (Nat.le_succ _) ⟨hlen, out.toList, ep, vals_of_strs h1, he'⟩, rfl, q _ (I.hok.fresh (Nat.le_succ _))⟩
/-- sorted(dict of texts) -/
def rSrtDA : List V → Hp → VK → Prop := fun xs H Q => ∃ (a : Addr) (kvs : List (Key × V)) (ks : List Str), xs = [.ref a] ∧ Rd H a (.dK kvs) ∧ kvs.map (·.1) = ks.map Sum.inr ∧
    ∀ p, H p = none → Q (.ref p) (upd H p (.lst ((sortS ks).map V.str)))
theorem dict_keys {X : Cx} {ks : List Str} {vs : List (Key × Value)} {acc : Array Value} (hkeys : vs.map (·.1) = ks.map Sum.inr) (hl : vs.length = ks.length) (hacc1 : acc.size = vs.length)
    (hacc2 : ∀ (j : Nat) (v : Value), acc[j]? = some v → ∃ (k : Key) (x : Value), vs[j]? = some (k, x) ∧ (mixKind X.prog X.w).is k v = true) : StrsAre acc.toList ks := by
  have hal : acc.toList.length = ks.length := by rw [Array.length_toList, hacc1, hl]
  exact strs_at hal fun j v e => by
    obtain ⟨k, x, e1, e2⟩ := hacc2 j v (by rw [← Array.getElem?_toList]; exact e)
    have e3 : (vs.map (·.1))[j]? = some k := by rw [List.getElem?_map, e1]; all_goals rfl
    rw [hkeys, List.getElem?_map] at e3
    cases e4 : ks[j]? with
    | none => rw [e4] at e3; cases e3
    | some y =>
      rw [e4] at e3
      have e5 : Sum.inr y = k := Option.some.inj e3
      subst e5
      obtain ⟨t, ev⟩ := Value.isStrOf_shape (x := y) (v := v) e2
      exact ⟨y, t, rfl, ev⟩
theorem cr_srtDA {X : Cx} (hcalm : X.calm = true) : CallR X (.builtin "sorted") rSrtDA := by
  intro pins s σ H xs us Q I r q
  obtain ⟨a, kvs, ks, ex, hd, hks, q⟩ := q
  subst ex
  obtain ⟨u, eu, rx⟩ := vals1 r
  subst eu
  cases rx
  obtain ⟨z, lo, vs, rel, dd⟩ := dk_rd I.hok hd
  obtain ⟨ep, hat⟩ := dd.dictAt
  have hkeys : vs.map (·.1) = ks.map Sum.inr := rel.keys.symm.trans hks
  have hl : vs.length = ks.length := by
    have e := congrArg List.length hkeys
    rw [List.length_map, List.length_map] at e
    exact e
  have h16 : vs.length ≤ sizeLine := by rw [← rel.length]; exact z
  refine Calls.call_function_entry PyProof.Rows.kind_sorted PyProof.Rows.plain_sorted PyProof.Rows.entry_sorted (PyProof.Rows.args_sorted1 _) ?_
  unfold Builtin.«sorted»
  refine wpAny_bind (m := checkCount "sorted" 1 1 _) (wpAny_pure ?_)
  refine wpAny_bind (PySem.W.kdu_collect (A := X.A.in1) (PySem.W.kdl_dict (knd := mixKind X.prog X.w) (kvs := vs) (ep := ep) lo) (I.ok.hd hcalm) hat h16 fun h' tk acc hk hacc => ?_)
  have hS : StrsAre acc.toList ks := dict_keys (X := X) hkeys hl hacc.1 hacc.2
  have hal : acc.toList.length = ks.length := by rw [Array.length_toList, hacc.1, hl]
  have I1 : Inv X pins σ H { s with heap := h', toks := tk } := I.kept hk
  have hz2 : acc.toList.length ≤ sizeLine := by
    rw [hal, ← hl]
    exact h16
  refine wpAny_bind (wpAny_newList ?_ hz2)
  have hoL : (h'.push (seqObj "list" acc.toList.toArray 0)).get? h'.objs.size = some (seqObj "list" acc.toList.toArray 0) := Heap.get?_push_size _ rfl
  show wpAny _ _ _ _ _ { s with heap := h'.push (seqObj "list" acc.toList.toArray 0), toks := tk }
  refine wpAny_bind (wpAny_holding (wpAny_call_entry PyProof.Rows.slot_list_sort ⟨_, hoL, rfl⟩ PyProof.Rows.entry_list_sort
    (list_sort_ord (s := { s with heap := h'.push (seqObj "list" acc.toList.toArray 0), toks := tk }) swo_str hoL hz2 (fun h2 => strs_sortable hS h2) fun out hs hb => ⟨_, rfl, ?_⟩)
    (PyProof.Rows.args_list_sort _)))
  have g1 := strs_out hS hs hb.perm
  obtain ⟨e', he'⟩ := PyProof.Rows.sortedHeap_at (vs := acc.toList) (out := out.toArray) hoL
  have hlen : ((sortS ks).map V.str).length ≤ sizeLine := by
    rw [List.length_map, (sortS_perm ks).length_eq, ← hl]
    exact h16
  refine wpAny_pure ⟨_, rfl, .ref h'.objs.size, upd H h'.objs.size (.lst ((sortS ks).map V.str)), I1.laid (t' := tk) (fun b u e => ?_) (Nat.le_refl _)
    (show ObjOk X.prog X.w _ _ _ (.lst ((sortS ks).map V.str)) from ⟨hlen, out, e', vals_of_strs g1, he'⟩), rfl, q _ (I1.hok.fresh (Nat.le_refl _))⟩
  have hb : b < h'.objs.size := Heap.lt_size e
  rw [PyProof.Rows.sortedHeap_old (Nat.ne_of_lt hb) (by rw [size_push']; exact Nat.lt_succ_of_lt hb)]
  exact Heap.get?_push_of_some _ e
/-- sorted(dict of texts, reverse=True) -/
def rSrtDR : List V → List V → Hp → VK → Prop := fun xs zs H Q => ∃ (a : Addr) (kvs : List (Key × V)) (ks : List Str), xs = [.ref a] ∧ zs = [.bl true] ∧ Rd H a (.dK kvs) ∧ kvs.map (·.1) = ks.map Sum.inr ∧
    ∀ p, H p = none → Q (.ref p) (upd H p (.lst ((sortS ks).reverse.map V.str)))
theorem strs_rev : ∀ {vs : List Value} {ss : List Str}, StrsAre vs ss → StrsAre vs.reverse ss.reverse := fun {vs ss} h => by
  have h1 : StrsAre vs.reverse (vs.reverse.map sv) := strs_sv fun v hv => strs_mem h v (List.mem_reverse.mp hv)
  rwa [List.map_reverse, sv_strs h] at h1
theorem cr_srtDR {X : Cx} (hcalm : X.calm = true) : CallRK X (.builtin "sorted") [Str.ofString "reverse"] rSrtDR := by
  intro pins s σ H xs zs us ws Q I r rz q
  obtain ⟨a, kvs, ks, ex, ez, hd, hks, q⟩ := q
  subst ex
  subst ez
  obtain ⟨u, eu, rx⟩ := vals1 r
  subst eu
  cases rx
  obtain ⟨w1, rfl, e1⟩ := vals1 rz
  obtain rfl : w1 = Value.bool true := e1
  obtain ⟨z, lo, vs, rel, dd⟩ := dk_rd I.hok hd
  obtain ⟨ep, hat⟩ := dd.dictAt
  have hkeys : vs.map (·.1) = ks.map Sum.inr := rel.keys.symm.trans hks
  have hl : vs.length = ks.length := by
    have e := congrArg List.length hkeys
    rw [List.length_map, List.length_map] at e
    exact e
  have h16 : vs.length ≤ sizeLine := by rw [← rel.length]; exact z
  refine call_function_entry_kw PyProof.Rows.kind_sorted PyProof.Rows.plain_sorted PyProof.Rows.entry_sorted (PyProof.Rows.args_sorted_rev _ _) ?_
  unfold Builtin.«sorted»
  refine wpAny_bind (m := checkCount "sorted" 1 1 _) (wpAny_pure ?_)
  refine wpAny_bind (PySem.W.kdu_collect (A := X.A.in1) (PySem.W.kdl_dict (knd := mixKind X.prog X.w) (kvs := vs) (ep := ep) lo) (I.ok.hd hcalm) hat h16 fun h' tk acc hk hacc => ?_)
  have hS : StrsAre acc.toList ks := dict_keys (X := X) hkeys hl hacc.1 hacc.2
  have hal : acc.toList.length = ks.length := by rw [Array.length_toList, hacc.1, hl]
  have I1 : Inv X pins σ H { s with heap := h', toks := tk } := I.kept hk
  have hz2 : acc.toList.length ≤ sizeLine := by
    rw [hal, ← hl]
    exact h16
  refine wpAny_bind (wpAny_newList ?_ hz2)
  have hoL : (h'.push (seqObj "list" acc.toList.toArray 0)).get? h'.objs.size = some (seqObj "list" acc.toList.toArray 0) := Heap.get?_push_size _ rfl
  show wpAny _ _ _ _ _ { s with heap := h'.push (seqObj "list" acc.toList.toArray 0), toks := tk }
  refine wpAny_bind (wpAny_holding (wpAny_call_entry_kw PyProof.Rows.slot_list_sort ⟨_, hoL, rfl⟩ PyProof.Rows.entry_list_sort
    (SrtR.list_sort_ordR (b := true) (s := { s with heap := h'.push (seqObj "list" acc.toList.toArray 0), toks := tk }) swo_str hoL hz2 (fun h2 => strs_sortable hS h2) fun out hs hb => ⟨_, rfl, ?_⟩)
    (PyProof.Rows.args_list_sort_rev _ _)))
  have g1 := strs_rev (strs_out hS hs (hb.perm.trans (List.reverse_perm _)))
  obtain ⟨e', he'⟩ := PyProof.Rows.sortedHeap_at (vs := acc.toList) (out := out.toArray.reverse) hoL
  have hlen : ((sortS ks).reverse.map V.str).length ≤ sizeLine := by
    rw [List.length_map, List.length_reverse, (sortS_perm ks).length_eq, ← hl]
    exact h16
  have e0 : out.reverse.toArray = out.toArray.reverse := by simp
  refine wpAny_pure ⟨_, rfl, .ref h'.objs.size, upd H h'.objs.size (.lst ((sortS ks).reverse.map V.str)), I1.laid (t' := tk) (fun b u e => ?_) (Nat.le_refl _)
    (show ObjOk X.prog X.w _ _ _ (.lst ((sortS ks).reverse.map V.str)) from ⟨hlen, out.reverse, e', vals_of_strs g1, by rw [e0]; exact he'⟩), rfl, q _ (I1.hok.fresh (Nat.le_refl _))⟩
  have hb : b < h'.objs.size := Heap.lt_size e
  rw [PyProof.Rows.sortedHeap_old (Nat.ne_of_lt hb) (by rw [size_push']; exact Nat.lt_succ_of_lt hb)]
  exact Heap.get?_push_of_some _ e
def sortI (ks : List Int) : List Int := ks.mergeSort fun a b => decide (a ≤ b)
theorem sortI_perm (ks : List Int) : (sortI ks).Perm ks := List.mergeSort_perm ks _
theorem sortI_pw (ks : List Int) : (sortI ks).Pairwise (· ≤ ·) := by
  have h := List.pairwise_mergeSort (le := fun a b : Int => decide (a ≤ b)) (fun a b c h1 h2 => decide_eq_true (Int.le_trans (of_decide_eq_true h1) (of_decide_eq_true h2))) (fun a b => by
    rcases Int.le_total a b with q | q
    · rw [decide_eq_true q, Bool.true_or]
    · rw [decide_eq_true q, Bool.or_true]) ks
  exact h.imp fun q => of_decide_eq_true q
theorem sortedI_only {ks ys : List Int} (hp : ys.Perm ks) (h : ys.Pairwise (· ≤ ·)) : ys = sortI ks :=
  List.Perm.eq_of_pairwise (le := (· ≤ ·)) (fun _ _ _ _ h1 h2 => Int.le_antisymm h1 h2) h (sortI_pw ks) (hp.trans (sortI_perm ks).symm)
end Q.So
namespace Q
open PySem PySem.Spec PyProof.Rows L2 Evl
open So (sMax sMin sortS sortI)
/-! built-in functions -/
abbrev FB := List W → Mu → Po → Prop
def rB (K : Frag) (f : FB) : List V → Hp → VK → Prop := fun vs H Q => ∃ ws μ P, RwAll K H μ vs ws ∧ Mem K H μ ∧ f ws μ P ∧ VL K Q μ H P
theorem callR_imp {X : Cx} {c : Value} {r r' : List V → Hp → VK → Prop} (h : CallR X c r) (k : ∀ vs H Q, r' vs H Q → r vs H Q) : CallR X c r' := fun pins s σ H xs us Q I rx q => h pins s σ H xs us Q I rx (k xs H Q q)
theorem callR_or {X : Cx} {c : Value} {r r' : List V → Hp → VK → Prop} (h : CallR X c r) (h' : CallR X c r') : CallR X c (fun vs H Q => r vs H Q ∨ r' vs H Q) := fun pins s σ H xs us Q I rx q => q.elim (h pins s σ H xs us Q I rx) (h' pins s σ H xs us Q I rx)
@[reducible] def eB (f : FB) (a : FA) : FE := fun ρ μ P X => a ρ μ (fun ws μ1 => f ws μ1 P) X
theorem tB_of {K : Frag} {E : L2.St → XK} {f : FB} {fa : FA} {r : List V → Hp → VK → Prop} (k : ∀ vs H Q, rB K f vs H Q → r vs H Q) {σ : L2.St} {H : Hp} {Q : VK} (h : tE K E (eB f fa) σ H Q) : tCB r (tA K E fa) σ H Q := by
  obtain ⟨ρ, μ, P, XX, hh, hm, hf, hv, hx⟩ := h
  exact ⟨ρ, μ, _, XX, hh, hm, hf, fun ws μ1 vs H1 p1 e1 m1 r1 => k vs H1 Q ⟨ws, μ1, P, r1, m1, p1, hv.stp e1⟩, hx⟩
section
variable {X : Cx} {E : L2.St → XK} {x : Str} {p pos : Pos} {e : Expr} {es : List Expr} {fa : FA} {id T : String} {f : FB}
theorem qe_b (hc : CallR X (.builtin id) (rB X.K f)) (hg : Gl X x) (hm : X.mg x = none) (hv : bootBuiltins x = some (.builtin id)) (ha : QA X E (e :: es) fa) (hn : x ≠ "__name__" := by decide) (hdb : (x == ("__debug__" : Str)) = false := by decide)
    (he : starEach (e :: es) X.env = (false, eval e X.env) :: starEach es X.env := by rfl) (hpl : (backTo pos (starEach es X.env)).any (·.1) = false := by rfl) : QE X E (.Call (.Name x p) (e :: es) [] pos) (eB f fa) :=
  ⟨(pe_callB hc hg hm hv ha.pa hn hdb he hpl).qimp fun σ H Q h => tB_of (fun _ _ _ h => h) h⟩
theorem qe_ty (hc : CallR X (.type T) (rB X.K f)) (hg : Gl X x) (hm : X.mg x = none) (hv : bootBuiltins x = some (.type T)) (ha : QA X E (e :: es) fa) (hn : x ≠ "__name__" := by decide) (hdb : (x == ("__debug__" : Str)) = false := by decide)
    (he : starEach (e :: es) X.env = (false, eval e X.env) :: starEach es X.env := by rfl) (hpl : (backTo pos (starEach es X.env)).any (·.1) = false := by rfl) : QE X E (.Call (.Name x p) (e :: es) [] pos) (eB f fa) :=
  ⟨(pe_callTy hc hg hm hv ha.pa hn hdb he hpl).qimp fun σ H Q h => tB_of (fun _ _ _ h => h) h⟩
end
section
variable {X : Cx}
/-! len -/
@[reducible] def bLen : FB := fun ws μ P => match ws with
  | [.str z] => z.length ≤ 16000000 ∧ P (.int (z.length : Int)) μ
  | [.tup us] => P (.int (us.length : Int)) μ
  | [w] => (match rdL μ w with
    | some us => P (.int (us.length : Int)) μ
    | none => (match w with
      | .ref a => (match μ a with
        | some (.dk kvs) => P (.int (kvs.length : Int)) μ
        | _ => False)
      | _ => False))
  | _ => False
theorem cb_len : CallR X (.builtin "len") (rB X.K bLen) := callR_imp (callR_or call_len call_lenD) fun vs H Q h => by
  obtain ⟨ws, μ, P, r, m, h, l⟩ := h
  unfold bLen at h
  split at h
  · obtain ⟨v, rfl, r1⟩ := r.one
    exact .inl ⟨v, _, rfl, by rw [rw_str r1]; exact ⟨big h.1, rfl⟩, l.now h.2 m (.int _)⟩
  · obtain ⟨v, rfl, r1⟩ := r.one
    cases r1 with
    | tup q hs => exact .inl ⟨_, _, rfl, .inr ⟨_, tup_sq q, hs.len.symm⟩, l.now h m (.int _)⟩
  · obtain ⟨v, rfl, r1⟩ := r.one
    split at h
    · rename_i us eu
      obtain ⟨a, vs, rfl, q, hs⟩ := rdL_at eu r1 m
      exact .inl ⟨_, _, rfl, .inl ⟨_, q, hs.len.symm⟩, l.now h m (.int _)⟩
    · split at h
      · split at h
        · rename_i kvs ea
          cases r1
          obtain ⟨kv, h1, h2⟩ := m _ _ ea
          exact .inr ⟨_, kv, rfl, h1, by rw [h2.len]; exact l.now h m (.int _)⟩
        · exact h.elim
      · exact h.elim
  · exact h.elim
/-! int, ord, abs, str, max, min -/
@[reducible] def bInt : FB := fun ws μ P => match ws with
  | [.int i] => P (.int i) μ
  | [.bl b] => P (.int (if b then 1 else 0)) μ
  | _ => False
theorem cb_int : CallR X (.type "int") (rB X.K bInt) := callR_imp call_int1 fun vs H Q h => by
  obtain ⟨ws, μ, P, r, m, h, l⟩ := h
  unfold bInt at h
  split at h
  · obtain ⟨v, rfl, r1⟩ := r.one
    exact .inl ⟨_, by rw [rw_int r1], l.now h m (.int _)⟩
  · obtain ⟨v, rfl, r1⟩ := r.one
    exact .inr ⟨_, by rw [rw_bl r1], l.now h m (.int _)⟩
  · exact h.elim
theorem max_is (i j : Int) : (if j > i then j else i) = max i j := by
  split <;> omega
@[reducible] def bMax : FB := fun ws μ P => match ws with
  | [.int i, .int j] => P (.int (max i j)) μ
  | [.str i, .str j] => P (.str (sMax i j)) μ
  | [w] => ∃ ns : List Int, rdL μ w = some (ns.map W.int) ∧ 0 < ns.length ∧ ∀ m, m ∈ ns → (∀ y, y ∈ ns → y ≤ m) → P (.int m) μ
  | _ => False
theorem cb_max (hc : X.calm = true) : CallR X (.builtin "max") (rB X.K bMax) := callR_imp (callR_or (call_max2 hc) (callR_or (So.cr_maxS hc) (cr_max hc))) fun vs H Q h => by
  obtain ⟨ws, μ, P, r, m, h, l⟩ := h
  unfold bMax at h
  split at h
  · obtain ⟨v, w, rfl, r1, r2⟩ := r.two
    exact .inl ⟨_, _, by rw [rw_int r1, rw_int r2], by rw [max_is]; exact l.now h m (.int _)⟩
  · obtain ⟨v, w, rfl, r1, r2⟩ := r.two
    exact .inr (.inl ⟨_, _, by rw [rw_str r1, rw_str r2], l.now h m (.str _)⟩)
  · obtain ⟨v, rfl, r1⟩ := r.one
    obtain ⟨ns, en, h0, h⟩ := h
    obtain ⟨a, vs, rfl, q, hs⟩ := rdL_at en r1 m
    have ev := ints_of hs
    subst ev
    exact .inr (.inr ⟨a, ns, rfl, q, h0, fun k k1 k2 => l.now (h k k1 k2) m (.int _)⟩)
  · exact h.elim
/-! tuple, list, dict -/
@[reducible] def bTup : FB := fun ws μ P => match ws with
  | [.tup us] => P (.tup us) μ
  | [w] => (match rdL μ w with
    | some us => P (.tup us) μ
    | none => False)
  | _ => False
@[reducible] def rdA (μ : Mu) (w : W) : Option (List W) := match w with
  | .tup us => some us
  | w => rdL μ w
theorem rdA_at {K : Frag} {H : Hp} {μ : Mu} {v : V} {w : W} {ws : List W} (h : rdA μ w = some ws) (r : Rw K H μ v w) (m : Mem K H μ) : ∃ a vs, v = .ref a ∧ (SqL K H a vs ∨ SqT K H a vs) ∧ RwAll K H μ vs ws := by
  unfold rdA at h
  split at h
  · cases h
    cases r with
    | tup q hs => exact ⟨_, _, rfl, .inr (tup_sq q), hs⟩
  · obtain ⟨a, vs, e, q, hs⟩ := rdL_at h r m
    exact ⟨a, vs, e, .inl q, hs⟩
/-- list(..): a value, tracked -/
@[reducible] def bLsV : FB := fun ws μ P => match ws with
  | [w] => (match rdA μ w with
    | some us => P (.lst us) μ
    | none => False)
  | _ => False
theorem cb_lsV : CallR X (.type "list") (rB X.K bLsV) := callR_imp call_list_of fun vs H Q h => by
  obtain ⟨ws, μ, P, r, m, h, l⟩ := h
  unfold bLsV at h
  split at h
  · obtain ⟨v, rfl, r1⟩ := r.one
    split at h
    · rename_i us eu
      obtain ⟨a, vs, rfl, q, hs⟩ := rdA_at eu r1 m
      exact ⟨a, vs, rfl, q, fun p hp => l.lst h m hs hp⟩
    · exact h.elim
  · exact h.elim
theorem VL.dk {K : Frag} {Q : VK} {μ : Mu} {H : Hp} {P : Po} (l : VL K Q μ H P) {kvs : List (Key × W)} {kv : List (Key × V)} (p : ∀ p, μ p = none → P (.ref p) (mset μ p (.dk kvs))) (m : Mem K H μ) (r : RwP K H μ kv kvs) {a : Addr} (ha : H a = none) : Q (.ref a) (upd H a (.dK kv)) := l _ _ _ _ (p a (m.free ha)) (Stp.newT ha) (m.put (Stp.newT ha) ⟨kv, upd_same, r.stp (Stp.newT ha)⟩) (.ref a)
/-! sorted, of texts, of a dict with text keys, with int keys -/
@[reducible] def bSdS : FB := fun ws μ P => match ws with
  | [.ref a] => (match μ a with
    | some (.dk kvs) => ∃ ks : List Str, kvs.map (·.1) = ks.map Sum.inr ∧ P (.lst ((sortS ks).map W.str)) μ
    | _ => False)
  | _ => False
theorem cb_sdS (hc : X.calm = true) : CallR X (.builtin "sorted") (rB X.K bSdS) := callR_imp (So.cr_srtDA hc) fun vs H Q h => by
  obtain ⟨ws, μ, P, r, m, h, l⟩ := h
  unfold bSdS at h
  split at h
  · obtain ⟨v, rfl, r1⟩ := r.one
    split at h
    · rename_i a _ kvs ea
      cases r1
      obtain ⟨kv, h1, h2⟩ := m _ _ ea
      obtain ⟨ks, ek, h⟩ := h
      exact ⟨a, kv, ks, rfl, .inl h1, by rw [h2.keys, ek], fun p hp => l.lst h m (rw_strs _) hp⟩
    · exact h.elim
  · exact h.elim
end
/-! isinstance of a built-in type -/
inductive T7 where
  | non | bl | int | str | tup | lst | dct
deriving DecidableEq
def T7.nm : T7 → String
  | .non => "NoneType"
  | .bl => "bool"
  | .int => "int"
  | .str => "str"
  | .tup => "tuple"
  | .lst => "list"
  | .dct => "dict"
@[reducible] def T7.is : T7 → T7 → Bool
  | .bl, .int => true
  | .non, .non => true
  | .bl, .bl => true
  | .int, .int => true
  | .str, .str => true
  | .tup, .tup => true
  | .lst, .lst => true
  | .dct, .dct => true
  | _, _ => false
theorem T7.kit (a b : T7) : kitB a.nm b.nm = some (a.is b) := by
  cases a <;> cases b <;> decide +kernel
@[reducible] def tyW (μ : Mu) (w : W) : Option T7 := match w with
  | .non => some .non
  | .bl _ => some .bl
  | .int _ => some .int
  | .str _ => some .str
  | .tup _ => some .tup
  | .lst _ => some .lst
  | .rol _ => some .lst
  | .ref a => (match μ a with
    | some (.ls _) => some .lst
    | some (.dk _) => some .dct
    | some (.rk _) => some .dct
    | some (.dt _) => some .dct
    | _ => none)
  | _ => none
theorem tyx_at {K : Frag} {H : Hp} {μ : Mu} {v : V} {w : W} {t : T7} (h : tyW μ w = some t) (r : Rw K H μ v w) (m : Mem K H μ) : TyX K H v (.type t.nm) := by
  cases r with
  | non => cases h; exact .base .non
  | bl b => cases h; exact .base (.bl b)
  | int i => cases h; exact .base (.int i)
  | str x => cases h; exact .base (.str x)
  | tup q _ =>
    cases h
    rcases q with q | ⟨o, its, n, e, c, _⟩
    · exact .base (.tup q.1)
    · exact .kTuple e c
  | lst q _ =>
    cases h
    exact .base (.lst q.1)
  | rol q _ =>
    cases h
    rcases q.1 with q | ⟨o, q⟩
    · exact .base (.lst q)
    · exact .base (.frz q)
  | ref a =>
    unfold tyW at h
    dsimp only at h
    split at h
    · rename_i e
      cases h
      obtain ⟨vs, h1, _⟩ := m _ _ e
      exact .base (.lst h1)
    · rename_i e
      cases h
      obtain ⟨vs, h1, _⟩ := m _ _ e
      exact .base (.dK h1)
    · rename_i e
      cases h
      obtain ⟨o, vs, h1, _⟩ := m _ _ e
      exact .fDict h1
    · rename_i e
      cases h
      obtain ⟨vs, h1, _⟩ := m _ _ e
      exact .base (.dT h1)
    · cases h
  | _ => cases h
@[reducible] def eIsi (t : T7) (e : FE) : FE := fun ρ μ P X => e ρ μ (fun w μ1 => match tyW μ1 w with
  | some s => P (.bl (s.is t)) μ1
  | none => False) X
theorem qe_isi {X : Cx} {E : L2.St → XK} {x : Str} {p p2 pos : Pos} {e : Expr} {fe : FE} (t : T7) (hg : Gl X "isinstance") (hm : X.mg "isinstance" = none) (hg2 : Gl X x) (hm2 : X.mg x = none) (hv2 : bootBuiltins x = some (.type t.nm)) (he : QE X E e fe)
    (hst : starEach [e, .Name x p2] X.env = (false, eval e X.env) :: starEach [.Name x p2] X.env := by rfl) (hpl : (backTo pos (starEach [.Name x p2] X.env)).any (·.1) = false := by rfl)
    (hn2 : x ≠ "__name__" := by decide) (hd2 : (x == ("__debug__" : Str)) = false := by decide) : QE X E (.Call (.Name "isinstance" p) [e, .Name x p2] [] pos) (eIsi t fe) :=
  ⟨(pe_callB call_isi hg hm (by decide +kernel) (pa_cons he.pe (pa_cons (pe_bltn (v := V.ty t.nm) hg2 hm2 hv2 rfl hn2 hd2) pa_nil) hst) (by decide) (by decide) hst hpl).qimp fun σ H Q h => by
  obtain ⟨ρ, μ, P, XX, hh, hm, hf, hv, hx⟩ := h
  refine ⟨ρ, μ, _, XX, hh, hm, hf, fun w μ1 v H1 p1 e1 m1 r1 => ?_, hx⟩
  dsimp only at p1
  split at p1
  · rename_i s es
    exact ⟨v, .ty t.nm, _, _, s.is t, rfl, .ty t.nm, tyx_at es r1 m1, kit_ty (T7.kit s t), hv _ μ1 _ H1 p1 e1 m1 (.bl _)⟩
  · exact p1.elim⟩
end Q
namespace Q
open PySem PySem.Spec PyProof.Rows L2 Evl
/-! methods of built-in types -/
abbrev FM := W → List W → Mu → Po → Prop
def rM (K : Frag) (f : FM) : V → List V → Hp → VK → Prop := fun x vs H Q => ∃ w ws μ P, Rw K H μ x w ∧ RwAll K H μ vs ws ∧ Mem K H μ ∧ f w ws μ P ∧ VL K Q μ H P
theorem mtR_imp {X : Cx} {id : String} {r r' : V → List V → Hp → VK → Prop} (h : MtR X id r) (k : ∀ x vs H Q, r' x vs H Q → r x vs H Q) : MtR X id r' := fun pins s σ H x xs v us Q I rx rv q => h pins s σ H x xs v us Q I rx rv (k x xs H Q q)
@[reducible] def tyS : Mu → W → Prop := fun _ w => match w with
  | .str _ => True
  | _ => False
@[reducible] def tyL : Mu → W → Prop := fun μ w => (rdL μ w).isSome = true
@[reducible] def tyD : Mu → W → Prop := fun μ w => match w with
  | .ref a => (match μ a with
    | some (.dk _) => True
    | _ => False)
  | _ => False
def TyM (K : Frag) (T : String) (ty : Mu → W → Prop) : Prop := ∀ H μ v w, Rw K H μ v w → Mem K H μ → ty μ w → tyV K T v H
theorem tym_l {K : Frag} : TyM K "list" tyL := fun H μ v w r m h => by
  obtain ⟨us, e⟩ := Option.isSome_iff_exists.mp h
  obtain ⟨a, vs, rfl, q, _⟩ := rdL_at e r m
  exact .inl ⟨rfl, vs, q⟩
@[reducible] def eBm (ty : Mu → W → Prop) (f : FM) (o : FE) (a : FA) : FE := fun ρ μ P X => o ρ μ (fun w μ1 => ty μ1 w ∧ a ρ μ1 (fun ws μ2 => f w ws μ2 P) X) X
section
variable {X : Cx} {E : L2.St → XK} {o e : Expr} {es : List Expr} {fo : FE} {fa : FA} {name : Str} {apos cpos : Pos} {T id : String} {f : FM} {ty : Mu → W → Prop}
theorem qe_bm (tm : TyM X.K T ty) (pa : PlainAttrs T) (slot : Slot T name id) (hty : typeOf (.builtin id) = pure (.type "method_descriptor")) (hm : MtR X id (rM X.K f)) (ho : QE X E o fo) (ha : QA X E (e :: es) fa)
    (hbase : attributeBase o name X.env (eval o X.env) = eval o X.env := by rfl)
    (hfew : ((backTo cpos (starEach (e :: es) X.env)).all (fun x => !x.1) && (backToKw cpos (keywordEach [] X.env)).all (fun x => x.1.isSome)
      && decide ((e :: es).length + ([] : List Keyword).length + (if ([] : List Keyword).isEmpty then 0 else 1) < 30)) = true := by rfl)
    (hline : (apos.endLine == cpos.line) = true := by rfl) (hs : starEach (e :: es) X.env = (false, eval e X.env) :: starEach es X.env := by rfl) (hplain : (backTo cpos (starEach es X.env)).any (·.1) = false := by rfl) :
    QE X E (.Call (.Attribute o name apos) (e :: es) [] cpos) (eBm ty f fo fa) := ⟨(pe_bm pa slot hty hm ho.pe ha.pa hbase hfew hline hs hplain).qimp fun σ H Q h => by
  obtain ⟨ρ, μ, P, XX, hh, hm, hf, hv, hx⟩ := h
  exact ⟨ρ, μ, _, XX, hh, hm, hf, fun w μ1 v H1 p1 e1 m1 r1 => ⟨tm H1 μ1 v w r1 m1 p1.1, ρ, μ1, _, XX, hh.stp e1, m1, p1.2, fun ws μ2 vs H2 p2 e2 m2 r2 => ⟨w, ws, μ2, P, r1.stp e2, r2, m2, p2, hv.stp (e1.trans e2)⟩, hx.stp e1⟩, hx⟩⟩
end
section
variable {X : Cx}
/-! lists -/
@[reducible] def mApp : FM := fun w ws μ P => match w with
  | .ref a => (match μ a with
    | some (.ls us) => (match ws with
      | [x] => us.length < 16000000 ∧ P .non (mset μ a (.ls (us ++ [x])))
      | _ => False)
    | _ => False)
  | _ => False
theorem mU_app : MtR X "list.append" (rM X.K mApp) := mtR_imp mt_append fun x vs H Q h => by
  obtain ⟨w, ws, μ, P, r, rs, m, h, l⟩ := h
  unfold mApp at h
  split at h
  · split at h
    · split at h
      · rename_i us ea _ y
        cases r
        obtain ⟨v, rfl, r1⟩ := rs.one
        obtain ⟨xs, h1, h2⟩ := m _ _ ea
        have st : Stp μ H (mset μ _ (.ls (us ++ [y]))) (upd H _ (.lst (xs ++ [v]))) := Stp.put ea (nf_lst h1)
        exact ⟨_, xs, v, rfl, rfl, h1, by rw [h2.len]; exact biglt h.1, l _ _ _ _ h.2 st (m.put st ⟨_, upd_same, (h2.app (.cons r1 .nil)).stp st⟩) .non⟩
      · exact h.elim
    · exact h.elim
  · exact h.elim
/-! texts -/
@[reducible] def mFind : FM := fun w ws μ P => match w with
  | .str a => (match ws with
    | [.str b, .int i] => P (.int (Txt.find3 a b i)) μ
    | [.str b] => P (.int (Txt.find a b)) μ
    | _ => False)
  | _ => False
@[reducible] def mDig : FM := fun w ws μ P => match w with
  | .str a => (match ws with
    | [] => P (.bl (Txt.isdigit a)) μ
    | _ => False)
  | _ => False
@[reducible] def mJoin : FM := fun w ws μ P => match w with
  | .str a => (match ws with
    | [x] => ∃ ys : List Str, rdA μ x = some (ys.map W.str) ∧ (ys.map (·.length)).sum + ys.length * a.length ≤ 16777216 ∧ P (.str (Txt.join a ys)) μ
    | _ => False)
  | _ => False
end
/-! ### dicts -/
@[reducible] def getW (μ : Mu) (x y : W) (k : Option W → Prop) : Prop := match rdD μ x with
  | some kvs => (match kO y with
    | some q => k (valW kvs q)
    | none => False)
  | none => False
@[reducible] def eGet2 (o a b : FE) : FE := fun ρ μ P X => o ρ μ (fun x μ1 => (rdD μ1 x).isSome = true ∧ a ρ μ1 (fun y μ2 => b ρ μ2 (fun z μ3 => getW μ3 x y fun v => P (v.getD z) μ3) X) X) X
@[reducible] def ePop1 (o a : FE) : FE := fun ρ μ P X => o ρ μ (fun x μ1 => tyD μ1 x ∧ a ρ μ1 (fun y μ2 => match x with
  | .ref p => (match μ2 p with
    | some (.dk kvs) => (match kO y with
      | some q => (match valW kvs q with
        | some v => P v (mset μ2 p (.dk (dropW kvs q)))
        | none => False)
      | none => False)
    | _ => False)
  | _ => False) X) X
theorem isd_at {K : Frag} {H : Hp} {μ : Mu} {v : V} {w : W} (h : (rdD μ w).isSome = true) (r : Rw K H μ v w) (m : Mem K H μ) : ∃ a, v = .ref a ∧ IsD H a := by
  obtain ⟨us, e⟩ := Option.isSome_iff_exists.mp h
  obtain ⟨a, kv, rfl, q, _⟩ := rdD_at e r m
  exact ⟨a, rfl, .inl ⟨kv, q⟩⟩
theorem getW_at {K : Frag} {H : Hp} {μ : Mu} {a : Addr} {u : V} {x y : W} {k : Option W → Prop} (h : getW μ x y k) (r : Rw K H μ (.ref a) x) (ry : Rw K H μ u y) (m : Mem K H μ) : ∃ o ow, DGet H a u o ∧ k ow ∧ (ow = none → o = none) ∧ ∀ w, ow = some w → ∃ v, o = some v ∧ Rw K H μ v w := by
  unfold getW at h
  split at h
  · rename_i kvs e
    obtain ⟨b, kv, eb, q, rr⟩ := rdD_at e r m
    cases eb
    split at h
    · rename_i q1 eq1
      have eu := kO_rw ry eq1
      subst eu
      exact ⟨_, _, dget_of (K := K) (μ := μ) q, h, (rwp_val rr).1, (rwp_val rr).2⟩
    · exact h.elim
  · exact h.elim
theorem tyD_is {K : Frag} {H : Hp} {μ : Mu} {v : V} {w : W} (h : tyD μ w) (r : Rw K H μ v w) (m : Mem K H μ) : ∃ a, v = .ref a ∧ w = .ref a ∧ IsD H a := by
  unfold tyD at h
  split at h
  · split at h
    · rename_i kvs e
      cases r
      obtain ⟨kv, h1, _⟩ := m _ _ e
      exact ⟨_, rfl, rfl, .inl ⟨kv, .inl h1⟩⟩
    · exact h.elim
  · exact h.elim
section
variable {X : Cx} {E : L2.St → XK} {o e f : Expr} {apos cpos pos pos' : Pos} {fo fa fb : FE}
theorem qe_get2 (hu : X.A.units + 1 < cLine) (ho : QE X E o fo) (ha : QE X E e fa) (hb : QE X E f fb) (m : M2 X o "get" apos e f cpos) : QE X E (.Call (.Attribute o "get" apos) [e, f] [] cpos) (eGet2 fo fa fb) := ⟨(pe_dget2 hu ho.pe ha.pe hb.pe m).qimp fun σ H Q h => by
  obtain ⟨ρ, μ, P, XX, hh, hm, hf, hv, hx⟩ := h
  refine ⟨ρ, μ, _, XX, hh, hm, hf, fun x μ1 v H1 p1 e1 m1 r1 => ?_, hx⟩
  obtain ⟨a, rfl, d⟩ := isd_at p1.1 r1 m1
  refine ⟨a, rfl, d, ρ, μ1, _, XX, hh.stp e1, m1, p1.2, fun y μ2 u H2 p2 e2 m2 r2 => ⟨ρ, μ2, _, XX, hh.stp (e1.trans e2), m2, p2, fun z μ3 z' H3 p3 e3 m3 r3 => ?_, hx.stp (e1.trans e2)⟩, hx.stp e1⟩
  obtain ⟨o, ow, g, k, k1, k2⟩ := getW_at p3 (r1.stp (e2.trans e3)) (r2.stp e3) m3
  refine ⟨o, g, ?_⟩
  have e13 := (e1.trans e2).trans e3
  cases ow with
  | none =>
    rw [k1 rfl]
    exact hv _ μ3 _ H3 k e13 m3 r3
  | some w =>
    obtain ⟨v, rfl, rv⟩ := k2 w rfl
    exact hv _ μ3 _ H3 k e13 m3 rv⟩
theorem pop_st {K : Frag} {H : Hp} {μ : Mu} {p : Addr} {kvs : List (Key × W)} {kv : List (Key × V)} {q : Key} (m : Mem K H μ) (e : μ p = some (.dk kvs)) (h1 : H p = some (.dK kv)) (h2 : RwP K H μ kv kvs) : Stp μ H (mset μ p (.dk (dropW kvs q))) (upd H p (.dK (dropK kv q))) ∧ Mem K (upd H p (.dK (dropK kv q))) (mset μ p (.dk (dropW kvs q))) := by
  have st : Stp μ H (mset μ p (.dk (dropW kvs q))) (upd H p (.dK (dropK kv q))) := Stp.put e (nf_dk h1)
  exact ⟨st, m.put st ⟨_, upd_same, (rwp_drop h2).stp st⟩⟩
theorem qe_pop1 (ho : QE X E o fo) (ha : QE X E e fa) (m : M1 X o "pop" apos e cpos) : QE X E (.Call (.Attribute o "pop" apos) [e] [] cpos) (ePop1 fo fa) := ⟨(pe_dpop1 ho.pe ha.pe m).qimp fun σ H Q h => by
  obtain ⟨ρ, μ, P, XX, hh, hm, hf, hv, hx⟩ := h
  refine ⟨ρ, μ, _, XX, hh, hm, hf, fun x μ1 v H1 p1 e1 m1 r1 => ?_, hx⟩
  obtain ⟨a, rfl, rfl, d⟩ := tyD_is p1.1 r1 m1
  refine ⟨a, rfl, d, ρ, μ1, _, XX, hh.stp e1, m1, p1.2, fun y μ2 u H2 p2 e2 m2 r2 => ?_, hx.stp e1⟩
  dsimp only at p2
  split at p2
  · rename_i kvs ea
    obtain ⟨kv, h1, h2⟩ := m2 _ _ ea
    split at p2
    · rename_i q eq1
      have eu := kO_rw r2 eq1
      subst eu
      split at p2
      · rename_i w ew
        obtain ⟨v, e3, r3⟩ := (rwp_val h2).2 w ew
        obtain ⟨st, m3⟩ := pop_st (q := q) m2 ea h1 h2
        exact ⟨kv, q, v, h1, rfl, e3, hv w _ v _ p2 ((e1.trans e2).trans st) m3 (r3.stp st)⟩
      · exact p2.elim
    · exact p2.elim
  · exact p2.elim⟩
/-! a[i] = v, d[k] = v -/
@[reducible] def putIx (x y w : W) (μ : Mu) (k : Mu → Prop) : Prop := match x with
  | .ref a => (match μ a with
    | some (.ls ws) => (match y with
      | .int i => (match ixN ws.length i with
        | some j => k (mset μ a (.ls (ws.set j w)))
        | none => False)
      | _ => False)
    | some (.dk kvs) => (match kO y with
      | some q => kvs.length < 16000000 ∧ k (mset μ a (.dk (putW kvs q w)))
      | none => False)
    | _ => False)
  | _ => False
@[reducible] def sPut (o i e : FE) : FS := fun ρ μ N => e ρ μ (fun w μ1 => o ρ μ1 (fun x μ2 => i ρ μ2 (fun y μ3 => putIx x y w μ3 fun μ4 => N.nx ρ μ4) (N.ex ρ)) (N.ex ρ)) (N.ex ρ)
theorem put_at {K : Frag} {H : Hp} {μ : Mu} {vx vy vw : V} {x y w : W} {k : Mu → Prop} {Q : Hp → Prop} (h : putIx x y w μ k) (rx : Rw K H μ vx x) (ry : Rw K H μ vy y) (rw' : Rw K H μ vw w) (m : Mem K H μ) (q : ∀ μ' H', k μ' → Stp μ H μ' H' → Mem K H' μ' → Q H') : rSetL vx vy vw H Q ∨ rSetD vx vy vw H Q := by
  unfold putIx at h
  split at h
  · split at h
    · rename_i us ea
      cases rx
      obtain ⟨xs, h1, h2⟩ := m _ _ ea
      split at h
      · split at h
        · rename_i i _ j ej
          have ey := rw_int ry
          subst ey
          have st : Stp μ H (mset μ _ (.ls (us.set j w))) (upd H _ (.lst (xs.set j vw))) := Stp.put ea (nf_lst h1)
          exact .inl ⟨_, xs, i, j, rfl, rfl, h1, by rw [h2.len]; exact ej, q _ _ h st (m.put st ⟨_, upd_same, (RwAll.set rw' j h2).stp st⟩)⟩
        · exact h.elim
      · exact h.elim
    · rename_i kvs ea
      cases rx
      obtain ⟨kv, h1, h2⟩ := m _ _ ea
      split at h
      · rename_i q1 eq1
        have ey := kO_rw ry eq1
        subst ey
        have st : Stp μ H (mset μ _ (.dk (putW kvs q1 w))) (upd H _ (.dK (putK kv q1 vw))) := Stp.put ea (nf_dk h1)
        exact .inr ⟨_, _, rfl, .inl ⟨kv, q1, h1, rfl, by rw [h2.len]; exact biglt h.1, rfl⟩, q _ _ h.2 st (m.put st ⟨_, upd_same, (rwp_put rw' h2).stp st⟩)⟩
      · exact h.elim
    · exact h.elim
  · exact h.elim
theorem pset_or {t t' : TSet} (h : PSet X t) (h' : PSet X t') : PSet X (fun o i v H Q => t o i v H Q ∨ t' o i v H Q) := fun pins s σ H o i v ov iv u Q I ro ri rv q => q.elim (h pins s σ H o i v ov iv u Q I ro ri rv) (h' pins s σ H o i v ov iv u Q I ro ri rv)
theorem qs_put {i value : Expr} {fi fe : FE} (hu : X.A.units + 1 < cLine) (ho : QE X E o fo) (hi : QE X E i fi) (he : QE X E value fe) (hs : swapsWithSole [.Subscript o i pos'] value pos.line X.env = pure false := by rfl) (hw : swappedStores [.Subscript o i pos'] value X.env = pure none := by rfl)
    (h1 : (assignEach [.Subscript o i pos'] X.env).map (·.2) = [assign (.Subscript o i pos') X.env] := by rfl)
    (ha : ∀ v, assign (.Subscript o i pos') X.env v = (do
      let ov ← holding [v] (eval o X.env)
      let iv ← holding [v, ov] (eval i X.env)
      standAt pos'
      holding [v, ov, iv] (setItem ov iv v)
      release [v, ov, iv] []) := by intro _; rfl) : QS X E (.Assign [.Subscript o i pos'] value pos) (sPut fo fi fe) := ⟨(ps_asg he.pe (pg_sub ho.pe hi.pe (pset_or set_list (set_dict hu)) ha) hs hw h1).qimp fun D σ H h => by
  obtain ⟨ρ, μ, N, hh, hm, hf, l⟩ := h
  refine ⟨ρ, μ, _, _, hh, hm, hf, fun w μ1 v H1 p1 e1 m1 r1 => ⟨ρ, μ1, _, _, hh.stp e1, m1, p1, fun x μ2 u H2 p2 e2 m2 r2 => ⟨ρ, μ2, _, _, hh.stp (e1.trans e2), m2, p2, fun y μ3 z H3 p3 e3 m3 r3 => ?_, (l.stp (e1.trans e2)).xl (hh.stp (e1.trans e2))⟩, (l.stp e1).xl (hh.stp e1)⟩, l.xl hh⟩
  have e13 := (e1.trans e2).trans e3
  exact put_at p3 (r2.stp e3) r3 (r1.stp (e2.trans e3)) m3 fun μ' H' k e m => l.nx ρ μ' σ H' k (e13.trans e) m (hh.stp (e13.trans e))⟩
/-! del a[i], del d[k] -/
@[reducible] def delIx (x y : W) (μ : Mu) (k : Mu → Prop) : Prop := match x with
  | .ref a => (match μ a with
    | some (.ls ws) => (match y with
      | .int i => (match ixN ws.length i with
        | some j => (-(2 ^ 63) ≤ i ∧ i < 2 ^ 63) ∧ k (mset μ a (.ls (ws.eraseIdx j)))
        | none => False)
      | _ => False)
    | some (.dk kvs) => (match kO y with
      | some q => (valW kvs q).isSome = true ∧ k (mset μ a (.dk (dropW kvs q)))
      | none => False)
    | _ => False)
  | _ => False
@[reducible] def sDel (o i : FE) : FS := fun ρ μ N => o ρ μ (fun x μ1 => i ρ μ1 (fun y μ2 => delIx x y μ2 fun μ3 => N.nx ρ μ3) (N.ex ρ)) (N.ex ρ)
theorem qs_del {i : Expr} {fi : FE} {tpos : Pos} (ho : QE X E o fo) (hi : QE X E i fi) : QS X E (.Delete [.Subscript o i tpos] pos) (sDel fo fi) := by
  refine ⟨⟨fun pins s σ H D I h => ?_⟩⟩
  obtain ⟨ρ, μ, N, hh, hm, hf, l⟩ := h
  refine wpAny_Delete (wpAny_deleteEach_cons (wpAny_delete_Subscript (thn (ho.go I hh hm hf (l.xl hh)) fun u s1 ⟨x, H1, wx, μ1, I1, rx, p1, e1, m1, r1⟩ => thn (hi.go I1 (hh.stp e1) m1 p1 ((l.stp e1).xl (hh.stp e1))) fun iv s2 ⟨y, H2, wy, μ2, I2, ry, p2, e2, m2, r2⟩ => ?_)))
  have e12 := e1.trans e2
  have r1' := r1.stp e2
  unfold delIx at p2
  split at p2
  · split at p2
    · rename_i us ea
      cases r1'
      obtain ⟨xs, h1, h2⟩ := m2 _ _ ea
      cases (show u = Value.ref _ from rx)
      split at p2
      · split at p2
        · rename_i k _ j ej
          have ey := rw_int r2
          subst ey
          obtain ⟨t, rfl⟩ := (show ∃ t, iv = Value.int k t from ry)
          have st : Stp μ2 H2 (mset μ2 _ (.ls (us.eraseIdx j))) (upd H2 _ (.lst (xs.eraseIdx j))) := Stp.put ea (nf_lst h1)
          exact del_list I2 h1 p2.1.1 p2.1.2 (by rw [h2.len]; exact (ixN_seq ej).1) fun s3 I3 => wpAny_deleteEach_nil ⟨σ, _, I3, l.nx ρ _ σ _ p2.2 (e12.trans st) (m2.put st ⟨_, upd_same, (h2.erase j).stp st⟩) (hh.stp (e12.trans st))⟩
        · exact p2.elim
      · exact p2.elim
    · rename_i kvs ea
      cases r1'
      obtain ⟨kv, h1, h2⟩ := m2 _ _ ea
      cases (show u = Value.ref _ from rx)
      split at p2
      · rename_i q eq1
        have ey := kO_rw r2 eq1
        subst ey
        obtain ⟨w, ew⟩ := Option.isSome_iff_exists.mp p2.1
        obtain ⟨v, e3, _⟩ := (rwp_val h2).2 w ew
        obtain ⟨st, m3⟩ := pop_st (q := q) m2 ea h1 h2
        exact d_delItem I2 h1 ry (by rw [e3]; rfl) fun s3 I3 => wpAny_deleteEach_nil ⟨σ, _, I3, l.nx ρ _ σ _ p2.2 (e12.trans st) m3 (hh.stp (e12.trans st))⟩
      · exact p2.elim
    · exact p2.elim
  · exact p2.elim
/-! displays -/
@[reducible] def eDk : FE := fun _ μ P _ => ∀ p, μ p = none → P (.ref p) (mset μ p (.dk []))
theorem qe_dk : QE X E (.Dict [] [] pos) eDk := ⟨(pe_dnewK (X := X)).qimp fun σ H Q h => by
  obtain ⟨ρ, μ, P, XX, hh, hm, hf, hv, hx⟩ := h
  exact fun p hp => hv _ _ _ _ (hf p (hm.free hp)) (Stp.newT hp) (new_dk hm hp) (.ref p)⟩
abbrev FP := Rho → Mu → (List (Key × W) → Mu → Prop) → Xo → Prop
@[reducible] def dNil : FP := fun _ μ P _ => P [] μ
@[reducible] def dCons (k v : FE) (r : FP) : FP := fun ρ μ P X => k ρ μ (fun y μ1 => v ρ μ1 (fun z μ2 => r ρ μ2 (fun kvs μ3 => match kO y with
  | some q => P ((q, z) :: kvs) μ3
  | none => False) X) X) X
def mergeW (kvs more : List (Key × W)) : List (Key × W) := more.foldl (fun acc kv => putW acc kv.1 kv.2) kvs
theorem rwp_merge {K : Frag} {H : Hp} {μ : Mu} : ∀ {more : List (Key × V)} {morew : List (Key × W)} {kv : List (Key × V)} {kw : List (Key × W)}, RwP K H μ more morew → RwP K H μ kv kw → RwP K H μ (mergeK kv more) (mergeW kw morew)
  | _, _, _, _, .nil, h => h
  | _, _, kv, kw, @RwP.cons _ _ _ _ k v vs w ws h hs, g => by
    show RwP K H μ (mergeK (putK kv k v) vs) (mergeW (putW kw k w) ws)
    exact rwp_merge hs (rwp_put h g)
structure QP (X : Cx) (E : L2.St → XK) (pos : Pos) (ks : List (Option Expr)) (vs : List Expr) (n : Nat) (f : FP) : Prop where
  pp : ∃ trs, PPs X pos ks vs trs ∧ ∀ σ H Q ρ μ P XX, Holds X.K H μ σ ρ → Mem X.K H μ → f ρ μ P XX → XL X.K (E σ) μ H XX → (∀ ps μ' H', (∃ kv kvs, ps = kv.map (fun q : Key × V => (kV q.1, q.2)) ∧ kv.length ≤ n ∧ RwP X.K H' μ' kv kvs ∧ P kvs μ') → Stp μ H μ' H' → Mem X.K H' μ' → Q ps H') → tPairs trs σ H Q
theorem qp_nil : QP X E pos [] [] 0 dNil := ⟨[], pps_nil, fun σ H Q ρ μ P XX hh hm hf hx q => q [] μ H ⟨[], [], rfl, Nat.le_refl _, .nil, hf⟩ (Stp.refl μ H) hm⟩
theorem qp_cons {k v : Expr} {ks : List (Option Expr)} {vs : List Expr} {fk fv : FE} {n : Nat} {g : FP} (hk : QE X E k fk) (hv : QE X E v fv) (hr : QP X E pos ks vs n g) : QP X E pos (some k :: ks) (v :: vs) (n + 1) (dCons fk fv g) := by
  obtain ⟨trs, h1, h2⟩ := hr.pp
  refine ⟨_, pps_cons hk.pe hv.pe h1, fun σ H Q ρ μ P XX hh hm hf hx q => ⟨ρ, μ, _, XX, hh, hm, hf, fun y μ1 u H1 p1 e1 m1 r1 => ⟨ρ, μ1, _, XX, hh.stp e1, m1, p1, fun z μ2 w H2 p2 e2 m2 r2 => ?_, hx.stp e1⟩, hx⟩⟩
  refine h2 σ H2 _ ρ μ2 _ XX (hh.stp (e1.trans e2)) m2 p2 (hx.stp (e1.trans e2)) fun ps μ' H' ⟨kv, kvs, ep, hl, rp, hP⟩ e m => ?_
  split at hP
  · rename_i q1 eq1
    have ey := kO_rw (r1.stp e2) eq1
    subst ey
    subst ep
    exact q _ μ' H' ⟨(q1, w) :: kv, _, rfl, Nat.succ_le_succ hl, .cons (r2.stp e) rp, hP⟩ ((e1.trans e2).trans e) m
  · exact hP.elim
@[reducible] def eDs (f : FP) : FE := fun ρ μ P X => ∀ p, μ p = none → f ρ (mset μ p (.dk [])) (fun kvs μ' => μ' p = some (.dk []) ∧ P (.ref p) (mset μ' p (.dk (mergeW [] kvs)))) X
theorem qe_ds {keys : List (Option Expr)} {values : List Expr} {f : FP} {n : Nat} (h : QP X E pos keys values n f) (hall : keys.all (·.isSome) = true) (hl : keys.length = values.length) (h0 : keys ≠ []) (h15 : keys.length ≤ 15) (hn : n ≤ 15) : QE X E (.Dict keys values pos) (eDs f) := by
  obtain ⟨trs, h1, h2⟩ := h.pp
  refine ⟨(pe_disp h1 hall hl h0 h15).qimp fun σ H Q h => ?_⟩
  obtain ⟨ρ, μ, P, XX, hh, hm, hf, hv, hx⟩ := h
  refine fun p hp => ?_
  have sp : Stp μ H (mset μ p (.dk [])) (upd H p (.dK [])) := Stp.newT hp
  refine h2 σ _ _ ρ _ _ XX (hh.stp sp) (new_dk hm hp) (hf p (hm.free hp)) (hx.stp sp) fun ps μ' H' ⟨kv, kvs, ep, hl, rp, hP, hP2⟩ e m => ?_
  obtain ⟨kv0, g1, g2⟩ := m _ _ hP
  cases g2
  have st : Stp μ' H' (mset μ' p (.dk (mergeW [] kvs))) (upd H' p (.dK (mergeK [] kv))) := Stp.put hP (nf_dk g1)
  exact ⟨g1, kv, ep, Nat.le_trans hl hn, hv _ _ _ _ hP2 ((sp.trans e).trans st) (m.put st ⟨_, upd_same, (rwp_merge rp .nil).stp st⟩) (.ref p)⟩
end
end Q
namespace Q
open PySem PySem.Spec PyProof.Rows L2 Evl
/-! exceptions -/
/-- an own exception class -/
structure ExcQ (K : Frag) (mg : Str → Option Value) (x : Str) : Prop where
  gC : mg x = some (.ref (He.ga K x))
  q : PySem.W.excIn K (He.ga K x) He.veBase "ValueError.__new__" = true
  kC : PySem.W.keepIn K (.ref (He.ga K x)) = true
  sub : PySem.W.subIn K (.ref (He.ga K x)) (.type "BaseException") = some true
  ty : PySem.W.typeIn K (.ref (He.ga K x)) = some (.type "type")
theorem exq_of {K : Frag} {mg : Str → Option Value} {x : Str} (g : mg x = some (.ref (He.ga K x))) (c : (He.Fa.exc x).ok K = true) : ExcQ K mg x := by
  obtain ⟨h1, h2⟩ := Bool.and_eq_true_iff.mp c
  obtain ⟨h3, h4⟩ := Bool.and_eq_true_iff.mp h2
  obtain ⟨h5, h6⟩ := Bool.and_eq_true_iff.mp h4
  exact ⟨g, h1, h3, of_decide_eq_true h5, of_decide_eq_true h6⟩
abbrev Tk (X : Cx) (E : L2.St → XK) : Prop := L2N.Takes X (fun c d σ H => E σ c d H)
theorem Tk.px {X : Cx} {E : L2.St → XK} (t : Tk X E) : Px X E := fun σ => L2N.passAt t σ
@[reducible] def sRaise (c : Str) : FS := fun ρ μ N => N.ex ρ c [] μ
theorem qs_raise {X : Cx} {E : L2.St → XK} {x m : Str} {j : Nat} {p p2 pos pos' : Pos} (e : ExcQ X.K X.mg x) (hc : X.calm = true) (tk : Tk X E) (hg : Gl X x) (hdb : (x == ("__debug__" : Str)) = false := by decide) :
    QS X E (.Raise (some (.Call (.Name x p) [.Constant (.str m) j p2] [] pos)) none pos') (sRaise x) := ⟨(L2N.ps_raise hc tk (L2N.pmk_own PySem.F.excBase_ValueError e.q e.gC e.kC (raises_own e.sub e.ty) hg hdb)).qimp fun D σ H h => by
  obtain ⟨ρ, μ, N, hh, hm, hf, l⟩ := h
  exact l.ex ρ x [] μ none σ H hf (Stp.refl μ H) hm hh .none⟩
/-! try -/
/-- what a handler's class catches of the classes al -/
def ExmQ (K : Frag) (al : List Str) (hv : Value) (cs : List Str) : Prop := ∀ c ∈ al, PySem.W.exmOne K (.ref (He.ga K c)) hv = some (decide (c ∈ cs))
/-! calls in a suite -/
end Q
namespace Q
open PySem PySem.Spec PyProof.Rows L2 Evl
/-- a statement with more than one way on: the reading stops here -/
def sJn (a b : FS) : FS := sSeq a b
theorem qss_jn {X : Cx} {E : L2.St → XK} {st : Stmt} {r : List Stmt} {f g : FS} (h : QS X E st f) (hr : QSs X E r g) : QSs X E (st :: r) (sJn f g) := show QSs X E (st :: r) (sSeq f g) from qss_cons h hr
/-! what the printed terms use -/
section
variable {X : Cx} {E : L2.St → XK}
theorem qv (i : Nat) {x : Str} {pos : Pos} (hN : X.N[i]? = some x := by rfl) (hv : Vis X.env.scope x := by first | exact Or.inl rfl | exact Or.inr (Or.inl rfl) | exact Or.inr (Or.inr rfl)) (hd : (x == ("__debug__" : Str)) = false := by decide)
    (hcd : (x == ("__classdict__" : Str)) = false := by decide) : QE X E (.Name x pos) (eV i) := qe_var hN hv hd hcd
theorem qt_chain {op op' : CmpOp} {o o' : F2} {a b c : Expr} {fa fb fc : FE} {pos : Pos} (ho : OpR X (compareOp op) (rW X.K o)) (ho' : OpR X (compareOp op') (rW X.K o')) (ha : QE X E a fa) (hb : QE X E b fb) (hc : QE X E c fc) (hm : lastMarks [op, op'] [b, c] = false := by with_unfolding_all rfl) : QT X E (.Compare a [op, op'] [b, c] pos) (cV (eChain o o' fa fb fc)) :=
  ⟨(L2.pt_chain ho ho' ha.pe hb.pe hc.pe hm).qimp fun σ H Q h => tE_chain (tT_of h)⟩
end
section
variable {P : Program} {w : World} {K : Frag} {mg : Str → Option Value} {base : Heap}
theorem fn_w {x qual : Str} {st : Stmt} {f : Addr} {fd : FuncData} {N ps : List Str} {k : Nat} {fb : FS} (F : FnM K x qual st f fd) (S : FnScope N ps (defScope st)) (hl : ps.length ≤ N.length)
    (body : ∀ (cdv : Value) (A : Around) (outer : List PySem.Env) (s : Shared) (H : Hp) (E : XK), Room k (A.deeper (PyProof.Rows.envOfC qual (defScope st) s.heap.objs.size f cdv)) → Tk (cxOf (L2N.CX P w) P w K mg base N qual (defScope st) f cdv A outer s H E) (fun _ => E) →
      PassesOwn (model P w) (cxOf (L2N.CX P w) P w K mg base N qual (defScope st) f cdv A outer s H E).A (cxOf (L2N.CX P w) P w K mg base N qual (defScope st) f cdv A outer s H E).env (cxOf (L2N.CX P w) P w K mg base N qual (defScope st) f cdv A outer s H E).xe →
      (∀ hd : Option Value, PassesOwnAt (model P w) ((cxOf (L2N.CX P w) P w K mg base N qual (defScope st) f cdv A outer s H E).A.mark hd) (cxOf (L2N.CX P w) P w K mg base N qual (defScope st) f cdv A outer s H E).A (cxOf (L2N.CX P w) P w K mg base N qual (defScope st) f cdv A outer s H E).env (cxOf (L2N.CX P w) P w K mg base N qual (defScope st) f cdv A outer s H E).xe) →
      QSs (cxOf (L2N.CX P w) P w K mg base N qual (defScope st) f cdv A outer s H E) (fun _ => E) (defBody st) fb) : FnOk P w K mg base (L2N.CX P w) (k + 1) f fd ps (spF K (fDef ps.length N.length fb)) :=
  fn_q F S hl fun cdv A outer s H E hr => body cdv A outer s H E hr (L2N.takes_of rfl rfl rfl rfl) PassesOwn.leaving fun _ => PassesOwnAt.leaving
theorem dq_mk {k : Nat} {x : Str} {st : Stmt} {f : Addr} {fd : FuncData} {ps : List Str} {fw : FW} (F : FnM K x x st f fd) (g : mg x = some (.ref f)) (b : Binds K fd ps []) (h : FnOk P w K mg base (L2N.CX P w) k f fd ps (spF K fw)) : DefQ P w K mg base k x ps fw := ⟨f, fd, h, g, F.kp, b⟩
end
/-- nothing that is looked at is a list -/
theorem noLst_no {K : Frag} {a : Addr} {o : Obj} (h : noLst K = true) (e : K.lookup a = some o) : o.cls ≠ .type "list" := fun q => by
  have h2 := List.all_eq_true.mp h _ (He.lookup_mem e)
  rw [show ((a, o) : Addr × Obj).2.cls = .type "list" from q] at h2
  simp at h2
/-- what a law is to do, at every script -/
def LawOk (f : FW) (n : Nat) : Prop := ∀ ns : List Int, ns.length ≤ n → ∀ (P : Po) (X : Xo), (∀ μ, P (.bl true) μ) → f [.rol (ns.map W.int)] (fun _ => none) P X
/-- the law's own def: nothing is let out -/
def spL (K : Frag) (f : FW) : Sp := fun vs H Q _ => ∃ ws μ P, RwAll K H μ vs ws ∧ Mem K H μ ∧ f ws μ P (fun _ _ _ => False) ∧ VL K Q μ H P
theorem tk_no {X : Cx} : Tk X EN := fun _ _ x => by
  obtain ⟨_, _, _, _, _, _, _, _, _, _, _, _, _, _, _, _, z⟩ := x
  exact z.elim
theorem fn_l {P : Program} {w : World} {K : Frag} {mg : Str → Option Value} {base : Heap} {x qual : Str} {st : Stmt} {f : Addr} {fd : FuncData} {N ps : List Str} {k : Nat} {fb : FS} (F : FnM K x qual st f fd) (S : FnScope N ps (defScope st)) (hl : ps.length ≤ N.length)
    (body : ∀ (cdv : Value) (A : Around) (outer : List PySem.Env) (s : Shared) (H : Hp) (E : XK), Room k (A.deeper (PyProof.Rows.envOfC qual (defScope st) s.heap.objs.size f cdv)) → Tk (cxOf CX0 P w K mg base N qual (defScope st) f cdv A outer s H E) EN →
      PassesOwn (model P w) (cxOf CX0 P w K mg base N qual (defScope st) f cdv A outer s H E).A (cxOf CX0 P w K mg base N qual (defScope st) f cdv A outer s H E).env (cxOf CX0 P w K mg base N qual (defScope st) f cdv A outer s H E).xe →
      (∀ hd : Option Value, PassesOwnAt (model P w) ((cxOf CX0 P w K mg base N qual (defScope st) f cdv A outer s H E).A.mark hd) (cxOf CX0 P w K mg base N qual (defScope st) f cdv A outer s H E).A (cxOf CX0 P w K mg base N qual (defScope st) f cdv A outer s H E).env (cxOf CX0 P w K mg base N qual (defScope st) f cdv A outer s H E).xe) →
      QSs (cxOf CX0 P w K mg base N qual (defScope st) f cdv A outer s H E) EN (defBody st) fb) : FnOk P w K mg base CX0 (k + 1) f fd ps (spL K (fDef ps.length N.length fb)) := by
  refine L2.FunD.ok F S (fun vs H Q E h => ?_) (fun cdv A outer s H vs Q E hr h => ?_)
  · obtain ⟨ws, μ, Pq, h1, _, h2, _⟩ := h
    rw [h1.len]
    exact h2.1
  · obtain ⟨ws, μ, Pq, h1, hm, h2, v⟩ := h
    have h0 := Holds.start (N := N) h1
    rw [← rho0_is _ _ (by rw [h2.1]; exact hl)] at h0
    refine ⟨_, (body cdv A outer s H E hr tk_no PassesOwn.leaving fun _ => PassesOwnAt.leaving).pss, _, μ, _, h0, hm, h2.2, ?_⟩
    have e := el_def (E := fun _ _ _ => False) v (fun _ _ _ _ _ x => x.elim : XL K (fun _ _ _ => False) μ H fun _ _ _ => False)
    exact ⟨e.nx, e.rt, e.bk, e.ct, e.ex⟩
theorem law_end {K : Frag} {H : Hp} {a : Addr} {ns : List Int} {n : Nat} {f : FW} (hn : noLst K = true) (hl : ns.length ≤ n) (h : SqL K H a (ns.map V.int)) (ok : LawOk f n) : spL K f [.ref a] H (fun v _ => v = .bl true) (fun _ _ _ => False) := by
  have r : Rd H a (.lst (ns.map V.int)) := by
    rcases h with h | ⟨o, its, n, e, c, _⟩
    · exact h
    · exact absurd c (noLst_no hn e)
  have m0 : Mem K H (fun _ => none) := fun b o q => by
    have q : (none : Option O) = some o := q
    cases q
  refine ⟨[.rol (ns.map W.int)], fun _ => none, fun w _ => w = .bl true, .cons (.rol ⟨r, rfl⟩ (rw_ints ns)) .nil, m0, ok ns hl _ _ (fun _ => rfl), fun w μ' v H' p _ _ d => ?_⟩
  have p : w = .bl true := p
  subst p
  exact rw_bl d
theorem fld1 {K : Frag} {c f : Str} (l : Cls K (He.ga K c)) (n : NoAttr K (He.ga K c) f) : ∀ x ∈ [c], Cls K (He.ga K x) ∧ NoAttr K (He.ga K x) f := fun x h => by
  rcases List.mem_cons.mp h with e | e
  · rw [e]
    exact ⟨l, n⟩
  · cases e
/-! tuples of texts that the module names -/
end Q
namespace Q
open PySem L2
/-! steps of a def's reading -/
theorem q_t {c : Bool} {A B : Prop} (h : c = true) (a : A) : if c = true then A else B := by
  rw [if_pos h]
  exact a
theorem q_f {c : Bool} {A B : Prop} (h : c = false) (b : B) : if c = true then A else B := by
  rw [if_neg (by rw [h]; exact Bool.false_ne_true)]
  exact b
theorem q_and {A B : Prop} (a : A) (b : B) : A ∧ B := ⟨a, b⟩
theorem q_jn {a b : FS} {ρ : Rho} {μ : Mu} {N : En} (M : Rho → Mu → Prop) (h : ∀ K : Rho → Mu → Prop, (∀ ρ' μ', M ρ' μ' → K ρ' μ') → a ρ μ { N with nx := K }) (k : ∀ ρ' μ', M ρ' μ' → b ρ' μ' N) : sJn a b ρ μ N := h _ k
theorem q_ifP {p : Prop} [Decidable p] {A B : Prop} (a : p → A) (b : ¬p → B) : if decide p = true then A else B := by
  by_cases h : p
  · rw [if_pos (decide_eq_true h)]
    exact a h
  · rw [if_neg (by rw [decide_eq_false h]; exact Bool.false_ne_true)]
    exact b h
theorem q_ifN {p : Prop} [Decidable p] {A B : Prop} (a : p → B) (b : ¬p → A) : if (!decide p) = true then A else B := by
  by_cases h : p
  · rw [if_neg (by rw [decide_eq_true h]; decide)]
    exact a h
  · rw [if_pos (by rw [decide_eq_false h]; rfl)]
    exact b h
/-! walks -/
/-- each turn goes on, the store as it was, or returns v -/
theorem itS_ret {std : Mu → Prop} {g : FG} {b : FS} {N : En} {μ : Mu} {v : W} (ok : W → Bool) (I : Rho → Prop) (hstd : std μ) : ∀ (ws : List W) {ρ : Rho}, I ρ →
    (∀ w ∈ ws, ∀ ρ, I ρ → ∀ K : Rho → Mu → Prop, (ok w = true → ∀ ρ', I ρ' → K ρ' μ) → (ok w = false → N.rt v μ) → g w ρ μ fun ρ1 μ1 => b ρ1 μ1 { nx := K, ct := K, bk := N.nx, rt := N.rt, ex := N.ex }) →
    (ws.all ok = true → ∀ ρ', I ρ' → N.nx ρ' μ) → (ws.all ok = false → N.rt v μ) → itS std g b ws ρ μ N
  | [], ρ, h0, hs, ht, hf => ⟨hstd, ht rfl ρ h0⟩
  | w :: ws, ρ, h0, hs, ht, hf => ⟨hstd, hs w List.mem_cons_self ρ h0 _ (fun e ρ' h' => itS_ret ok I hstd ws h' (fun u hu => hs u (List.mem_cons_of_mem _ hu)) (fun a => ht (by rw [List.all_cons, e, a]; rfl)) fun a => hf (by rw [List.all_cons, e, a]; rfl)) fun e => hf (by rw [List.all_cons, e]; rfl)⟩
/-! texts -/
theorem slt_one (a b : Nat) : sLt ⟨#[a]⟩ ⟨#[b]⟩ = decide (a < b) := by
  unfold sLt
  simp [List.cons_lt_cons_iff]
theorem pick_c0 {α : Type} (a : α) (l : List α) : pick (a :: l) 0 = some a := pick_nat (Int.le_refl 0) rfl
theorem pick_c1 {α : Type} (a b : α) (l : List α) : pick (a :: b :: l) 1 = some b := pick_nat (by decide) rfl
theorem pick_c2 {α : Type} (a b c : α) (l : List α) : pick (a :: b :: c :: l) 2 = some c := pick_nat (by decide) rfl
theorem pick_c3 {α : Type} (a b c d : α) (l : List α) : pick (a :: b :: c :: d :: l) 3 = some d := pick_nat (by decide) rfl
theorem pick_c4 {α : Type} (a b c d e : α) (l : List α) : pick (a :: b :: c :: d :: e :: l) 4 = some e := pick_nat (by decide) rfl
theorem pick_c5 {α : Type} (a b c d e f : α) (l : List α) : pick (a :: b :: c :: d :: e :: f :: l) 5 = some f := pick_nat (by decide) rfl
/-! comprehensions over things that stand for values -/
/-- a loop over things that stand for values, with an invariant: what is done, what is left -/
theorem itS_of {α : Type} {std : Mu → Prop} {g : FG} {b : FS} {N : En} (enc : α → W) (I : List α → List α → Rho → Mu → Prop) : ∀ (xs done : List α) {ρ : Rho} {μ : Mu}, I done xs ρ μ →
    (∀ done x r ρ μ, I done (x :: r) ρ μ → std μ ∧ ∀ K : Rho → Mu → Prop, (∀ ρ' μ', I (done ++ [x]) r ρ' μ' → K ρ' μ') → g (enc x) ρ μ fun ρ1 μ1 => b ρ1 μ1 { nx := K, ct := K, bk := N.nx, rt := N.rt, ex := N.ex }) →
    (∀ done ρ μ, I done [] ρ μ → std μ ∧ N.nx ρ μ) → itS std g b (xs.map enc) ρ μ N
  | [], done, ρ, μ, h0, hs, hd => hd done ρ μ h0
  | x :: r, done, ρ, μ, h0, hs, hd => ⟨(hs done x r ρ μ h0).1, (hs done x r ρ μ h0).2 _ fun ρ' μ' h' => itS_of enc I r (done ++ [x]) h' hs hd⟩
theorem pick_map {α : Type} {enc : α → W} {xs : List α} {i : Int} {x : α} (h0 : 0 ≤ i) (h : xs[i.toNat]? = some x) : pick (xs.map enc) i = some (enc x) := pick_nat h0 (by rw [List.getElem?_map, h]; rfl)
theorem pick_mapN {α : Type} {enc : α → W} {xs : List α} {i : Nat} {x : α} (h : xs[i]? = some x) : pick (xs.map enc) (i : Int) = some (enc x) := pick_map (Int.natCast_nonneg i) (by simpa using h)
theorem new_ne {μ : Mu} {p q : Addr} {o : O} (h : mset μ p o q = none) : q ≠ p ∧ μ q = none := by
  have ne : q ≠ p := fun e => by
    rw [e, mset_same] at h
    cases h
  rw [mset_ne ne] at h
  exact ⟨ne, h⟩
theorem tyL_ref {μ : Mu} {p : Addr} {ws : List W} (h : μ p = some (.ls ws)) : tyL μ (.ref p) := by
  show (match μ p with
    | some (.ls ws) => some ws
    | _ => none).isSome = true
  rw [h]
  rfl
theorem tyD_ref {μ : Mu} {p : Addr} {kvs : List (Key × W)} (h : μ p = some (.dk kvs)) : tyD μ (.ref p) := by
  show (match μ p with
    | some (.dk _) => True
    | _ => False)
  rw [h]
  trivial
theorem rdD_ref {μ : Mu} {p : Addr} {kvs : List (Key × W)} (h : μ p = some (.dk kvs)) : (rdD μ (.ref p)).isSome = true := by
  show (match μ p with
    | some (.dk kvs) => some kvs
    | some (.rk kvs) => some kvs
    | _ => none).isSome = true
  rw [h]
  rfl
theorem rdL_ref {μ : Mu} {p : Addr} {ws : List W} (h : μ p = some (.ls ws)) : rdL μ (.ref p) = some ws := by
  show (match μ p with
    | some (.ls ws) => some ws
    | _ => none) = some ws
  rw [h]
theorem rdM_ref {μ : Mu} {p : Addr} {ws : List W} (h : μ p = some (.ls ws)) : rdM μ (.ref p) = some ws := by
  show (match μ p with
    | some (.ls ws) => some ws
    | _ => none) = some ws
  rw [h]
theorem rdL_refD {μ : Mu} {p : Addr} {kvs : List (Key × W)} (h : μ p = some (.dk kvs)) : rdL μ (.ref p) = none := by
  show (match μ p with
    | some (.ls ws) => some ws
    | _ => none) = none
  rw [h]
theorem rdD_refD {μ : Mu} {p : Addr} {kvs : List (Key × W)} (h : μ p = some (.dk kvs)) : rdD μ (.ref p) = some kvs := by
  show (match μ p with
    | some (.dk kvs) => some kvs
    | some (.rk kvs) => some kvs
    | _ => none) = some kvs
  rw [h]
theorem rdL_refK {μ : Mu} {p : Addr} {kvs : List (Key × W)} (h : μ p = some (.rk kvs)) : rdL μ (.ref p) = none := by
  show (match μ p with
    | some (.ls ws) => some ws
    | _ => none) = none
  rw [h]
theorem rdD_refK {μ : Mu} {p : Addr} {kvs : List (Key × W)} (h : μ p = some (.rk kvs)) : rdD μ (.ref p) = some kvs := by
  show (match μ p with
    | some (.dk kvs) => some kvs
    | some (.rk kvs) => some kvs
    | _ => none) = some kvs
  rw [h]
theorem drf_ref {μ : Mu} {p : Addr} {ws : List W} (h : μ p = some (.ls ws)) : drf μ (.ref p) = .lst ws := by
  show (match μ p with
    | some (.ls ws) => W.lst ws
    | _ => .ref p) = _
  rw [h]
theorem tyW_refL {μ : Mu} {p : Addr} {ws : List W} (h : μ p = some (.ls ws)) : tyW μ (.ref p) = some .lst := by
  show (match μ p with
    | some (.ls _) => some T7.lst
    | some (.dk _) => some .dct
    | some (.rk _) => some .dct
    | some (.dt _) => some .dct
    | _ => none) = _
  rw [h]
theorem tyW_refD {μ : Mu} {p : Addr} {kvs : List (Key × W)} (h : μ p = some (.dk kvs)) : tyW μ (.ref p) = some .dct := by
  show (match μ p with
    | some (.ls _) => some T7.lst
    | some (.dk _) => some .dct
    | some (.rk _) => some .dct
    | some (.dt _) => some .dct
    | _ => none) = _
  rw [h]
theorem nums_at {lo : Int} {n i : Nat} {w : W} (h : (nums lo n)[i]? = some w) : i < n ∧ w = .int (lo + i) := by
  unfold nums at h
  rw [List.getElem?_map] at h
  obtain ⟨j, h1, h2⟩ := Option.map_eq_some_iff.mp h
  obtain ⟨h3, h4⟩ := List.getElem?_eq_some_iff.mp h1
  rw [List.getElem_range] at h4
  rw [List.length_range] at h3
  subst h4
  exact ⟨h3, h2.symm⟩
theorem nums_len (lo : Int) (n : Nat) : (nums lo n).length = n := by
  unfold nums
  rw [List.length_map, List.length_range]
/-- over a range, by the turn -/
theorem itS_nums {std : Mu → Prop} {g : FG} {b : FS} {N : En} {lo : Int} {n : Nat} (I : Nat → Rho → Mu → Prop) {ρ : Rho} {μ : Mu} (h0 : I 0 ρ μ) (hstd : ∀ μ, std μ)
    (hs : ∀ k, k < n → ∀ ρ μ, I k ρ μ → ∀ K : Rho → Mu → Prop, (∀ ρ' μ', I (k + 1) ρ' μ' → K ρ' μ') → g (.int (lo + k)) ρ μ fun ρ1 μ1 => b ρ1 μ1 { nx := K, ct := K, bk := N.nx, rt := N.rt, ex := N.ex })
    (hd : ∀ ρ μ, I n ρ μ → N.nx ρ μ) : itS std g b (nums lo n) ρ μ N :=
  itS_inv (nums lo n) I h0 (fun i w ρ μ hw h => ⟨hstd μ, fun K hK => by
    obtain ⟨h1, rfl⟩ := nums_at hw
    exact hs i h1 ρ μ h K hK⟩) fun ρ μ h => ⟨hstd μ, hd ρ μ (by rw [nums_len] at h; exact h)⟩
theorem q_len {ws : List W} {n : Nat} {B : Prop} (h : Nat.ble ws.length n = true) (b : B) : ws.length ≤ n ∧ B := ⟨Nat.le_of_ble_eq_true h, b⟩
theorem q_leq {ws : List W} {n : Nat} {B : Prop} (h : ws.length = n) (b : B) : ws.length = n ∧ B := ⟨h, b⟩
theorem q_le {a b : Nat} {B : Prop} (h : Nat.ble a b = true) (k : B) : a ≤ b ∧ B := ⟨Nat.le_of_ble_eq_true h, k⟩
theorem tyL_lst {μ : Mu} {ws : List W} : tyL μ (.lst ws) := rfl
theorem tyL_rol {μ : Mu} {ws : List W} : tyL μ (.rol ws) := rfl
theorem isDs_all {n : Nat} : ∀ {ws : List W}, (∀ w ∈ ws, isD n w = true) → isDs n ws = true
  | [], _ => by cases n <;> rfl
  | w :: ws, h => by
    have h1 := h w List.mem_cons_self
    have h2 := isDs_all fun x hx => h x (List.mem_cons_of_mem _ hx)
    cases n <;> (show (isD _ w && isDs _ ws) = true; rw [h1, h2]; rfl)
theorem neG_same {x y : W} {μ : Mu} {P : Po} (hd : isD 60 (drf μ x) = true) (e : drf μ y = drf μ x) (h : P (.bl false) μ) : wEqG true x y μ P := by
  refine ⟨hd, by rw [e]; exact hd, ?_⟩
  rw [e, if_pos rfl, eqW_refl 60 _ hd]
  exact h
theorem q_nn {p : Prop} [Decidable p] (h : p) : (!decide p) = false := by rw [decide_eq_true h]; rfl
theorem q_nt {p : Prop} [Decidable p] (h : ¬p) : (!decide p) = true := by rw [decide_eq_false h]; rfl
end Q
namespace Q
open PySem PySem.Spec PyProof.Rows L2 Evl
/-! exceptions with two fields, set by the class's own __init__ -/
section
variable {X : Cx} {E : L2.St → XK} {k : Nat} {x f g : Str} {e1 e2 : Expr} {p pos pos' : Pos} {fa : FA}
/-! except C as n -/
theorem Pay.rw {K : Frag} {H : Hp} {μ : Mu} {d : Option Addr} {fs : List (Str × W)} {a : Addr} {c : Str} (p : Pay K H μ d fs) : Rw K H μ (.ref a) (.exc a d c fs) := by
  cases p with
  | none => exact .exc
  | some h n r _ => exact .excf h n r
theorem pay_nn {K : Frag} {H : Hp} {μ : Mu} {d : Option Addr} {fs : List (Str × W)} (p : Pay K H μ d fs) (e : d = Option.none) : fs = [] := by
  cases p with
  | none => rfl
  | some h n r z => cases e
theorem pay_some {K : Frag} {H : Hp} {μ : Mu} {d : Option Addr} {fs : List (Str × W)} (p : Pay K H μ d fs) (e : fs = []) : d = Option.none := by
  cases p with
  | none => rfl
  | some h n r z => exact absurd e z
theorem Holds.hv {K : Frag} {H : Hp} {μ : Mu} {σ : L2.St} {ρ : Rho} (i : Nat) (h : Holds K H μ σ ρ) : Holds K H μ (σ.set i none) (Q.hv ρ i) := by
  rw [hv_set]
  exact h.hide i
end
/-! steps over what is tracked -/
@[reducible] def mo {α : Type} (x : Option α) (A : α → Prop) : Prop := match x with
  | some y => A y
  | none => False
theorem q_ex {c : Str} {fs : List (Str × W)} {μ : Mu} {X : Xo} (h : X c fs μ) : ∃ μ'', Sub μ'' μ ∧ X c fs μ'' := ⟨μ, Sub.refl μ, h⟩
theorem rdA_ref {μ : Mu} {p : Addr} {ws : List W} (h : μ p = some (.ls ws)) : rdA μ (.ref p) = some ws := by
  show rdL μ (.ref p) = some ws
  rw [rdL_ref h]
theorem lk_hit {β : Type} {f : Str} {x : β} {r : List (Str × β)} : lk f ((f, x) :: r) = some x := by
  unfold lk
  rw [if_pos rfl]
theorem lk_skip {β : Type} {f g : Str} {x : β} {o : Option β} {r : List (Str × β)} (h : f ≠ g) (e : lk f r = o) : lk f ((g, x) :: r) = o := by
  unfold lk
  rw [if_neg h]
  exact e
theorem lk_nil {β : Type} {f : Str} : lk f ([] : List (Str × β)) = none := rfl
theorem lk_skip1 {β : Type} {f g : Str} {x : β} {r : List (Str × β)} (h : f ≠ g) : lk f ((g, x) :: r) = lk f r := lk_skip h rfl
theorem q_lkn {f : Str} {fs : List (Str × W)} {B : Prop} (h : lk f fs = none) (b : B) : lk f fs = none ∧ B := ⟨h, b⟩
theorem q_memc {c : Str} {cs : List Str} {B : Prop} (b : B) : c ∈ c :: cs ∧ B := ⟨List.mem_cons_self, b⟩
mutual
theorem isD_mono : ∀ {n m : Nat} {w : W}, n ≤ m → isD n w = true → isD m w = true
  | _, m, .non, _, _ | _, m, .bl _, _, _ | _, m, .int _, _, _ | _, m, .str _, _, _ => by cases m <;> rfl
  | n + 1, m + 1, .tup ws, h, d => isDs_mono (ws := ws) (Nat.le_of_succ_le_succ h) d
  | n + 1, m + 1, .lst ws, h, d => isDs_mono (ws := ws) (Nat.le_of_succ_le_succ h) d
  | 0, _, .tup _, _, d | 0, _, .lst _, _, d => by cases d
  | n + 1, 0, .tup _, h, _ | n + 1, 0, .lst _, h, _ => absurd h (by omega)
  | n, _, .rol _, _, d | n, _, .ref _, _, d | n, _, .fn _, _, d | n, _, .exc _ _ _ _, _, d => by cases n <;> cases d
theorem isDs_mono : ∀ {n m : Nat} {ws : List W}, n ≤ m → isDs n ws = true → isDs m ws = true
  | n, m, [], _, _ => by cases m <;> rfl
  | n, m, w :: ws, h, d => by
    have d : (isD n w && isDs n ws) = true := by
      unfold isDs at d
      exact d
    obtain ⟨d1, d2⟩ := Bool.and_eq_true_iff.mp d
    unfold isDs
    rw [isD_mono h d1, isDs_mono h d2]
    rfl
end
theorem q_pow {i j : Int} {B : Prop} (h : (decide (0 ≤ j) && (decide (j ≤ 1000000) && decide (i.natAbs < 2 ^ 64))) = true) (b : B) : CPow i j ∧ B := by
  obtain ⟨h1, h⟩ := Bool.and_eq_true_iff.mp h
  obtain ⟨h2, h3⟩ := Bool.and_eq_true_iff.mp h
  exact ⟨⟨of_decide_eq_true h1, of_decide_eq_true h2, of_decide_eq_true h3⟩, b⟩
theorem isD_drf {n : Nat} {w : W} {μ : Mu} (h : isD n w = true) : drf μ w = w := by
  cases w <;> first | rfl | (cases n <;> cases h)
theorem wNe_same {n : Nat} {w : W} {μ : Mu} {P : Po} (hd : isD n w = true) (hn : n ≤ 60) (h : P (.bl false) μ) : wNe w w μ P := by
  have hd : isD 60 w = true := isD_mono hn hd
  have e := isD_drf (μ := μ) hd
  cases w <;> first
    | exact neG_same (by rw [e]; exact hd) rfl h
    | (show P (.bl (!decide _)) μ; rw [decide_eq_true rfl]; exact h)
/-! == and != that are not opened at values that are not known -/
def wEqu : F2 := wEq
def wNeq : F2 := wNe
theorem opU_equ {X : Cx} (hu : X.A.units + 64 < cLine) : OpR X (compareOp .Eq) (rW X.K wEqu) := opU_eq hu
theorem opU_neq {X : Cx} (hu : X.A.units + 64 < cLine) : OpR X (compareOp .NotEq) (rW X.K wNeq) := opU_ne hu
section
variable {μ : Mu} {P : Po}
theorem q_eqI {i j : Int} (h : P (.bl (decide (i = j))) μ) : wEqu (.int i) (.int j) μ P := h
theorem q_eqS {i j : Str} (h : P (.bl (decide (i = j))) μ) : wEqu (.str i) (.str j) μ P := h
theorem q_eqB {i j : Bool} (h : P (.bl (decide (i = j))) μ) : wEqu (.bl i) (.bl j) μ P := h
theorem q_neI {i j : Int} (h : P (.bl (!decide (i = j))) μ) : wNeq (.int i) (.int j) μ P := h
theorem q_neS {i j : Str} (h : P (.bl (!decide (i = j))) μ) : wNeq (.str i) (.str j) μ P := h
theorem q_neB {i j : Bool} (h : P (.bl (!decide (i = j))) μ) : wNeq (.bl i) (.bl j) μ P := h
theorem wNeq_same {n : Nat} {w : W} (hd : isD n w = true) (hn : n ≤ 60) (h : P (.bl false) μ) : wNeq w w μ P := wNe_same hd hn h
theorem wNeq_ls {n : Nat} {ws : List W} {x y : W} (hx : drf μ x = .lst ws) (hy : drf μ y = .lst ws) (hd : isD n (.lst ws) = true) (hn : n ≤ 60) (h : P (.bl false) μ) : wNeq x y μ P := by
  have hd : isD 60 (.lst ws) = true := isD_mono hn hd
  show wNe x y μ P
  cases x <;> first
    | exact neG_same (by rw [hx]; exact hd) (hy.trans hx.symm) h
    | (cases hx)
theorem drf_lst {ws : List W} : drf μ (.lst ws) = .lst ws := rfl
end
end Q
namespace Q
open PySem PySem.Spec PyProof.Rows L2 Evl
/-! tables of the module: dicts with text keys that nobody changes -/
def wTin (x : Str) (kvs : List (Str × W)) (neg : Bool) : F2 := fun y t μ P => t = .fn x ∧ (match y with
  | .str z => P (.bl (if neg then !decide (z ∈ kvs.map (·.1)) else decide (z ∈ kvs.map (·.1)))) μ
  | _ => False)
def wTix (x : Str) (kvs : List (Str × W)) : F2 := fun t y μ P => t = .fn x ∧ (match y with
  | .str z => (match lk z kvs with
    | some w => P w μ
    | none => False)
  | _ => False)
theorem q_tin {x : Str} {kvs : List (Str × W)} {neg : Bool} {z : Str} {μ : Mu} {P : Po} (h : P (.bl (if neg then !decide (z ∈ kvs.map (·.1)) else decide (z ∈ kvs.map (·.1)))) μ) : wTin x kvs neg (.str z) (.fn x) μ P := ⟨rfl, h⟩
theorem q_tix {x : Str} {kvs : List (Str × W)} {z : Str} {w : W} {μ : Mu} {P : Po} (e : lk z kvs = some w) (h : P w μ) : wTix x kvs (.fn x) (.str z) μ P := ⟨rfl, by
  show (match lk z kvs with
    | some w => P w μ
    | none => False)
  rw [e]
  exact h⟩
section
variable {X : Cx} {E : L2.St → XK} {x : Str} {kvs : List (Str × W)} {p pos : Pos}
/-! calls of a local name that holds one of some defs -/
theorem DefQ.mono {P : Program} {w : World} {K : Frag} {mg : Str → Option Value} {base : Heap} {j k : Nat} {y : Str} {ps : List Str} {f : FW} (h : DefQ P w K mg base j y ps f) (l : j ≤ k) : DefQ P w K mg base k y ps f := by
  obtain ⟨a, fd, F, r⟩ := h.ex
  exact ⟨a, fd, F.mono l, r⟩
end
theorem pf_hit {f : Str} {w x : W} {r : List (Str × W)} : pf f w ((f, x) :: r) = (f, w) :: r := by
  unfold pf
  rw [if_pos rfl]
theorem pf_skip {f g : Str} {w x : W} {r : List (Str × W)} (h : g ≠ f) : pf f w ((g, x) :: r) = (g, x) :: pf f w r := by
  rw [pf.eq_def]
  exact if_neg h
theorem pf_nil {f : Str} {w : W} : pf f w [] = [(f, w)] := rfl
theorem q_nisT {w : W} {A B : Prop} (h : isN w = false) (a : A) : if (!isN w) = true then A else B := q_t (by rw [h]; rfl) a
theorem q_nisF {w : W} {A B : Prop} (h : isN w = true) (b : B) : if (!isN w) = true then A else B := q_f (by rw [h]; rfl) b
end Q
namespace Q
open PySem PySem.Spec PyProof.Rows L2 Evl
/-! sorted(xs, key=lambda x: x[k]) -/
/-! ### a lambda made: only the maker's own table is written -/
/-! ### over W -/
end Q
namespace Q
open PySem PySem.Spec PyProof.Rows L2 Evl
/-! defs that make lambdas: their code object is known; a law that starts with the tables -/
end Q
namespace Q
open PySem PySem.Spec PyProof.Rows L2 Evl
/-! defs that call themselves: by levels -/
/-! 'c' + x.replace('y', 'z') -/
/-! int(text) -/
@[reducible] def bIntS : FB := fun ws μ P => match ws with
  | [.str x] => x.length ≤ 640 ∧ ∃ n : Int, PySem.intText? x = some n ∧ P (.int n) μ
  | _ => False
end Q
namespace Q
open PySem PySem.Spec PyProof.Rows L2 Evl
/-! a, b, c = x, y, z -/
end Q
namespace PySem
open Sem (wp)
end PySem
namespace Q
open PySem PySem.Spec PyProof.Rows L2 Evl
/-! {**a, **b} -/
end Q
namespace L2
open PySem PySem.Spec PyProof.Rows
end L2
namespace Q
open PySem PySem.Spec PyProof.Rows L2 Evl
end Q
/-! a try whose clauses may have names -/
namespace L2N
open PySem PySem.Spec PyProof.Rows L2
abbrev Clause : Type := Value × Option Nat × (Addr → Value → Option Addr → TS)
def endOf : Option Nat → Ends → Ends
  | none, D => D
  | some i, D => ⟨fun σ H => D.nx (σ.set i none) H, D.rt, fun σ H => D.bk (σ.set i none) H, fun σ H => D.ct (σ.set i none) H⟩
def bindOf : Option Nat → Addr → St → St
  | none, _, σ => σ
  | some i, a, σ => σ.set i (some (.ref a))
def wMix (K : PySem.W.Frag) (Wo : WX) (D : Ends) : List Clause → WX
  | [] => Wo
  | cl :: r => fun cls d σ H => ∃ b, PySem.W.exmOne K cls cl.1 = some b ∧ (b = true → ∀ a, H a = none → cl.2.2 a cls d (endOf cl.2.1 D) (bindOf cl.2.1 a σ) H) ∧ (b = false → wMix K Wo D r cls d σ H)
inductive Mix (X : Cx) : List ExceptHandler → List Clause → Prop
  | nil : Mix X [] []
  | cons {x : Str} {c : Value} {o : Option (Nat × Str)} {ts : Addr → Value → Option Addr → TS} {b₀ : Stmt} {suite : List Stmt} {np pos' : Pos} {hds : List ExceptHandler} {l : List Clause} :
      Names X x c → (∀ i n, o = some (i, n) → X.N[i]? = some n ∧ X.env.kindOf n = some .local) →
      (∀ (a : Addr) (oe : Obj) (cls : Value) (d : Option Addr) (pn : List (Addr × Obj)), Zn cls d oe → (∃ vs, oe.data = .fields vs) → PSs (X.suite a ((a, oe) :: pn)) (b₀ :: suite) (ts a cls d)) → Mix X hds l →
      Mix X (.ExceptHandler (some (.Name x np)) (o.map (·.2)) (b₀ :: suite) pos' :: hds) ((c, o.map (·.1), ts) :: l)
section
variable {X : Cx} {pins : List (Addr × Obj)} {D : Ends} {a : Addr} {oe : Obj}
/-- what a suite ends with is what the clause's surroundings see, the suite without a name -/
theorem sp_out (ok : X.Ok) {f : Flow} {s : Shared} (h : SP (X.suite a ((a, oe) :: (X.pn ++ pins))) [] D f s) : SP X pins D f s :=
  match f, h with
  | .next, ⟨σ, H, S, q⟩ => ⟨σ, H, S.unsuite ok, q⟩
  | .brk, ⟨σ, H, S, q⟩ => ⟨σ, H, S.unsuite ok, q⟩
  | .cont, ⟨σ, H, S, q⟩ => ⟨σ, H, S.unsuite ok, q⟩
  | .ret _, ⟨v, σ, H, S, r, q⟩ => ⟨v, σ, H, S.unsuite ok, r, q⟩
theorem sp_outTry (ok : X.Ok) {xe : Value → Shared → Prop} {f : Flow} {s : Shared} (h : SP (X.tr (X.pn ++ pins) xe) [] D f s) : SP X pins D f s :=
  match f, h with
  | .next, ⟨σ, H, S, q⟩ => ⟨σ, H, S.ofTry ok, q⟩
  | .brk, ⟨σ, H, S, q⟩ => ⟨σ, H, S.ofTry ok, q⟩
  | .cont, ⟨σ, H, S, q⟩ => ⟨σ, H, S.ofTry ok, q⟩
  | .ret _, ⟨v, σ, H, S, r, q⟩ => ⟨v, σ, H, S.ofTry ok, r, q⟩
/-- .. and with a name, which goes -/
theorem sp_gone {i : Nat} {n : Str} {p : Pos} {M : Model} {A : Around} {E : Value → Shared → Prop} (ok : X.Ok) (hN : X.N.Nodup) (hi : X.N[i]? = some n) (hl : X.env.kindOf n = some .local) {f : Flow} {s : Shared} (h : SP (X.suite a ((a, oe) :: (X.pn ++ pins))) [] (endOf (some i) D) f s) :
    wpAny M A (do bindName X.env n .none; unbindBehindTheSuite X.env n p) (fun _ s7 => SP X pins D f s7) E s :=
  match f, h with
  | .next, ⟨_, _, S, q⟩ => gone_ok (S.unsuite ok) hN hi hl fun _ J => ⟨_, _, J, q⟩
  | .brk, ⟨_, _, S, q⟩ => gone_ok (S.unsuite ok) hN hi hl fun _ J => ⟨_, _, J, q⟩
  | .cont, ⟨_, _, S, q⟩ => gone_ok (S.unsuite ok) hN hi hl fun _ J => ⟨_, _, J, q⟩
  | .ret _, ⟨_, _, _, S, r, q⟩ => gone_ok (S.unsuite ok) hN hi hl fun _ J => ⟨_, _, _, J, r, q⟩
end
section
variable {X : Cx} {body : List Stmt} {h₀ : ExceptHandler} {hds : List ExceptHandler} {l : List Clause} {pos : Pos} {tb : WX → TS} {Wo : WX}
/-- an exception that has landed before the clauses hs -/
def Fell (X : Cx) (Wo : WX) (D : Ends) (hs : List ExceptHandler) (l : List Clause) : Prop :=
  ∀ (pins : List (Addr × Obj)) (a : Addr) (B : Heap) (sI s' : Shared) (σ : St) (H : Hp) (cls : Value) (d : Option Addr) (h : Heap), Inv X pins σ H sI →
    (∀ b o, sI.heap.get? b = some o → b ∉ frs X.stack → B.get? b = some o) → sI.heap.UpToSlots h → HandSPX.FlyingZ B (X.env :: X.outer) a (Zn cls d) h → H a = none → s'.os = sI.os → AllBare s'.gens →
    wMix X.K Wo D l cls d σ H → wpAny (model X.prog X.w) X.A (handleBy (.ref a) X.env hs) (SP X pins D) X.xe { s' with heap := h }
theorem fell_nil {D : Ends} (hs : X.stack = X.env :: X.outer) (hf : X.env.frame = some X.env.locals) (tk : Takes X Wo) : Fell X Wo D [] [] := by
  intro pins a B sI s' σ H cls d h J nb up fl na os ag w
  obtain ⟨_, _, _, oe, vs, T, oT, ts', he, hz, hd, h1, hr⟩ := id fl
  refine wpAny_handleBy_nil (wpAny_bind (wpAny_field he hd h1 ?_))
  have there : ¬ ((Value.ref T == Value.none) = true) := by simp
  rw [if_neg there]
  have out : wpAny (model X.prog X.w) X.A (setFlight (.ref a) X.env.frame >>= fun _ => (throw (.ref a) : Sem Flow)) (SP X pins D) X.xe { s' with heap := h } := by
    rw [hf]
    refine wpAny_bind (HandSPX.setFlight_upZ fl fun h4 held up4 => wpAny_throw (tk _ _ ⟨a, B, sI, pins, σ, H, cls, d, rfl, J, nb, up.trans up4, ?_, na, os, ag, w⟩))
    rw [hs]
    exact .inr (.inr held)
  first
    | exact out
    | exact wpAny_bind (wpAny_pure out)
    | exact wpAny_bind out
/-- what is known of an exception that has landed: it is at a, off the frames, and may be pinned -/
theorem fell_at {pins : List (Addr × Obj)} {a : Addr} {B : Heap} {sI s' : Shared} {σ : St} {H : Hp} {cls : Value} {d : Option Addr} {h : Heap} (hf : X.env.frame = some X.env.locals) (hs : X.stack = X.env :: X.outer) (J : Inv X pins σ H sI)
    (nb : ∀ b o, sI.heap.get? b = some o → b ∉ frs X.stack → B.get? b = some o) (up : sI.heap.UpToSlots h) (fl : HandSPX.FlyingZ B (X.env :: X.outer) a (Zn cls d) h) (na : H a = none) (os : s'.os = sI.os) (ag : AllBare s'.gens) :
    ∃ oe vs, h.get? a = some oe ∧ Zn cls d oe ∧ oe.data = .fields vs ∧ Inv X pins σ H { s' with heap := h } ∧ Inv (X.suite a ((a, oe) :: (X.pn ++ pins))) [] σ H { s' with heap := h } := by
  have J3 : Inv X pins σ H { s' with heap := h } := J.landed nb fl.1 up os ag
  obtain ⟨oe, vs, he, hz, hd⟩ := fl.there
  have off : a ∉ frs (X.env :: X.outer) := fun hm => by
    obtain ⟨_, o', e', hnf⟩ := fl.2.2.1.mem hm
    cases he.symm.trans e'
    exact hnf _ hd
  refine ⟨oe, vs, he, hz, hd, J3, J3.suite he hd na (fun z => off ?_) fun hm => off ?_⟩
  · exact List.mem_filterMap.mpr ⟨X.env, List.mem_cons_self, hf.trans (congrArg some z.symm)⟩
  · obtain ⟨e, h1, h2⟩ := List.mem_filterMap.mp hm
    exact List.mem_filterMap.mpr ⟨e, List.mem_cons_of_mem _ h1, h2⟩
theorem fell_mix {D : Ends} (hs : X.stack = X.env :: X.outer) (hf : X.env.frame = some X.env.locals) (hN : X.N.Nodup) (tk : Takes X Wo) : ∀ {hds : List ExceptHandler} {l : List Clause}, Mix X hds l → Fell X Wo D hds l
  | _, _, .nil => fell_nil hs hf tk
  | _, _, @Mix.cons _ x c o ts b₀ suite np pos' hds l hc ho hsu r => by
    have ih := fell_mix (D := D) hs hf hN tk r
    intro pins a B sI s' σ H cls d h J nb up fl na os ag w
    obtain ⟨b, hb, hyes, hno⟩ := w
    obtain ⟨oe, vs, he, hz, hd, J3, S3⟩ := fell_at hf hs J nb up fl na os ag
    have asks : PySem.W.Looks (model X.prog X.w) h (typeOf (.ref a)) cls := fun A Q E s k q => wpAny_typeOf_ref (k _ _ he) (hz.1 ▸ q)
    have told := PySem.W.exm_one (M := model X.prog X.w) J3.kIn asks hb
    have named : ∀ {Q : Value → Shared → Prop} {E : Value → Shared → Prop}, Q c { s' with heap := h } → wpAny (model X.prog X.w) (X.A.mark (some (.ref a))) (eval (.Name x np) X.env) Q E { s' with heap := h } := fun q => by
      obtain ⟨h1, h2, h3 | ⟨h3, h4, h5⟩⟩ := hc
      · exact ld_glob (X := X.suite a ((a, oe) :: (X.pn ++ pins))) S3 h1 h3 q h2
      · exact ld_blt (X := X.suite a ((a, oe) :: (X.pn ++ pins))) S3 h1 h3 h4 q h5 h2
    refine wpAny_handleBy_cons (codeAny_handlers_test (named (told.here ?_))) (by intro q; cases q)
    cases b with
    | false => exact ih pins a B sI s' σ H cls d h J nb up fl na os ag (hno rfl)
    | true =>
      have ok := J3.ok
      have tail := hyes rfl a na
      cases o with
      | none =>
        refine codeAny_handlers_suite (HandSPX.lands_againZ fl fun h4 fl4 up4 => ?_)
        obtain ⟨oe4, vs4, he4, hz4, hd4, _, S4⟩ := fell_at hf hs J nb (up.trans up4) fl4 na os ag
        exact wpAny_mono ((hsu a oe4 cls d (X.pn ++ pins) hz4 ⟨_, hd4⟩).run [] _ _ _ _ S4 tail) (fun f s6 e => sp_out ok e) fun _ _ z => z.elim
      | some p =>
        obtain ⟨i, n⟩ := p
        obtain ⟨hi, hln⟩ := ho i n rfl
        refine codeAny_handlers_suite_as (HandSPX.lands_againZ fl fun h4 fl4 up4 => ?_)
        obtain ⟨oe4, vs4, he4, hz4, hd4, _, S4⟩ := fell_at hf hs J nb (up.trans up4) fl4 na os ag
        refine store_ok (v := .ref a) (X := X.suite a ((a, oe4) :: (X.pn ++ pins))) S4 hN hi (.inl hln) rfl (fun s5 S5 => ?_) (.inr hln)
        exact wpAny_mono ((hsu a oe4 cls d (X.pn ++ pins) hz4 ⟨_, hd4⟩).run [] s5 _ _ _ S5 tail) (fun f s6 e => sp_gone ok hN hi hln e) fun _ _ z => z.elim
theorem ps_try_mix (hs : X.stack = X.env :: X.outer) (hf : X.env.frame = some X.env.locals) (hN : X.N.Nodup) (tk : Takes X Wo)
    (hb : ∀ (W : WX) (pn : List (Addr × Obj)) (xe : Value → Shared → Prop), Takes (X.tr pn xe) W → PassesOwn (model X.prog X.w) X.A X.env xe → PSs (X.tr pn xe) body (tb W))
    (hh : Mix X (h₀ :: hds) l) : PS X (.Try body (h₀ :: hds) [] [] pos) (fun D σ H => tb (wMix X.K Wo D l) D σ H) := by
  refine ⟨fun pins s σ H D I h => wpAny_Try_except (wpAny_mono ((hb (wMix X.K Wo D l) (X.pn ++ pins) _ (fun u s' xx => ?_) PassesOwn.looking).run [] s σ H D (I.toTry _) h) (fun f s1 e => ?_) fun e s1 he => he)⟩
  · obtain ⟨a, B, sI, pins', σ', H', cls, d, rfl, J', nb, up, sky, na, os, ag, w⟩ := xx
    have sky' : Sky B (X.env :: X.outer) a (Zn cls d) X.env.locals s'.heap := hs ▸ sky
    have hfr : X.A.frames = some (X.env :: X.outer) := I.ok.frames.trans (congrArg some hs)
    exact Sky.land Zn.steady hfr hf sky' fun h3 fl3 up3 => fell_mix hs hf hN tk hh pins a B sI s' σ' H' cls d h3 (J'.ofTry I.ok) nb (up.trans up3) fl3 na os ag w
  · have e := sp_outTry I.ok e
    cases f with
    | next => exact wpAny_execs_nil e
    | brk => exact e
    | cont => exact e
    | ret u => exact e
end
end L2N
namespace Q
open PySem PySem.Spec PyProof.Rows L2 Evl
/-! except C as n, beside other clauses -/
abbrev HdF : Type := List Str × (Option Nat × (Str → Addr → Option Addr → FS))
def enO : Option Nat → En → En
  | none, N => ⟨N.nx, N.rt, N.bk, N.ct, fun _ _ _ _ => False⟩
  | some i, N => ⟨fun ρ2 μ2 => N.nx (hv ρ2 i) μ2, N.rt, fun ρ2 μ2 => N.bk (hv ρ2 i) μ2, fun ρ2 μ2 => N.ct (hv ρ2 i) μ2, fun _ _ _ _ => False⟩
def roO : Option Nat → W → Rho → Rho
  | none, _, ρ => ρ
  | some i, w, ρ => sv ρ i w
def tryA : List HdF → En → Rho → Str → List (Str × W) → Mu → Prop
  | [], N, ρ, c, fs, μ => N.ex ρ c fs μ
  | h :: r, N, ρ, c, fs, μ => if c ∈ h.1 then ∀ a d, μ a = none → (d = none → fs = []) → (fs = [] → d = none) → h.2.2 c a d (roO h.2.1 (.exc a d c fs) ρ) μ (enO h.2.1 N) else tryA r N ρ c fs μ
@[reducible] def sTryA (al : List Str) (b : FS) (hs : List HdF) : FS := fun ρ μ N => b ρ μ { N with ex := fun ρ' c fs μ' => c ∈ al ∧ tryA hs N ρ' c fs μ' }
structure QHdA (X : Cx) (E : L2.St → XK) (al : List Str) (hds : List ExceptHandler) (hs : List HdF) : Prop where
  ex : ∃ l, L2N.Mix X hds l ∧ ∀ (D : Ends) (c : Str) (fs : List (Str × W)) (ρ : Rho) (μ : Mu) (N : En) (d : Option Addr) (σ : L2.St) (H : Hp), c ∈ al → tryA hs N ρ c fs μ → Holds X.K H μ σ ρ → Mem X.K H μ → Pay X.K H μ d fs → EL X.K E D μ H N → L2N.wMix X.K (fun c d σ H => E σ c d H) D l (.ref (He.ga X.K c)) d σ H
section
variable {X : Cx} {E : L2.St → XK} {al cs : List Str}
theorem qha_nil : QHdA X E al [] [] := ⟨[], .nil, fun D c fs ρ μ N d σ H _ h hh hm hp l => l.ex ρ c fs μ d σ H h (Stp.refl μ H) hm hh hp⟩
theorem el_enO {K : Frag} {D : Ends} {μ : Mu} {H : Hp} {N : En} (o : Option Nat) (el : EL K E D μ H N) : EL K EN (L2N.endOf o D) μ H (enO o N) := by
  cases o with
  | none => exact ⟨el.nx, el.rt, el.bk, el.ct, fun _ _ _ _ _ _ _ z => z.elim⟩
  | some i => exact ⟨fun ρ2 μ2 σ2 H2 q e2 m2 h2 => el.nx _ μ2 _ H2 q e2 m2 (h2.hv i), el.rt, fun ρ2 μ2 σ2 H2 q e2 m2 h2 => el.bk _ μ2 _ H2 q e2 m2 (h2.hv i), fun ρ2 μ2 σ2 H2 q e2 m2 h2 => el.ct _ μ2 _ H2 q e2 m2 (h2.hv i), fun _ _ _ _ _ _ _ z => z.elim⟩
theorem qha_cons {x : Str} {v : Value} {o : Option (Nat × Str)} {b₀ : Stmt} {suite : List Stmt} {np pos' : Pos} {hds : List ExceptHandler} {hs : List HdF} {s : Str → Addr → Option Addr → FS} (hc : Names X x v) (em : ExmQ X.K al v cs)
    (ho : ∀ i n, o = some (i, n) → X.N[i]? = some n ∧ X.env.kindOf n = some .local)
    (hsu : ∀ (a : Addr) (oe : Obj) (c : Str) (d : Option Addr) (pn : List (Addr × Obj)), c ∈ cs → Zc (.ref (He.ga X.K c)) d oe → (∃ vs, oe.data = .fields vs) → QSs (X.suite a ((a, oe) :: pn)) EN (b₀ :: suite) (s c a d)) (hr : QHdA X E al hds hs) :
    QHdA X E al (.ExceptHandler (some (.Name x np)) (o.map (·.2)) (b₀ :: suite) pos' :: hds) ((cs, o.map (·.1), s) :: hs) := by
  obtain ⟨l, h1, h2⟩ := hr.ex
  refine ⟨(v, o.map (·.1), fun a cls d => fun D σ H => ∃ c, c ∈ cs ∧ cls = .ref (He.ga X.K c) ∧ tS X.K EN (s c a d) D σ H) :: l, .cons hc ho (fun a oe cls d pn hz hf => ⟨fun pins s' σ H D I hh => ?_⟩) h1, fun D c gs ρ μ N d σ H ha h hh hm hp el => ?_⟩
  · obtain ⟨c, hm, rfl, hh⟩ := hh
    exact (hsu a oe c d pn hm hz.zc hf).pss.run pins s' σ H D I hh
  · refine ⟨decide (c ∈ cs), em c ha, fun hb a hn => ?_, fun hb => ?_⟩
    · have hb := of_decide_eq_true hb
      have h := (if_pos hb).mp h
      refine ⟨c, hb, rfl, _, μ, _, ?_, hm, h a d (hm.free hn) (pay_nn hp) (pay_some hp), el_enO _ el⟩
      cases o with
      | none => exact hh
      | some p => exact hh.sv p.1 hp.rw
    · exact h2 D c gs ρ μ N d σ H ha ((if_neg (of_decide_eq_false hb)).mp h) hh hm hp el
theorem qs_tryA {body : List Stmt} {h₀ : ExceptHandler} {hds : List ExceptHandler} {hs : List HdF} {fb : FS} {pos : Pos} (h1 : X.stack = X.env :: X.outer) (h2 : X.env.frame = some X.env.locals) (hN : X.N.Nodup) (tk : Tk X E)
    (hb : ∀ (W : L2.WX) (pn : List (Addr × Obj)) (xe : Value → Shared → Prop), Tk (X.tr pn xe) (WE W) → PassesOwn (model X.prog X.w) X.A X.env xe → QSs (X.tr pn xe) (WE W) body fb)
    (hh : QHdA X E al (h₀ :: hds) hs) : QS X E (.Try body (h₀ :: hds) [] [] pos) (sTryA al fb hs) := by
  obtain ⟨l, g1, g2⟩ := hh.ex
  refine ⟨(L2N.ps_try_mix (tb := fun W => tS X.K (WE W) fb) h1 h2 hN tk (fun W pn xe t po => (hb W pn xe t po).pss) g1).qimp fun D σ H h => ?_⟩
  obtain ⟨ρ, μ, N, hh, hm, hf, el⟩ := h
  exact ⟨ρ, μ, _, hh, hm, hf, el.nx, el.rt, el.bk, el.ct, fun ρ' c fs μ' d σ' H' hx e m h p => g2 D c fs ρ' μ' N d σ' H' hx.1 hx.2 h m p (el.stp e)⟩
theorem q_tryA {h : HdF} {r : List HdF} {N : En} {ρ : Rho} {c : Str} {fs : List (Str × W)} {μ : Mu} (hm : c ∈ h.1) (k : ∀ a d, μ a = none → (d = none → fs = []) → (fs = [] → d = none) → h.2.2 c a d (roO h.2.1 (.exc a d c fs) ρ) μ (enO h.2.1 N)) : tryA (h :: r) N ρ c fs μ := (if_pos hm).mpr k
theorem q_tryAn {h : HdF} {r : List HdF} {N : En} {ρ : Rho} {c : Str} {fs : List (Str × W)} {μ : Mu} (hm : c ∉ h.1) (k : tryA r N ρ c fs μ) : tryA (h :: r) N ρ c fs μ := (if_neg hm).mpr k
/-- isinstance(e, C), e the exception that the suite holds -/
structure IsfC (K : Frag) (x y : Str) (b : Bool) : Prop where
  c : ExcC K (He.ga K x)
  k : PySem.W.kitOne K (.ref (He.ga K x)) (.ref (He.ga K y)) = some b
theorem isfB_ok {K : Frag} {x y : Str} {b : Bool} (h : isfB K x y b = true) : IsfC K x y b := by
  unfold isfB at h
  simp only [Bool.and_eq_true, decide_eq_true_eq] at h
  obtain ⟨h1, h2, h3, h4, h5, h6, h7, h8, h9⟩ := h
  exact ⟨⟨h1, h2, h3, h4, h5, h6, h7, h8⟩, h9⟩
def isfOf (l : List (Str × Bool)) (c : Str) : Option Bool := (l.find? fun p => decide (p.1 = c)).map (·.2)
def IsfL (K : Frag) (y : Str) (l : List (Str × Bool)) : Prop := ∀ p ∈ l, IsfC K p.1 y p.2
theorem isf_of {K : Frag} {y c : Str} : ∀ {l : List (Str × Bool)}, IsfL K y l → c ∈ l.map (·.1) → ∃ b, isfOf l c = some b ∧ IsfC K c y b
  | [], _, hc => by cases hc
  | p :: l, h, hc => by
    unfold isfOf
    rw [List.find?_cons]
    by_cases e : p.1 = c
    · rw [decide_eq_true e]
      exact ⟨p.2, rfl, e ▸ h p List.mem_cons_self⟩
    · rw [decide_eq_false e]
      refine isf_of (l := l) (fun q hq => h q (List.mem_cons_of_mem _ hq)) ?_
      rcases List.mem_cons.mp hc with z | z
      · exact absurd z.symm e
      · exact z
theorem isfl_nil {K : Frag} {y : Str} : IsfL K y [] := fun p hp => by cases hp
theorem isfl_cons {K : Frag} {y c : Str} {b : Bool} {l : List (Str × Bool)} (h : IsfC K c y b) (r : IsfL K y l) : IsfL K y ((c, b) :: l) := fun p hp => (List.mem_cons.mp hp).elim (fun e => by rw [e]; exact h) (r p)
def eIse (a : Addr) (d : Option Addr) (c : Str) (l : List (Str × Bool)) (o : FE) : FE := match d with
  | none => fun ρ μ P X => o ρ μ (fun w μ1 => match w with
    | .exc a' none c' _ => a' = a ∧ c' = c ∧ (match isfOf l c with
      | some b => P (.bl b) μ1
      | none => False)
    | _ => False) X
  | some _ => fun _ _ _ _ => False
theorem eIse_none {a : Addr} {c : Str} {l : List (Str × Bool)} {o : FE} {ρ : Rho} {μ : Mu} {P : Po} {X : Xo} (h : o ρ μ (fun w μ1 => match w with
    | .exc a' none c' _ => a' = a ∧ c' = c ∧ (match isfOf l c with
      | some b => P (.bl b) μ1
      | none => False)
    | _ => False) X) : eIse a none c l o ρ μ P X := h
theorem qe_ise {a : Addr} {oe : Obj} {c y : Str} {d : Option Addr} {pn : List (Addr × Obj)} {e : Expr} {fe : FE} {l : List (Str × Bool)} {p p2 pos : Pos} (hz : Zc (.ref (He.ga X.K c)) d oe) (hf : ∃ vs, oe.data = .fields vs) (hl : IsfL X.K y l) (hc : c ∈ l.map (·.1))
    (hg : Gl X "isinstance") (hm : X.mg "isinstance" = none) (hg2 : Gl X y) (hy : X.mg y = some (.ref (He.ga X.K y))) (he : QE (X.suite a ((a, oe) :: pn)) E e fe)
    (hst : starEach [e, .Name y p2] X.env = (false, eval e X.env) :: starEach [.Name y p2] X.env := by rfl) (hpl : (backTo pos (starEach [.Name y p2] X.env)).any (·.1) = false := by rfl)
    (hd2 : (y == ("__debug__" : Str)) = false := by decide) : QE (X.suite a ((a, oe) :: pn)) E (.Call (.Name "isinstance" p) [e, .Name y p2] [] pos) (eIse a d c l fe) := by
  cases d with
  | some d => exact ⟨⟨fun pins s σ H Q I h => by
      obtain ⟨_, _, _, _, _, _, z, _⟩ := h
      exact z.elim⟩⟩
  | none =>
    obtain ⟨b, hb, C⟩ := isf_of hl hc
    refine ⟨(pe_callB (X := X.suite a ((a, oe) :: pn)) (call_isE C.c hz hf) hg hm (by decide +kernel) (pa_cons he.pe (pa_cons (pe_glob (X := X.suite a ((a, oe) :: pn)) (v := .ref (He.ga X.K y)) hg2 hy rfl hd2) pa_nil) hst) (by decide) (by decide) hst hpl).qimp fun σ H Q h => ?_⟩
    obtain ⟨ρ, μ, P, XX, hh, hm, hf, hv, hx⟩ := h
    refine ⟨ρ, μ, _, XX, hh, hm, hf, fun w μ1 v H1 p1 e1 m1 r1 => ?_, hx⟩
    dsimp only at p1
    split at p1
    · obtain ⟨ea, ec, p1⟩ := p1
      subst ea ec
      rw [hb] at p1
      cases r1
      exact ⟨_, _, b, rfl, fun u r => by cases r; rfl, C.k, hv _ μ1 _ H1 p1 e1 m1 (.bl _)⟩
    · exact p1.elim
end
@[reducible] def bSdSR : FB := fun ws μ P => match ws with
  | [.ref a] => (match μ a with
    | some (.dk kvs) => ∃ ks : List Str, kvs.map (·.1) = ks.map Sum.inr ∧ ∀ p, μ p = none → P (.ref p) (mset μ p (.ls ((So.sortS ks).map W.str)))
    | _ => False)
  | _ => False
theorem cb_sdSR {X : Cx} (hc : X.calm = true) : CallR X (.builtin "sorted") (rB X.K bSdSR) := callR_imp (So.cr_srtDA hc) fun vs H Q h => by
  obtain ⟨ws, μ, P, r, m, h, l⟩ := h
  unfold bSdSR at h
  split at h
  · obtain ⟨v, rfl, r1⟩ := r.one
    split at h
    · rename_i a _ kvs ea
      cases r1
      obtain ⟨kv, h1, h2⟩ := m _ _ ea
      obtain ⟨ks, ek, h⟩ := h
      exact ⟨a, kv, ks, rfl, .inl h1, by rw [h2.keys, ek], fun p hp => l.ls h m (rw_strs _) hp⟩
    · exact h.elim
  · exact h.elim
end Q
namespace Q
open PySem
/-! the defs as functions -/
def f__law_cell_B : FW := fDef 2 2 (sSeq (sIf (cV (eOp wLt (eV 1) (eB bLen (aCons (eV 0) (aNil))))) (sRt (eOp wIx (eV 0) (eV 1))) (sNx))
  (sRt (eC (.int 0))))
noncomputable def f__law_cell_S : { f : FW // f = f__law_cell_B } := Classical.choice ⟨⟨_, rfl⟩⟩
noncomputable def f__law_cell : FW := f__law_cell_S.1
theorem f__law_cell_eq : f__law_cell = f__law_cell_B := f__law_cell_S.2
def f__read_string_B : FW := fDef 2 4 (sSeq (sSet 2 (eLR (aNil)))
  (itWh (cV (eC (.bl true))) (sSeq (sSet 3 (eBm tyS mFind (eV 0) (aCons (eC (.str "'")) (aCons (eV 1) (aNil)))))
  (sSeq (sIf (cV (eOp wLt (eV 3) (eC (.int 0)))) (sRaise "BadText") (sNx))
  (sSeq (sIf (cV (eOp wNeq (eSl (eV 0) (foS (eOp wAdd (eV 3) (eC (.int 1)))) (foS (eOp wAdd (eV 3) (eC (.int 2))))) (eC (.str "'")))) (sSeq (sEx (eBm tyL mApp (eV 2) (aCons (eSl (eV 0) (foS (eV 1)) (foS (eV 3))) (aNil))))
  (sRt (eTup (aCons (eBm tyS mJoin (eC (.str "")) (aCons (eV 2) (aNil))) (aCons (eOp wAdd (eV 3) (eC (.int 1))) (aNil)))))) (sNx))
  (sSeq (sEx (eBm tyL mApp (eV 2) (aCons (eSl (eV 0) (foS (eV 1)) (foS (eOp wAdd (eV 3) (eC (.int 1))))) (aNil))))
  (sSet 1 (eOp wAdd (eV 3) (eC (.int 2))))))))))
noncomputable def f__read_string_S : { f : FW // f = f__read_string_B } := Classical.choice ⟨⟨_, rfl⟩⟩
noncomputable def f__read_string : FW := f__read_string_S.1
theorem f__read_string_eq : f__read_string = f__read_string_B := f__read_string_S.2
def f__read_tuple_B (G : FW) : FW := fDef 3 6 (sSeq (sIf (cV (eOp wGt (eV 2) (eC (.int 10)))) (sRaise "BadText") (sNx))
  (sSeq (sIf (cV (eOp wEqu (eSl (eV 0) (foS (eV 1)) (foS (eOp wAdd (eV 1) (eC (.int 1))))) (eC (.str ")")))) (sRt (eTup (aCons (eTup (aNil)) (aCons (eOp wAdd (eV 1) (eC (.int 1))) (aNil))))) (sNx))
  (sSeq (sSet 3 (eLR (aNil)))
  (itWh (cV (eC (.bl true))) (sSeq (sAsg (eCall G (aCons (eV 0) (aCons (eV 1) (aCons (eV 2) (aNil))))) (gT 2 (gsCons (gN 5) (gsCons (gN 1) (gsNil)))))
  (sSeq (sEx (eBm tyL mApp (eV 3) (aCons (eV 5) (aNil))))
  (sSeq (sSet 4 (eSl (eV 0) (foS (eV 1)) (foS (eOp wAdd (eV 1) (eC (.int 1))))))
  (sSeq (sSet 1 (eOp wAdd (eV 1) (eC (.int 1))))
  (sSeq (sIf (cV (eOp wEqu (eV 4) (eC (.str ")")))) (sRt (eTup (aCons (eB bTup (aCons (eV 3) (aNil))) (aCons (eV 1) (aNil))))) (sNx))
  (sIf (cV (eOp wNeq (eV 4) (eC (.str ",")))) (sRaise "BadText") (sNx)))))))))))
noncomputable def f__read_tuple_S : { f : FW → FW // f = f__read_tuple_B } := Classical.choice ⟨⟨_, rfl⟩⟩
noncomputable def f__read_tuple : FW → FW := f__read_tuple_S.1
def f__read_integer_B : FW := fDef 2 5 (sSeq (sSet 2 (eV 1))
  (sJn (sIf (cV (eOp wEqu (eSl (eV 0) (foS (eV 1)) (foS (eOp wAdd (eV 1) (eC (.int 1))))) (eC (.str "-")))) (sSet 2 (eOp wAdd (eV 1) (eC (.int 1)))) (sNx))
  (sSeq (sSet 3 (eV 2))
  (sSeq (itWh (cV (eBm tyS mDig (eSl (eV 0) (foS (eV 3)) (foS (eOp wAdd (eV 3) (eC (.int 1))))) (aNil))) (sSet 3 (eOp wAdd (eV 3) (eC (.int 1)))))
  (sSeq (sSet 4 (eSl (eV 0) (foS (eV 2)) (foS (eV 3))))
  (sSeq (sIf (cNot (cV (eChain wLe wLe (eC (.int 1)) (eB bLen (aCons (eV 4) (aNil))) (eC (.int 30))))) (sRaise "BadText") (sNx))
  (sSeq (sIf (cAnd (cV (eOp wEqu (eOp wIx (eV 4) (eC (.int 0))) (eC (.str "0")))) (cV (eOp wGt (eV 3) (eOp wAdd (eV 1) (eC (.int 1)))))) (sRaise "BadText") (sNx))
  (sRt (eTup (aCons (eB bIntS (aCons (eSl (eV 0) (foS (eV 1)) (foS (eV 3))) (aNil))) (aCons (eV 3) (aNil))))))))))))
noncomputable def f__read_integer_S : { f : FW // f = f__read_integer_B } := Classical.choice ⟨⟨_, rfl⟩⟩
noncomputable def f__read_integer : FW := f__read_integer_S.1
theorem f__read_integer_eq : f__read_integer = f__read_integer_B := f__read_integer_S.2
def f__read_B (G : FW) : FW := fDef 3 4 (sSeq (sSet 3 (eSl (eV 0) (foS (eV 1)) (foS (eOp wAdd (eV 1) (eC (.int 1))))))
  (sSeq (sIf (cV (eOp wEqu (eV 3) (eC (.str "*")))) (sRt (eTup (aCons (eC .non) (aCons (eOp wAdd (eV 1) (eC (.int 1))) (aNil))))) (sNx))
  (sSeq (sIf (cV (eOp wEqu (eV 3) (eC (.str "'")))) (sRt (eCall f__read_string (aCons (eV 0) (aCons (eOp wAdd (eV 1) (eC (.int 1))) (aNil))))) (sNx))
  (sSeq (sIf (cV (eOp wEqu (eV 3) (eC (.str "(")))) (sRt (eCall (f__read_tuple G) (aCons (eV 0) (aCons (eOp wAdd (eV 1) (eC (.int 1))) (aCons (eOp wAdd (eV 2) (eC (.int 1))) (aNil)))))) (sNx))
  (sRt (eCall f__read_integer (aCons (eV 0) (aCons (eV 1) (aNil)))))))))
noncomputable def f__read_S : { f : FW → FW // f = f__read_B } := Classical.choice ⟨⟨_, rfl⟩⟩
noncomputable def f__read : FW → FW := f__read_S.1
theorem f__read_eq : f__read = f__read_B := f__read_S.2
def f_Disk__check_up_B : FW := fDef 1 1 (sIf (cV (eFld ["Disk"] (eV 0) "_crashed")) (sRaise "DiskCrashed") (sNx))
noncomputable def f_Disk__check_up_S : { f : FW // f = f_Disk__check_up_B } := Classical.choice ⟨⟨_, rfl⟩⟩
noncomputable def f_Disk__check_up : FW := f_Disk__check_up_S.1
theorem f_Disk__check_up_eq : f_Disk__check_up = f_Disk__check_up_B := f_Disk__check_up_S.2
def f_is_name_B : FW := fDef 1 2 (sSeq (sIf (cOr (cNot (cV (eIsi .str (eV 0)))) (cNot (cV (eChain wLe wLe (eC (.int 1)) (eB bLen (aCons (eV 0) (aNil))) (eC (.int 20)))))) (sRt (eC (.bl false))) (sNx))
  (sSeq (sFor (iSq (eV 0)) (gN 1) (sIf (cAnd (cV (eOp wNeq (eV 1) (eC (.str ".")))) (cNot (cV (eChain wLe wLe (eC (.str "a")) (eV 1) (eC (.str "z")))))) (sRt (eC (.bl false))) (sNx)))
  (sRt (eC (.bl true)))))
noncomputable def f_is_name_S : { f : FW // f = f_is_name_B } := Classical.choice ⟨⟨_, rfl⟩⟩
noncomputable def f_is_name : FW := f_is_name_S.1
theorem f_is_name_eq : f_is_name = f_is_name_B := f_is_name_S.2
def f_Disk__check_file_B : FW := fDef 2 2 (sSeq (sEx (eMet "_check_up" [("Disk", f_Disk__check_up)] (eV 0) (aNil)))
  (sIf (cOr (cNot (cV (eCall f_is_name (aCons (eV 1) (aNil))))) (cV (eOp wNin (eV 1) (eFld ["Disk"] (eV 0) "_files")))) (sRaise "DiskError") (sNx)))
noncomputable def f_Disk__check_file_S : { f : FW // f = f_Disk__check_file_B } := Classical.choice ⟨⟨_, rfl⟩⟩
noncomputable def f_Disk__check_file : FW := f_Disk__check_file_S.1
theorem f_Disk__check_file_eq : f_Disk__check_file = f_Disk__check_file_B := f_Disk__check_file_S.2
def f_Disk__operate_B : FW := fDef 1 1 (sSeq (sIf (cV (eOp wIs (eFld ["Disk"] (eV 0) "_left") (eC .non))) (sRtN) (sNx))
  (sSeq (sIf (cV (eOp wEqu (eFld ["Disk"] (eV 0) "_left") (eC (.int 0)))) (sSeq (sFld ["Disk"] (eV 0) "_crashed" (eC (.bl true)))
  (sRaise "DiskCrashed")) (sNx))
  (sFld ["Disk"] (eV 0) "_left" (eOp wSub (eFld ["Disk"] (eV 0) "_left") (eC (.int 1))))))
noncomputable def f_Disk__operate_S : { f : FW // f = f_Disk__operate_B } := Classical.choice ⟨⟨_, rfl⟩⟩
noncomputable def f_Disk__operate : FW := f_Disk__operate_S.1
theorem f_Disk__operate_eq : f_Disk__operate = f_Disk__operate_B := f_Disk__operate_S.2
def f_Disk_remove_B : FW := fDef 2 2 (sSeq (sEx (eMet "_check_file" [("Disk", f_Disk__check_file)] (eV 0) (aCons (eV 1) (aNil))))
  (sSeq (sEx (eMet "_operate" [("Disk", f_Disk__operate)] (eV 0) (aNil)))
  (sDel (eFld ["Disk"] (eV 0) "_files") (eV 1))))
noncomputable def f_Disk_remove_S : { f : FW // f = f_Disk_remove_B } := Classical.choice ⟨⟨_, rfl⟩⟩
noncomputable def f_Disk_remove : FW := f_Disk_remove_S.1
theorem f_Disk_remove_eq : f_Disk_remove = f_Disk_remove_B := f_Disk_remove_S.2
def f_Disk_read_B : FW := fDef 2 4 (sSeq (sEx (eMet "_check_file" [("Disk", f_Disk__check_file)] (eV 0) (aCons (eV 1) (aNil))))
  (sSeq (sAsg (eOp wIx (eFld ["Disk"] (eV 0) "_files") (eV 1)) (gT 2 (gsCons (gN 2) (gsCons (gN 3) (gsNil)))))
  (sRt (eOp wAdd (eV 2) (eV 3)))))
noncomputable def f_Disk_read_S : { f : FW // f = f_Disk_read_B } := Classical.choice ⟨⟨_, rfl⟩⟩
noncomputable def f_Disk_read : FW := f_Disk_read_S.1
theorem f_Disk_read_eq : f_Disk_read = f_Disk_read_B := f_Disk_read_S.2
def f_Disk_append_B : FW := fDef 3 5 (sSeq (sEx (eMet "_check_up" [("Disk", f_Disk__check_up)] (eV 0) (aNil)))
  (sSeq (sIf (cOr (cNot (cV (eCall f_is_name (aCons (eV 1) (aNil))))) (cNot (cV (eIsi .str (eV 2))))) (sRaise "DiskError") (sNx))
  (sSeq (sEx (eMet "_operate" [("Disk", f_Disk__operate)] (eV 0) (aNil)))
  (sSeq (sAsg (eGet2 (eFld ["Disk"] (eV 0) "_files") (eV 1) (eTup (aCons (eC (.str "")) (aCons (eC (.str "")) (aNil))))) (gT 2 (gsCons (gN 3) (gsCons (gN 4) (gsNil)))))
  (sPut (eFld ["Disk"] (eV 0) "_files") (eV 1) (eTup (aCons (eV 3) (aCons (eOp wAdd (eV 4) (eV 2)) (aNil)))))))))
noncomputable def f_Disk_append_S : { f : FW // f = f_Disk_append_B } := Classical.choice ⟨⟨_, rfl⟩⟩
noncomputable def f_Disk_append : FW := f_Disk_append_S.1
theorem f_Disk_append_eq : f_Disk_append = f_Disk_append_B := f_Disk_append_S.2
def f_Disk_sync_B : FW := fDef 2 4 (sSeq (sEx (eMet "_check_file" [("Disk", f_Disk__check_file)] (eV 0) (aCons (eV 1) (aNil))))
  (sSeq (sEx (eMet "_operate" [("Disk", f_Disk__operate)] (eV 0) (aNil)))
  (sSeq (sAsg (eOp wIx (eFld ["Disk"] (eV 0) "_files") (eV 1)) (gT 2 (gsCons (gN 2) (gsCons (gN 3) (gsNil)))))
  (sPut (eFld ["Disk"] (eV 0) "_files") (eV 1) (eTup (aCons (eOp wAdd (eV 2) (eV 3)) (aCons (eC (.str "")) (aNil))))))))
noncomputable def f_Disk_sync_S : { f : FW // f = f_Disk_sync_B } := Classical.choice ⟨⟨_, rfl⟩⟩
noncomputable def f_Disk_sync : FW := f_Disk_sync_S.1
theorem f_Disk_sync_eq : f_Disk_sync = f_Disk_sync_B := f_Disk_sync_S.2
def f_Disk_rename_B : FW := fDef 3 4 (sSeq (sEx (eMet "_check_file" [("Disk", f_Disk__check_file)] (eV 0) (aCons (eV 1) (aNil))))
  (sSeq (sIf (cNot (cV (eCall f_is_name (aCons (eV 2) (aNil))))) (sRaise "DiskError") (sNx))
  (sSeq (sEx (eMet "_operate" [("Disk", f_Disk__operate)] (eV 0) (aNil)))
  (sSeq (sSet 3 (ePop1 (eFld ["Disk"] (eV 0) "_files") (eV 1)))
  (sPut (eFld ["Disk"] (eV 0) "_files") (eV 2) (eV 3))))))
noncomputable def f_Disk_rename_S : { f : FW // f = f_Disk_rename_B } := Classical.choice ⟨⟨_, rfl⟩⟩
noncomputable def f_Disk_rename : FW := f_Disk_rename_S.1
theorem f_Disk_rename_eq : f_Disk_rename = f_Disk_rename_B := f_Disk_rename_S.2
def f_Disk___init___B : FW := fDef 1 1 (sSeq (sFld ["Disk"] (eV 0) "_files" (eDk))
  (sSeq (sFld ["Disk"] (eV 0) "_left" (eC .non))
  (sFld ["Disk"] (eV 0) "_crashed" (eC (.bl false)))))
noncomputable def f_Disk___init___S : { f : FW // f = f_Disk___init___B } := Classical.choice ⟨⟨_, rfl⟩⟩
noncomputable def f_Disk___init__ : FW := f_Disk___init___S.1
theorem f_Disk___init___eq : f_Disk___init__ = f_Disk___init___B := f_Disk___init___S.2
def f_Disk_pending_B : FW := fDef 2 2 (sSeq (sEx (eMet "_check_file" [("Disk", f_Disk__check_file)] (eV 0) (aCons (eV 1) (aNil))))
  (sRt (eB bLen (aCons (eOp wIx (eOp wIx (eFld ["Disk"] (eV 0) "_files") (eV 1)) (eC (.int 1))) (aNil)))))
noncomputable def f_Disk_pending_S : { f : FW // f = f_Disk_pending_B } := Classical.choice ⟨⟨_, rfl⟩⟩
noncomputable def f_Disk_pending : FW := f_Disk_pending_S.1
theorem f_Disk_pending_eq : f_Disk_pending = f_Disk_pending_B := f_Disk_pending_S.2
def f_Disk_arm_B : FW := fDef 2 2 (sFld ["Disk"] (eV 0) "_left" (eV 1))
noncomputable def f_Disk_arm_S : { f : FW // f = f_Disk_arm_B } := Classical.choice ⟨⟨_, rfl⟩⟩
noncomputable def f_Disk_arm : FW := f_Disk_arm_S.1
theorem f_Disk_arm_eq : f_Disk_arm = f_Disk_arm_B := f_Disk_arm_S.2
def f_Disk_names_2_B : FW := fDef 1 1 (sRt (eB bSdSR (aCons (eFld ["Disk"] (eV 0) "_files") (aNil))))
noncomputable def f_Disk_names_2_S : { f : FW // f = f_Disk_names_2_B } := Classical.choice ⟨⟨_, rfl⟩⟩
noncomputable def f_Disk_names_2 : FW := f_Disk_names_2_S.1
theorem f_Disk_names_2_eq : f_Disk_names_2 = f_Disk_names_2_B := f_Disk_names_2_S.2
def f_Disk_crash_2_B : FW := fDef 2 7 (sSeq (sSet 2 (eC (.int 0)))
  (sSeq (sFor (iSq (eMet "names" [("Disk", f_Disk_names_2)] (eV 0) (aNil))) (gN 3) (sSeq (sAsg (eOp wIx (eFld ["Disk"] (eV 0) "_files") (eV 3)) (gT 2 (gsCons (gN 4) (gsCons (gN 5) (gsNil)))))
  (sIf (cV (eOp wNeq (eV 5) (eC (.str "")))) (sSeq (sSet 6 (eC (.int 0)))
  (sJn (sIf (cV (eOp wLt (eV 2) (eB bLen (aCons (eV 1) (aNil))))) (sSet 6 (eB bMax (aCons (eC (.int 0)) (aCons (eOp wIx (eV 1) (eV 2)) (aNil))))) (sNx))
  (sSeq (sPut (eFld ["Disk"] (eV 0) "_files") (eV 3) (eTup (aCons (eOp wAdd (eV 4) (eSl (eV 5) foN (foS (eV 6)))) (aCons (eC (.str "")) (aNil)))))
  (sSet 2 (eOp wAdd (eV 2) (eC (.int 1))))))) (sNx))))
  (sSeq (sFld ["Disk"] (eV 0) "_left" (eC .non))
  (sFld ["Disk"] (eV 0) "_crashed" (eC (.bl false))))))
noncomputable def f_Disk_crash_2_S : { f : FW // f = f_Disk_crash_2_B } := Classical.choice ⟨⟨_, rfl⟩⟩
noncomputable def f_Disk_crash_2 : FW := f_Disk_crash_2_S.1
theorem f_Disk_crash_2_eq : f_Disk_crash_2 = f_Disk_crash_2_B := f_Disk_crash_2_S.2
def f__law_name_B : FW := fDef 1 1 (sSeq (sIf (cV (eOp wEqu (eOp wMod (eB bInt (aCons (eV 0) (aNil))) (eC (.int 9))) (eC (.int 8)))) (sRt (eOp wIx (eLV (aCons (eC (.str "")) (aCons (eOp wMul (eC (.str "a")) (eC (.int 21))) (aCons (eC (.str "Log")) (aCons (eC (.str "a b")) (aCons (eC (.str "a1")) (aCons (eC (.str "log/")) (aNil)))))))) (eOp wMod (eB bInt (aCons (eOp wFdv (eV 0) (eC (.int 9))) (aNil))) (eC (.int 6))))) (sNx))
  (sRt (eOp wIx (eLV (aCons (eC (.str "log")) (aCons (eC (.str "log.new")) (aCons (eOp wMul (eC (.str "a")) (eC (.int 20))) (aNil))))) (eOp wMod (eB bInt (aCons (eV 0) (aNil))) (eC (.int 3))))))
noncomputable def f__law_name_S : { f : FW // f = f__law_name_B } := Classical.choice ⟨⟨_, rfl⟩⟩
noncomputable def f__law_name : FW := f__law_name_S.1
theorem f__law_name_eq : f__law_name = f__law_name_B := f__law_name_S.2
def f__law_keeps_B : FW := fDef 1 3 (sSeq (sSet 1 (eLR (aNil)))
  (sSeq (sFor (iR1 (aCons (eOp wMod (eB bInt (aCons (eV 0) (aNil))) (eC (.int 5))) (aNil))) (gN 2) (sSeq (sSet 0 (eOp wFdv (eV 0) (eC (.int 7))))
  (sEx (eBm tyL mApp (eV 1) (aCons (eOp wSub (eOp wMod (eB bInt (aCons (eV 0) (aNil))) (eC (.int 9))) (eC (.int 2))) (aNil))))))
  (sRt (eV 1))))
noncomputable def f__law_keeps_S : { f : FW // f = f__law_keeps_B } := Classical.choice ⟨⟨_, rfl⟩⟩
noncomputable def f__law_keeps : FW := f__law_keeps_S.1
theorem f__law_keeps_eq : f__law_keeps = f__law_keeps_B := f__law_keeps_S.2
def f__law_act_B : FW := fDef 2 3 (sTryA ["TableError", "DiskError", "DiskCrashed"] (sSeq (sIf (cV (eOp wEqu (eOp wIx (eV 1) (eC (.int 0))) (eC (.str "append")))) (sRt (eTup (aCons (eC (.str "done")) (aCons (eMet "append" [("Disk", f_Disk_append)] (eV 0) (aCons (eOp wIx (eV 1) (eC (.int 1))) (aCons (eOp wIx (eV 1) (eC (.int 2))) (aNil)))) (aNil))))) (sNx))
  (sSeq (sIf (cV (eOp wEqu (eOp wIx (eV 1) (eC (.int 0))) (eC (.str "sync")))) (sRt (eTup (aCons (eC (.str "done")) (aCons (eMet "sync" [("Disk", f_Disk_sync)] (eV 0) (aCons (eOp wIx (eV 1) (eC (.int 1))) (aNil))) (aNil))))) (sNx))
  (sSeq (sIf (cV (eOp wEqu (eOp wIx (eV 1) (eC (.int 0))) (eC (.str "read")))) (sRt (eTup (aCons (eC (.str "done")) (aCons (eMet "read" [("Disk", f_Disk_read)] (eV 0) (aCons (eOp wIx (eV 1) (eC (.int 1))) (aNil))) (aNil))))) (sNx))
  (sSeq (sIf (cV (eOp wEqu (eOp wIx (eV 1) (eC (.int 0))) (eC (.str "rename")))) (sRt (eTup (aCons (eC (.str "done")) (aCons (eMet "rename" [("Disk", f_Disk_rename)] (eV 0) (aCons (eOp wIx (eV 1) (eC (.int 1))) (aCons (eOp wIx (eV 1) (eC (.int 2))) (aNil)))) (aNil))))) (sNx))
  (sSeq (sIf (cV (eOp wEqu (eOp wIx (eV 1) (eC (.int 0))) (eC (.str "remove")))) (sRt (eTup (aCons (eC (.str "done")) (aCons (eMet "remove" [("Disk", f_Disk_remove)] (eV 0) (aCons (eOp wIx (eV 1) (eC (.int 1))) (aNil))) (aNil))))) (sNx))
  (sSeq (sIf (cV (eOp wEqu (eOp wIx (eV 1) (eC (.int 0))) (eC (.str "pending")))) (sRt (eTup (aCons (eC (.str "done")) (aCons (eMet "pending" [("Disk", f_Disk_pending)] (eV 0) (aCons (eOp wIx (eV 1) (eC (.int 1))) (aNil))) (aNil))))) (sNx))
  (sSeq (sIf (cV (eOp wEqu (eOp wIx (eV 1) (eC (.int 0))) (eC (.str "arm")))) (sRt (eTup (aCons (eC (.str "done")) (aCons (eMet "arm" [("Disk", f_Disk_arm)] (eV 0) (aCons (eOp wIx (eV 1) (eC (.int 1))) (aNil))) (aNil))))) (sNx))
  (sRt (eTup (aCons (eC (.str "done")) (aCons (eMet "crash" [("Disk", f_Disk_crash_2)] (eV 0) (aCons (eB bLsV (aCons (eOp wIx (eV 1) (eC (.int 1))) (aNil))) (aNil))) (aNil)))))))))))) [(["DiskCrashed"], (some 2, fun cx ax dx => sSeq (sIf (cV (eIse ax dx cx [("DiskCrashed", false)] (eV 2))) (sRt (eTup (aCons (eC (.str "both")) (aCons (eC .non) (aNil))))) (sNx))
  (sRt (eTup (aCons (eC (.str "crashed")) (aCons (eC .non) (aNil))))))), (["DiskError"], (none, fun cx ax dx => sRt (eTup (aCons (eC (.str "error")) (aCons (eC .non) (aNil))))))])
noncomputable def f__law_act_S : { f : FW // f = f__law_act_B } := Classical.choice ⟨⟨_, rfl⟩⟩
noncomputable def f__law_act : FW := f__law_act_S.1
theorem f__law_act_eq : f__law_act = f__law_act_B := f__law_act_S.2
def f__law_good_B : FW := fDef 1 2 (sSeq (sIf (cNot (cV (eChain wLe wLe (eC (.int 1)) (eB bLen (aCons (eV 0) (aNil))) (eC (.int 20))))) (sRt (eC (.bl false))) (sNx))
  (sSeq (sFor (iSq (eV 0)) (gN 1) (sIf (cV (eOp wNin (eV 1) (eC (.str "abcdefghijklmnopqrstuvwxyz.")))) (sRt (eC (.bl false))) (sNx)))
  (sRt (eC (.bl true)))))
noncomputable def f__law_good_S : { f : FW // f = f__law_good_B } := Classical.choice ⟨⟨_, rfl⟩⟩
noncomputable def f__law_good : FW := f__law_good_S.1
theorem f__law_good_eq : f__law_good = f__law_good_B := f__law_good_S.2
def f__law_crash_2_B : FW := fDef 2 8 (sSeq (sSet 2 (eC (.int 0)))
  (sSeq (sFor (iSq (eB bSdS (aCons (eOp wIx (eV 0) (eC (.str "files"))) (aNil)))) (gN 3) (sSeq (sAsg (eOp wIx (eOp wIx (eV 0) (eC (.str "files"))) (eV 3)) (gT 2 (gsCons (gN 5) (gsCons (gN 6) (gsNil)))))
  (sSeq (sSet 4 (eOp wIx (eV 0) (eC (.str "files"))))
  (sIf (cV (eOp wNeq (eV 6) (eC (.str "")))) (sSeq (sSet 7 (eC (.int 0)))
  (sJn (sIf (cV (eOp wLt (eV 2) (eB bLen (aCons (eV 1) (aNil))))) (sSet 7 (eB bMax (aCons (eC (.int 0)) (aCons (eOp wIx (eV 1) (eV 2)) (aNil))))) (sNx))
  (sSeq (sSet 2 (eOp wAdd (eV 2) (eC (.int 1))))
  (sPut (eV 4) (eV 3) (eTup (aCons (eOp wAdd (eV 5) (eSl (eV 6) foN (foS (eV 7)))) (aCons (eC (.str "")) (aNil)))))))) (sNx)))))
  (sSeq (sPut (eV 0) (eC (.str "left")) (eC .non))
  (sPut (eV 0) (eC (.str "dead")) (eC (.bl false))))))
noncomputable def f__law_crash_2_S : { f : FW // f = f__law_crash_2_B } := Classical.choice ⟨⟨_, rfl⟩⟩
noncomputable def f__law_crash_2 : FW := f__law_crash_2_S.1
theorem f__law_crash_2_eq : f__law_crash_2 = f__law_crash_2_B := f__law_crash_2_S.2
def f__law_passes_B : FW := fDef 1 1 (sSeq (sIf (cV (eOp wIs (eOp wIx (eV 0) (eC (.str "left"))) (eC .non))) (sRt (eC (.bl true))) (sNx))
  (sSeq (sIf (cV (eOp wEqu (eOp wIx (eV 0) (eC (.str "left"))) (eC (.int 0)))) (sSeq (sPut (eV 0) (eC (.str "dead")) (eC (.bl true)))
  (sRt (eC (.bl false)))) (sNx))
  (sSeq (sPut (eV 0) (eC (.str "left")) (eOp wSub (eOp wIx (eV 0) (eC (.str "left"))) (eC (.int 1))))
  (sRt (eC (.bl true))))))
noncomputable def f__law_passes_S : { f : FW // f = f__law_passes_B } := Classical.choice ⟨⟨_, rfl⟩⟩
noncomputable def f__law_passes : FW := f__law_passes_S.1
theorem f__law_passes_eq : f__law_passes = f__law_passes_B := f__law_passes_S.2
def f__law_valid_B : FW := fDef 2 2 (sSeq (sIf (cV (eOp wEqu (eOp wIx (eV 1) (eC (.int 0))) (eC (.str "append")))) (sRt (eCall f__law_good (aCons (eOp wIx (eV 1) (eC (.int 1))) (aNil)))) (sNx))
  (sSeq (sIf (cV (eOp wNin (eOp wIx (eV 1) (eC (.int 1))) (eOp wIx (eV 0) (eC (.str "files"))))) (sRt (eC (.bl false))) (sNx))
  (sRt (eOr (eOp wNeq (eOp wIx (eV 1) (eC (.int 0))) (eC (.str "rename"))) (eCall f__law_good (aCons (eOp wIx (eV 1) (eC (.int 2))) (aNil)))))))
noncomputable def f__law_valid_S : { f : FW // f = f__law_valid_B } := Classical.choice ⟨⟨_, rfl⟩⟩
noncomputable def f__law_valid : FW := f__law_valid_S.1
theorem f__law_valid_eq : f__law_valid = f__law_valid_B := f__law_valid_S.2
def f__law_change_B : FW := fDef 2 6 (sSeq (sSet 2 (eOp wIx (eV 0) (eC (.str "files"))))
  (sIf (cV (eOp wEqu (eOp wIx (eV 1) (eC (.int 0))) (eC (.str "append")))) (sSeq (sAsg (eGet2 (eV 2) (eOp wIx (eV 1) (eC (.int 1))) (eTup (aCons (eC (.str "")) (aCons (eC (.str "")) (aNil))))) (gT 2 (gsCons (gN 3) (gsCons (gN 4) (gsNil)))))
  (sPut (eV 2) (eOp wIx (eV 1) (eC (.int 1))) (eTup (aCons (eV 3) (aCons (eOp wAdd (eV 4) (eOp wIx (eV 1) (eC (.int 2)))) (aNil)))))) (sIf (cV (eOp wEqu (eOp wIx (eV 1) (eC (.int 0))) (eC (.str "sync")))) (sPut (eV 2) (eOp wIx (eV 1) (eC (.int 1))) (eTup (aCons (eOp wAdd (eOp wIx (eOp wIx (eV 2) (eOp wIx (eV 1) (eC (.int 1)))) (eC (.int 0))) (eOp wIx (eOp wIx (eV 2) (eOp wIx (eV 1) (eC (.int 1)))) (eC (.int 1)))) (aCons (eC (.str "")) (aNil))))) (sSeq (sSet 5 (ePop1 (eV 2) (eOp wIx (eV 1) (eC (.int 1)))))
  (sIf (cV (eOp wEqu (eOp wIx (eV 1) (eC (.int 0))) (eC (.str "rename")))) (sPut (eV 2) (eOp wIx (eV 1) (eC (.int 2))) (eV 5)) (sNx))))))
noncomputable def f__law_change_S : { f : FW // f = f__law_change_B } := Classical.choice ⟨⟨_, rfl⟩⟩
noncomputable def f__law_change : FW := f__law_change_S.1
theorem f__law_change_eq : f__law_change = f__law_change_B := f__law_change_S.2
def f__law_expect_B : FW := fDef 2 2 (sSeq (sIf (cV (eOp wEqu (eOp wIx (eV 1) (eC (.int 0))) (eC (.str "arm")))) (sSeq (sPut (eV 0) (eC (.str "left")) (eOp wIx (eV 1) (eC (.int 1))))
  (sRt (eTup (aCons (eC (.str "done")) (aCons (eC .non) (aNil)))))) (sNx))
  (sSeq (sIf (cV (eOp wEqu (eOp wIx (eV 1) (eC (.int 0))) (eC (.str "crash")))) (sSeq (sEx (eCall f__law_crash_2 (aCons (eV 0) (aCons (eOp wIx (eV 1) (eC (.int 1))) (aNil)))))
  (sRt (eTup (aCons (eC (.str "done")) (aCons (eC .non) (aNil)))))) (sNx))
  (sSeq (sIf (cV (eOp wIx (eV 0) (eC (.str "dead")))) (sRt (eTup (aCons (eC (.str "crashed")) (aCons (eC .non) (aNil))))) (sNx))
  (sSeq (sIf (cNot (cV (eCall f__law_valid (aCons (eV 0) (aCons (eV 1) (aNil)))))) (sRt (eTup (aCons (eC (.str "error")) (aCons (eC .non) (aNil))))) (sNx))
  (sSeq (sIf (cV (eOp wEqu (eOp wIx (eV 1) (eC (.int 0))) (eC (.str "read")))) (sRt (eTup (aCons (eC (.str "done")) (aCons (eOp wAdd (eOp wIx (eOp wIx (eOp wIx (eV 0) (eC (.str "files"))) (eOp wIx (eV 1) (eC (.int 1)))) (eC (.int 0))) (eOp wIx (eOp wIx (eOp wIx (eV 0) (eC (.str "files"))) (eOp wIx (eV 1) (eC (.int 1)))) (eC (.int 1)))) (aNil))))) (sNx))
  (sSeq (sIf (cV (eOp wEqu (eOp wIx (eV 1) (eC (.int 0))) (eC (.str "pending")))) (sRt (eTup (aCons (eC (.str "done")) (aCons (eB bLen (aCons (eOp wIx (eOp wIx (eOp wIx (eV 0) (eC (.str "files"))) (eOp wIx (eV 1) (eC (.int 1)))) (eC (.int 1))) (aNil))) (aNil))))) (sNx))
  (sSeq (sIf (cNot (cV (eCall f__law_passes (aCons (eV 0) (aNil))))) (sRt (eTup (aCons (eC (.str "crashed")) (aCons (eC .non) (aNil))))) (sNx))
  (sSeq (sEx (eCall f__law_change (aCons (eV 0) (aCons (eV 1) (aNil)))))
  (sRt (eTup (aCons (eC (.str "done")) (aCons (eC .non) (aNil)))))))))))))
noncomputable def f__law_expect_S : { f : FW // f = f__law_expect_B } := Classical.choice ⟨⟨_, rfl⟩⟩
noncomputable def f__law_expect : FW := f__law_expect_S.1
theorem f__law_expect_eq : f__law_expect = f__law_expect_B := f__law_expect_S.2
def f__law_deed_2_B : FW := fDef 1 3 (sSeq (sSet 1 (eOp wIx (eLV (aCons (eC (.str "append")) (aCons (eC (.str "append")) (aCons (eC (.str "append")) (aCons (eC (.str "sync")) (aCons (eC (.str "read")) (aCons (eC (.str "rename")) (aCons (eC (.str "remove")) (aCons (eC (.str "pending")) (aCons (eC (.str "crash")) (aCons (eC (.str "arm")) (aNil)))))))))))) (eOp wMod (eB bInt (aCons (eV 0) (aNil))) (eC (.int 10)))))
  (sSeq (sSet 0 (eOp wFdv (eV 0) (eC (.int 10))))
  (sSeq (sIf (cV (eOp wEqu (eV 1) (eC (.str "arm")))) (sRt (eTup (aCons (eV 1) (aCons (eOp wMod (eB bInt (aCons (eV 0) (aNil))) (eC (.int 5))) (aNil))))) (sNx))
  (sSeq (sIf (cV (eOp wEqu (eV 1) (eC (.str "crash")))) (sRt (eTup (aCons (eV 1) (aCons (eCall f__law_keeps (aCons (eV 0) (aNil))) (aNil))))) (sNx))
  (sSeq (sSet 2 (eCall f__law_name (aCons (eV 0) (aNil))))
  (sSeq (sIf (cV (eOp wEqu (eV 1) (eC (.str "append")))) (sRt (eTup (aCons (eV 1) (aCons (eV 2) (aCons (eSl (eC (.str "abcdef")) foN (foS (eOp wMod (eB bInt (aCons (eOp wFdv (eV 0) (eC (.int 81))) (aNil))) (eC (.int 7))))) (aNil)))))) (sNx))
  (sRt (eTup (aCons (eV 1) (aCons (eV 2) (aCons (eCall f__law_name (aCons (eOp wFdv (eV 0) (eC (.int 81))) (aNil))) (aNil))))))))))))
noncomputable def f__law_deed_2_S : { f : FW // f = f__law_deed_2_B } := Classical.choice ⟨⟨_, rfl⟩⟩
noncomputable def f__law_deed_2 : FW := f__law_deed_2_S.1
theorem f__law_deed_2_eq : f__law_deed_2 = f__law_deed_2_B := f__law_deed_2_S.2
def f__law_agrees_B : FW := fDef 2 4 (sSeq (sSet 2 (eMet "names" [("Disk", f_Disk_names_2)] (eV 0) (aNil)))
  (sSeq (sIf (cOr (cNot (cV (eIsi .lst (eV 2)))) (cV (eOp wNeq (eV 2) (eB bSdS (aCons (eOp wIx (eV 1) (eC (.str "files"))) (aNil)))))) (sRt (eC (.bl false))) (sNx))
  (sSeq (sEx (eBm tyL mApp (eV 2) (aCons (eC (.str "spoilt")) (aNil))))
  (sSeq (sIf (cV (eOp wIx (eV 1) (eC (.str "dead")))) (sRt (eC (.bl true))) (sNx))
  (sSeq (sLock (sFor (iKy (eOp wIx (eV 1) (eC (.str "files")))) (gN 3) (sSeq (sIf (cV (eOp wNeq (eMet "read" [("Disk", f_Disk_read)] (eV 0) (aCons (eV 3) (aNil))) (eOp wAdd (eOp wIx (eOp wIx (eOp wIx (eV 1) (eC (.str "files"))) (eV 3)) (eC (.int 0))) (eOp wIx (eOp wIx (eOp wIx (eV 1) (eC (.str "files"))) (eV 3)) (eC (.int 1)))))) (sRt (eC (.bl false))) (sNx))
  (sIf (cV (eOp wNeq (eMet "pending" [("Disk", f_Disk_pending)] (eV 0) (aCons (eV 3) (aNil))) (eB bLen (aCons (eOp wIx (eOp wIx (eOp wIx (eV 1) (eC (.str "files"))) (eV 3)) (eC (.int 1))) (aNil))))) (sRt (eC (.bl false))) (sNx)))))
  (sRt (eC (.bl true))))))))
noncomputable def f__law_agrees_S : { f : FW // f = f__law_agrees_B } := Classical.choice ⟨⟨_, rfl⟩⟩
noncomputable def f__law_agrees : FW := f__law_agrees_S.1
theorem f__law_agrees_eq : f__law_agrees = f__law_agrees_B := f__law_agrees_S.2
def f_law_14_B : FW := fDef 1 7 (sSeq (sSet 1 (eMak "Disk" f_Disk___init__ (aNil)))
  (sSeq (sSet 2 (eDs (dCons (eC (.str "files")) (eDk) (dCons (eC (.str "left")) (eC .non) (dCons (eC (.str "dead")) (eC (.bl false)) (dNil))))))
  (sSeq (sFor (iSq (eV 0)) (gN 3) (sSeq (sSet 4 (eCall f__law_deed_2 (aCons (eV 3) (aNil))))
  (sSeq (sSet 5 (eCall f__law_expect (aCons (eV 2) (aCons (eV 4) (aNil)))))
  (sSeq (sSet 6 (eCall f__law_act (aCons (eV 1) (aCons (eV 4) (aNil)))))
  (sSeq (sIf (cOr (cV (eOp wNeq (eOp wIx (eV 6) (eC (.int 0))) (eOp wIx (eV 5) (eC (.int 0))))) (cV (eIsi .bl (eOp wIx (eV 6) (eC (.int 1)))))) (sRt (eC (.bl false))) (sNx))
  (sIf (cOr (cV (eOp wNeq (eOp wIs (eOp wIx (eV 6) (eC (.int 1))) (eC .non)) (eOp wIs (eOp wIx (eV 5) (eC (.int 1))) (eC .non)))) (cOr (cV (eOp wNeq (eOp wIx (eV 6) (eC (.int 1))) (eOp wIx (eV 5) (eC (.int 1))))) (cNot (cV (eCall f__law_agrees (aCons (eV 1) (aCons (eV 2) (aNil)))))))) (sRt (eC (.bl false))) (sNx)))))))
  (sRt (eAnd (eOp wEqu (eC (.int 20)) (eC (.int 20))) (eIsi .lst (eMet "names" [("Disk", f_Disk_names_2)] (eV 1) (aNil))))))))
noncomputable def f_law_14_S : { f : FW // f = f_law_14_B } := Classical.choice ⟨⟨_, rfl⟩⟩
noncomputable def f_law_14 : FW := f_law_14_S.1
theorem f_law_14_eq : f_law_14 = f_law_14_B := f_law_14_S.2
end Q
namespace K12
open PySem PySem.Spec PyProof.Rows L2 Evl Q
section
variable {P : Program} {w : World} {K : Frag} {mg : Str → Option Value} {base : Heap}
theorem sc_is_name : FnScope ["value", "character"] ["value"] (defScope s_is_name) := ⟨rfl, rfl, rfl, by decide +kernel, rfl, by decide +kernel, by decide +kernel⟩
theorem ok_is_name {f : Addr} {fd : FuncData} (F : FnM K "is_name" "is_name" s_is_name f fd) (z_len : mg "len" = none) (c_MOST_NAME : ∃ t, mg "MOST_NAME" = some (.int 20 t)) (z_isinstance : mg "isinstance" = none) (z_str : mg "str" = none) :
    FnOk P w K mg base (L2N.CX P w) 1 f fd ["value"] (spF K f_is_name) := by
  rw [f_is_name_eq]
  exact fn_w F sc_is_name (by decide) fun cdv A outer s H E hr tk po pa => (qss_cons (qs_if (QW.qt (qw_or (qt_not (qt_val (qe_isi .str (by rfl) z_isinstance (by rfl) z_str (by decide +kernel) (qv 0)))) (qw_or1 (qt_not (qt_chain opU_le opU_le qe_int (qe_b cb_len (by rfl) z_len (by decide +kernel) (qa_cons (qv 0) qa_nil)) (qe_gint (by rfl) c_MOST_NAME)))))) (qss_one (qs_ret qe_bl)) qss_nil)
      (qss_cons (qs_for po (by rfl) (qi_seq (qv 0)) (qg_name (i := 1) sc_is_name.nd rfl (Or.inl rfl)) (qss_one (qs_if (QW.qt (qw_and (qt_cmp (opU_neq hr.units) (qv 1) qe_str (nomark _)) (qw_and1 (qt_not (qt_chain opU_le opU_le qe_str (qv 1) qe_str))))) (qss_one (qs_ret qe_bl)) qss_nil)))
      (qss_one (qs_ret qe_bl))))
theorem sc_Disk___init__ : FnScope ["self"] ["self"] (defScope s_Disk___init__) := ⟨rfl, rfl, rfl, by decide +kernel, rfl, by decide +kernel, by decide +kernel⟩
theorem ok_Disk___init__ {f : Addr} {fd : FuncData} (F : FnM K "__init__" "Disk.__init__" s_Disk___init__ f fd) (l_Disk : Cls K (He.ga K "Disk")) (n_Disk__files : NoAttr K (He.ga K "Disk") "_files") (n_Disk__left : NoAttr K (He.ga K "Disk") "_left") (n_Disk__crashed : NoAttr K (He.ga K "Disk") "_crashed") :
    FnOk P w K mg base (L2N.CX P w) 1 f fd ["self"] (spF K f_Disk___init__) := by
  rw [f_Disk___init___eq]
  exact fn_w F sc_Disk___init__ (by decide) fun cdv A outer s H E hr tk po pa => (qss_cons (qs_fld (fld1 l_Disk n_Disk__files) (qv 0) qe_dk rfl)
      (qss_cons (qs_fld (fld1 l_Disk n_Disk__left) (qv 0) qe_non rfl)
      (qss_one (qs_fld (fld1 l_Disk n_Disk__crashed) (qv 0) qe_bl rfl))))
theorem sc_Disk_names : FnScope ["self"] ["self"] (defScope s_Disk_names) := ⟨rfl, rfl, rfl, by decide +kernel, rfl, by decide +kernel, by decide +kernel⟩
theorem ok_Disk_names {f : Addr} {fd : FuncData} (F : FnM K "names" "Disk.names" s_Disk_names f fd) (z_sorted : mg "sorted" = none) (l_Disk : Cls K (He.ga K "Disk")) (n_Disk__files : NoAttr K (He.ga K "Disk") "_files") :
    FnOk P w K mg base (L2N.CX P w) 1 f fd ["self"] (spF K f_Disk_names_2) := by
  rw [f_Disk_names_2_eq]
  exact fn_w F sc_Disk_names (by decide) fun cdv A outer s H E hr tk po pa => (qss_one (qs_ret (qe_b (cb_sdSR rfl) (by rfl) z_sorted (by decide +kernel) (qa_cons (qe_fld (fld1 l_Disk n_Disk__files) (qv 0) rfl) qa_nil))))
theorem sc_Disk__check_up : FnScope ["self"] ["self"] (defScope s_Disk__check_up) := ⟨rfl, rfl, rfl, by decide +kernel, rfl, by decide +kernel, by decide +kernel⟩
theorem ok_Disk__check_up {f : Addr} {fd : FuncData} (F : FnM K "_check_up" "Disk._check_up" s_Disk__check_up f fd) (l_Disk : Cls K (He.ga K "Disk")) (n_Disk__crashed : NoAttr K (He.ga K "Disk") "_crashed") (x_DiskCrashed : ExcQ K mg "DiskCrashed") :
    FnOk P w K mg base (L2N.CX P w) 1 f fd ["self"] (spF K f_Disk__check_up) := by
  rw [f_Disk__check_up_eq]
  exact fn_w F sc_Disk__check_up (by decide) fun cdv A outer s H E hr tk po pa => (qss_one (qs_if (qt_val (qe_fld (fld1 l_Disk n_Disk__crashed) (qv 0) rfl)) (qss_one (qs_raise x_DiskCrashed (by rfl) tk (by rfl))) qss_nil))
theorem sc_Disk__check_file : FnScope ["self", "name"] ["self", "name"] (defScope s_Disk__check_file) := ⟨rfl, rfl, rfl, by decide +kernel, rfl, by decide +kernel, by decide +kernel⟩
theorem ok_Disk__check_file {f : Addr} {fd : FuncData} (F : FnM K "_check_file" "Disk._check_file" s_Disk__check_file f fd) (M_Disk__check_up : MetQ P w K mg base 1 "Disk" "_check_up" ["self"] f_Disk__check_up) (l_Disk : Cls K (He.ga K "Disk")) (n_Disk__files : NoAttr K (He.ga K "Disk") "_files") (D_is_name : DefQ P w K mg base 1 "is_name" ["value"] f_is_name) (x_DiskError : ExcQ K mg "DiskError") :
    FnOk P w K mg base (L2N.CX P w) 2 f fd ["self", "name"] (spF K f_Disk__check_file) := by
  rw [f_Disk__check_file_eq]
  exact fn_w F sc_Disk__check_file (by decide) fun cdv A outer s H E hr tk po pa => (qss_cons (qs_expr (qe_met0 tk.px (mets1 M_Disk__check_up) (hr.mono (by decide)) (qv 0)))
      (qss_one (qs_if (QW.qt (qw_or (qt_not (qt_val (qe_call tk.px D_is_name (hr.mono (by decide)) (by rfl) (qa_cons (qv 1) qa_nil)))) (qw_or1 (qt_cmp (opU_nin hr.units) (qv 1) (qe_fld (fld1 l_Disk n_Disk__files) (qv 0) rfl) (by rfl))))) (qss_one (qs_raise x_DiskError (by rfl) tk (by rfl))) qss_nil)))
theorem sc_Disk_read : FnScope ["self", "name", "durable", "waiting"] ["self", "name"] (defScope s_Disk_read) := ⟨rfl, rfl, rfl, by decide +kernel, rfl, by decide +kernel, by decide +kernel⟩
theorem ok_Disk_read {f : Addr} {fd : FuncData} (F : FnM K "read" "Disk.read" s_Disk_read f fd) (M_Disk__check_file : MetQ P w K mg base 2 "Disk" "_check_file" ["self", "name"] f_Disk__check_file) (l_Disk : Cls K (He.ga K "Disk")) (n_Disk__files : NoAttr K (He.ga K "Disk") "_files") :
    FnOk P w K mg base (L2N.CX P w) 3 f fd ["self", "name"] (spF K f_Disk_read) := by
  rw [f_Disk_read_eq]
  exact fn_w F sc_Disk_read (by decide) fun cdv A outer s H E hr tk po pa => (qss_cons (qs_expr (qe_met tk.px (mets1 M_Disk__check_file) (hr.mono (by decide)) (qv 0) (qa_cons (qv 1) qa_nil)))
      (qss_cons (qs_asg (qe_ix hr.units (qe_fld (fld1 l_Disk n_Disk__files) (qv 0) rfl) (qv 1) (fun _ _ => rfl)) (qg_tup (by rfl) (qgs_cons (qg_name (i := 2) sc_Disk_read.nd rfl (Or.inl rfl)) (qgs_cons (qg_name (i := 3) sc_Disk_read.nd rfl (Or.inl rfl)) qgs_nil))))
      (qss_one (qs_ret (qe_op opU_add (qv 2) (qv 3))))))
theorem sc_Disk__operate : FnScope ["self"] ["self"] (defScope s_Disk__operate) := ⟨rfl, rfl, rfl, by decide +kernel, rfl, by decide +kernel, by decide +kernel⟩
theorem ok_Disk__operate {f : Addr} {fd : FuncData} (F : FnM K "_operate" "Disk._operate" s_Disk__operate f fd) (l_Disk : Cls K (He.ga K "Disk")) (n_Disk__left : NoAttr K (He.ga K "Disk") "_left") (n_Disk__crashed : NoAttr K (He.ga K "Disk") "_crashed") (x_DiskCrashed : ExcQ K mg "DiskCrashed") :
    FnOk P w K mg base (L2N.CX P w) 1 f fd ["self"] (spF K f_Disk__operate) := by
  rw [f_Disk__operate_eq]
  exact fn_w F sc_Disk__operate (by decide) fun cdv A outer s H E hr tk po pa => (qss_cons (qs_if (qt_cmp opU_is (qe_fld (fld1 l_Disk n_Disk__left) (qv 0) rfl) qe_non (nomark _)) (qss_one qs_retN) qss_nil)
      (qss_cons (qs_if (qt_cmp (opU_equ hr.units) (qe_fld (fld1 l_Disk n_Disk__left) (qv 0) rfl) qe_int (nomark _)) (qss_cons (qs_fld (fld1 l_Disk n_Disk__crashed) (qv 0) qe_bl rfl)
      (qss_one (qs_raise x_DiskCrashed (by rfl) tk (by rfl)))) qss_nil)
      (qss_one (qs_fld (fld1 l_Disk n_Disk__left) (qv 0) (qe_op opU_sub (qe_fld (fld1 l_Disk n_Disk__left) (qv 0) rfl) qe_int) rfl))))
theorem sc_Disk_append : FnScope ["self", "name", "text", "durable", "waiting"] ["self", "name", "text"] (defScope s_Disk_append) := ⟨rfl, rfl, rfl, by decide +kernel, rfl, by decide +kernel, by decide +kernel⟩
theorem ok_Disk_append {f : Addr} {fd : FuncData} (F : FnM K "append" "Disk.append" s_Disk_append f fd) (M_Disk__check_up : MetQ P w K mg base 1 "Disk" "_check_up" ["self"] f_Disk__check_up) (z_isinstance : mg "isinstance" = none) (z_str : mg "str" = none) (D_is_name : DefQ P w K mg base 1 "is_name" ["value"] f_is_name) (x_DiskError : ExcQ K mg "DiskError") (M_Disk__operate : MetQ P w K mg base 1 "Disk" "_operate" ["self"] f_Disk__operate) (l_Disk : Cls K (He.ga K "Disk")) (n_Disk__files : NoAttr K (He.ga K "Disk") "_files") :
    FnOk P w K mg base (L2N.CX P w) 2 f fd ["self", "name", "text"] (spF K f_Disk_append) := by
  rw [f_Disk_append_eq]
  exact fn_w F sc_Disk_append (by decide) fun cdv A outer s H E hr tk po pa => (qss_cons (qs_expr (qe_met0 tk.px (mets1 M_Disk__check_up) (hr.mono (by decide)) (qv 0)))
      (qss_cons (qs_if (QW.qt (qw_or (qt_not (qt_val (qe_call tk.px D_is_name (hr.mono (by decide)) (by rfl) (qa_cons (qv 1) qa_nil)))) (qw_or1 (qt_not (qt_val (qe_isi .str (by rfl) z_isinstance (by rfl) z_str (by decide +kernel) (qv 2))))))) (qss_one (qs_raise x_DiskError (by rfl) tk (by rfl))) qss_nil)
      (qss_cons (qs_expr (qe_met0 tk.px (mets1 M_Disk__operate) (hr.mono (by decide)) (qv 0)))
      (qss_cons (qs_asg (qe_get2 (hu_of hr) (qe_fld (fld1 l_Disk n_Disk__files) (qv 0) rfl) (qv 1) (qe_tup (qa_cons qe_str (qa_cons qe_str qa_nil))) ⟨by rfl, by rfl, by rfl, by rfl⟩) (qg_tup (by rfl) (qgs_cons (qg_name (i := 3) sc_Disk_append.nd rfl (Or.inl rfl)) (qgs_cons (qg_name (i := 4) sc_Disk_append.nd rfl (Or.inl rfl)) qgs_nil))))
      (qss_one (qs_put (hu_of hr) (qe_fld (fld1 l_Disk n_Disk__files) (qv 0) rfl) (qv 1) (qe_tup (qa_cons (qv 3) (qa_cons (qe_op opU_add (qv 4) (qv 2)) qa_nil)))))))))
theorem sc_Disk_sync : FnScope ["self", "name", "durable", "waiting"] ["self", "name"] (defScope s_Disk_sync) := ⟨rfl, rfl, rfl, by decide +kernel, rfl, by decide +kernel, by decide +kernel⟩
theorem ok_Disk_sync {f : Addr} {fd : FuncData} (F : FnM K "sync" "Disk.sync" s_Disk_sync f fd) (M_Disk__check_file : MetQ P w K mg base 2 "Disk" "_check_file" ["self", "name"] f_Disk__check_file) (M_Disk__operate : MetQ P w K mg base 1 "Disk" "_operate" ["self"] f_Disk__operate) (l_Disk : Cls K (He.ga K "Disk")) (n_Disk__files : NoAttr K (He.ga K "Disk") "_files") :
    FnOk P w K mg base (L2N.CX P w) 3 f fd ["self", "name"] (spF K f_Disk_sync) := by
  rw [f_Disk_sync_eq]
  exact fn_w F sc_Disk_sync (by decide) fun cdv A outer s H E hr tk po pa => (qss_cons (qs_expr (qe_met tk.px (mets1 M_Disk__check_file) (hr.mono (by decide)) (qv 0) (qa_cons (qv 1) qa_nil)))
      (qss_cons (qs_expr (qe_met0 tk.px (mets1 M_Disk__operate) (hr.mono (by decide)) (qv 0)))
      (qss_cons (qs_asg (qe_ix hr.units (qe_fld (fld1 l_Disk n_Disk__files) (qv 0) rfl) (qv 1) (fun _ _ => rfl)) (qg_tup (by rfl) (qgs_cons (qg_name (i := 2) sc_Disk_sync.nd rfl (Or.inl rfl)) (qgs_cons (qg_name (i := 3) sc_Disk_sync.nd rfl (Or.inl rfl)) qgs_nil))))
      (qss_one (qs_put (hu_of hr) (qe_fld (fld1 l_Disk n_Disk__files) (qv 0) rfl) (qv 1) (qe_tup (qa_cons (qe_op opU_add (qv 2) (qv 3)) (qa_cons qe_str qa_nil))))))))
theorem sc_Disk_remove : FnScope ["self", "name"] ["self", "name"] (defScope s_Disk_remove) := ⟨rfl, rfl, rfl, by decide +kernel, rfl, by decide +kernel, by decide +kernel⟩
theorem ok_Disk_remove {f : Addr} {fd : FuncData} (F : FnM K "remove" "Disk.remove" s_Disk_remove f fd) (M_Disk__check_file : MetQ P w K mg base 2 "Disk" "_check_file" ["self", "name"] f_Disk__check_file) (M_Disk__operate : MetQ P w K mg base 1 "Disk" "_operate" ["self"] f_Disk__operate) (l_Disk : Cls K (He.ga K "Disk")) (n_Disk__files : NoAttr K (He.ga K "Disk") "_files") :
    FnOk P w K mg base (L2N.CX P w) 3 f fd ["self", "name"] (spF K f_Disk_remove) := by
  rw [f_Disk_remove_eq]
  exact fn_w F sc_Disk_remove (by decide) fun cdv A outer s H E hr tk po pa => (qss_cons (qs_expr (qe_met tk.px (mets1 M_Disk__check_file) (hr.mono (by decide)) (qv 0) (qa_cons (qv 1) qa_nil)))
      (qss_cons (qs_expr (qe_met0 tk.px (mets1 M_Disk__operate) (hr.mono (by decide)) (qv 0)))
      (qss_one (qs_del (qe_fld (fld1 l_Disk n_Disk__files) (qv 0) rfl) (qv 1)))))
theorem sc_Disk_rename : FnScope ["self", "old", "new", "parts"] ["self", "old", "new"] (defScope s_Disk_rename) := ⟨rfl, rfl, rfl, by decide +kernel, rfl, by decide +kernel, by decide +kernel⟩
theorem ok_Disk_rename {f : Addr} {fd : FuncData} (F : FnM K "rename" "Disk.rename" s_Disk_rename f fd) (M_Disk__check_file : MetQ P w K mg base 2 "Disk" "_check_file" ["self", "name"] f_Disk__check_file) (D_is_name : DefQ P w K mg base 1 "is_name" ["value"] f_is_name) (x_DiskError : ExcQ K mg "DiskError") (M_Disk__operate : MetQ P w K mg base 1 "Disk" "_operate" ["self"] f_Disk__operate) (l_Disk : Cls K (He.ga K "Disk")) (n_Disk__files : NoAttr K (He.ga K "Disk") "_files") :
    FnOk P w K mg base (L2N.CX P w) 3 f fd ["self", "old", "new"] (spF K f_Disk_rename) := by
  rw [f_Disk_rename_eq]
  exact fn_w F sc_Disk_rename (by decide) fun cdv A outer s H E hr tk po pa => (qss_cons (qs_expr (qe_met tk.px (mets1 M_Disk__check_file) (hr.mono (by decide)) (qv 0) (qa_cons (qv 1) qa_nil)))
      (qss_cons (qs_if (qt_not (qt_val (qe_call tk.px D_is_name (hr.mono (by decide)) (by rfl) (qa_cons (qv 2) qa_nil)))) (qss_one (qs_raise x_DiskError (by rfl) tk (by rfl))) qss_nil)
      (qss_cons (qs_expr (qe_met0 tk.px (mets1 M_Disk__operate) (hr.mono (by decide)) (qv 0)))
      (qss_cons (qs_set (i := 3) sc_Disk_rename.nd rfl (Or.inl rfl) (qe_pop1 (qe_fld (fld1 l_Disk n_Disk__files) (qv 0) rfl) (qv 1) ⟨by rfl, by rfl, by rfl, by rfl⟩))
      (qss_one (qs_put (hu_of hr) (qe_fld (fld1 l_Disk n_Disk__files) (qv 0) rfl) (qv 2) (qv 3)))))))
theorem sc_Disk_pending : FnScope ["self", "name"] ["self", "name"] (defScope s_Disk_pending) := ⟨rfl, rfl, rfl, by decide +kernel, rfl, by decide +kernel, by decide +kernel⟩
theorem ok_Disk_pending {f : Addr} {fd : FuncData} (F : FnM K "pending" "Disk.pending" s_Disk_pending f fd) (M_Disk__check_file : MetQ P w K mg base 2 "Disk" "_check_file" ["self", "name"] f_Disk__check_file) (z_len : mg "len" = none) (l_Disk : Cls K (He.ga K "Disk")) (n_Disk__files : NoAttr K (He.ga K "Disk") "_files") :
    FnOk P w K mg base (L2N.CX P w) 3 f fd ["self", "name"] (spF K f_Disk_pending) := by
  rw [f_Disk_pending_eq]
  exact fn_w F sc_Disk_pending (by decide) fun cdv A outer s H E hr tk po pa => (qss_cons (qs_expr (qe_met tk.px (mets1 M_Disk__check_file) (hr.mono (by decide)) (qv 0) (qa_cons (qv 1) qa_nil)))
      (qss_one (qs_ret (qe_b cb_len (by rfl) z_len (by decide +kernel) (qa_cons (qe_ix hr.units (qe_ix hr.units (qe_fld (fld1 l_Disk n_Disk__files) (qv 0) rfl) (qv 1) (fun _ _ => rfl)) qe_int (fun _ _ => rfl)) qa_nil)))))
theorem sc_Disk_arm : FnScope ["self", "count"] ["self", "count"] (defScope s_Disk_arm) := ⟨rfl, rfl, rfl, by decide +kernel, rfl, by decide +kernel, by decide +kernel⟩
theorem ok_Disk_arm {f : Addr} {fd : FuncData} (F : FnM K "arm" "Disk.arm" s_Disk_arm f fd) (l_Disk : Cls K (He.ga K "Disk")) (n_Disk__left : NoAttr K (He.ga K "Disk") "_left") :
    FnOk P w K mg base (L2N.CX P w) 1 f fd ["self", "count"] (spF K f_Disk_arm) := by
  rw [f_Disk_arm_eq]
  exact fn_w F sc_Disk_arm (by decide) fun cdv A outer s H E hr tk po pa => (qss_one (qs_fld (fld1 l_Disk n_Disk__left) (qv 0) (qv 1) rfl))
theorem sc_Disk_crash : FnScope ["self", "keeps", "at", "name", "durable", "waiting", "kept"] ["self", "keeps"] (defScope s_Disk_crash) := ⟨rfl, rfl, rfl, by decide +kernel, rfl, by decide +kernel, by decide +kernel⟩
theorem ok_Disk_crash {f : Addr} {fd : FuncData} (F : FnM K "crash" "Disk.crash" s_Disk_crash f fd) (M_Disk_names : MetQ P w K mg base 1 "Disk" "names" ["self"] f_Disk_names_2) (l_Disk : Cls K (He.ga K "Disk")) (n_Disk__files : NoAttr K (He.ga K "Disk") "_files") (z_len : mg "len" = none) (z_max : mg "max" = none) (n_Disk__left : NoAttr K (He.ga K "Disk") "_left") (n_Disk__crashed : NoAttr K (He.ga K "Disk") "_crashed") :
    FnOk P w K mg base (L2N.CX P w) 2 f fd ["self", "keeps"] (spF K f_Disk_crash_2) := by
  rw [f_Disk_crash_2_eq]
  exact fn_w F sc_Disk_crash (by decide) fun cdv A outer s H E hr tk po pa => (qss_cons (qs_set (i := 2) sc_Disk_crash.nd rfl (Or.inl rfl) qe_int)
      (qss_cons (qs_for po (by rfl) (qi_seq (qe_met0 tk.px (mets1 M_Disk_names) (hr.mono (by decide)) (qv 0))) (qg_name (i := 3) sc_Disk_crash.nd rfl (Or.inl rfl)) (qss_cons (qs_asg (qe_ix hr.units (qe_fld (fld1 l_Disk n_Disk__files) (qv 0) rfl) (qv 3) (fun _ _ => rfl)) (qg_tup (by rfl) (qgs_cons (qg_name (i := 4) sc_Disk_crash.nd rfl (Or.inl rfl)) (qgs_cons (qg_name (i := 5) sc_Disk_crash.nd rfl (Or.inl rfl)) qgs_nil))))
      (qss_one (qs_if (qt_cmp (opU_neq hr.units) (qv 5) qe_str (nomark _)) (qss_cons (qs_set (i := 6) sc_Disk_crash.nd rfl (Or.inl rfl) qe_int)
      (qss_jn (qs_if (qt_cmp opU_lt (qv 2) (qe_b cb_len (by rfl) z_len (by decide +kernel) (qa_cons (qv 1) qa_nil)) (nomark _)) (qss_one (qs_set (i := 6) sc_Disk_crash.nd rfl (Or.inl rfl) (qe_b (cb_max rfl) (by rfl) z_max (by decide +kernel) (qa_cons qe_int (qa_cons (qe_ix hr.units (qv 1) (qv 2) (fun _ _ => rfl)) qa_nil))))) qss_nil)
      (qss_cons (qs_put (hu_of hr) (qe_fld (fld1 l_Disk n_Disk__files) (qv 0) rfl) (qv 3) (qe_tup (qa_cons (qe_op opU_add (qv 4) (qe_sl (qv 5) qo_none (qo_some (qv 6)))) (qa_cons qe_str qa_nil))))
      (qss_one (qs_set (i := 2) sc_Disk_crash.nd rfl (Or.inl rfl) (qe_op opU_add (qv 2) qe_int)))))) qss_nil))))
      (qss_cons (qs_fld (fld1 l_Disk n_Disk__left) (qv 0) qe_non rfl)
      (qss_one (qs_fld (fld1 l_Disk n_Disk__crashed) (qv 0) qe_bl rfl)))))
theorem sc__law_cell : FnScope ["script", "k"] ["script", "k"] (defScope s__law_cell) := ⟨rfl, rfl, rfl, by decide +kernel, rfl, by decide +kernel, by decide +kernel⟩
theorem ok__law_cell {f : Addr} {fd : FuncData} (F : FnM K "_law_cell" "_law_cell" s__law_cell f fd) (z_len : mg "len" = none) :
    FnOk P w K mg base (L2N.CX P w) 1 f fd ["script", "k"] (spF K f__law_cell) := by
  rw [f__law_cell_eq]
  exact fn_w F sc__law_cell (by decide) fun cdv A outer s H E hr tk po pa => (qss_cons (qs_if (qt_cmp opU_lt (qv 1) (qe_b cb_len (by rfl) z_len (by decide +kernel) (qa_cons (qv 0) qa_nil)) (nomark _)) (qss_one (qs_ret (qe_ix hr.units (qv 0) (qv 1) (fun _ _ => rfl)))) qss_nil)
      (qss_one (qs_ret qe_int)))
theorem sc__law_name : FnScope ["cell"] ["cell"] (defScope s__law_name) := ⟨rfl, rfl, rfl, by decide +kernel, rfl, by decide +kernel, by decide +kernel⟩
theorem ok__law_name {f : Addr} {fd : FuncData} (F : FnM K "_law_name" "_law_name" s__law_name f fd) (z_int : mg "int" = none) :
    FnOk P w K mg base (L2N.CX P w) 1 f fd ["cell"] (spF K f__law_name) := by
  rw [f__law_name_eq]
  exact fn_w F sc__law_name (by decide) fun cdv A outer s H E hr tk po pa => (qss_cons (qs_if (qt_cmp (opU_equ hr.units) (qe_op opU_mod (qe_ty cb_int (by rfl) z_int (by decide +kernel) (qa_cons (qv 0) qa_nil)) qe_int) qe_int (nomark _)) (qss_one (qs_ret (qe_ix hr.units (qe_lV (qa_cons qe_str (qa_cons (qe_op opU_mul qe_str qe_int) (qa_cons qe_str (qa_cons qe_str (qa_cons qe_str (qa_cons qe_str qa_nil))))))) (qe_op opU_mod (qe_ty cb_int (by rfl) z_int (by decide +kernel) (qa_cons (qe_op opU_fdv (qv 0) qe_int) qa_nil)) qe_int) (fun _ _ => rfl)))) qss_nil)
      (qss_one (qs_ret (qe_ix hr.units (qe_lV (qa_cons qe_str (qa_cons qe_str (qa_cons (qe_op opU_mul qe_str qe_int) qa_nil)))) (qe_op opU_mod (qe_ty cb_int (by rfl) z_int (by decide +kernel) (qa_cons (qv 0) qa_nil)) qe_int) (fun _ _ => rfl)))))
theorem sc__law_keeps : FnScope ["cell", "keeps", "k"] ["cell"] (defScope s__law_keeps) := ⟨rfl, rfl, rfl, by decide +kernel, rfl, by decide +kernel, by decide +kernel⟩
theorem ok__law_keeps {f : Addr} {fd : FuncData} (F : FnM K "_law_keeps" "_law_keeps" s__law_keeps f fd) (z_range : mg "range" = none) (z_int : mg "int" = none) :
    FnOk P w K mg base (L2N.CX P w) 1 f fd ["cell"] (spF K f__law_keeps) := by
  rw [f__law_keeps_eq]
  exact fn_w F sc__law_keeps (by decide) fun cdv A outer s H E hr tk po pa => (qss_cons (qs_set (i := 1) sc__law_keeps.nd rfl (Or.inl rfl) (qe_lR qa_nil))
      (qss_cons (qs_for po (by rfl) (qi_range1 (by rfl) z_range (qa_cons (qe_op opU_mod (qe_ty cb_int (by rfl) z_int (by decide +kernel) (qa_cons (qv 0) qa_nil)) qe_int) qa_nil)) (qg_name (i := 2) sc__law_keeps.nd rfl (Or.inl rfl)) (qss_cons (qs_set (i := 0) sc__law_keeps.nd rfl (Or.inl rfl) (qe_op opU_fdv (qv 0) qe_int))
      (qss_one (qs_expr (qe_bm tym_l PySem.F.plainAttrs_list PySem.F.slot_list_append PySem.F.type_list_append mU_app (qv 1) (qa_cons (qe_op opU_sub (qe_op opU_mod (qe_ty cb_int (by rfl) z_int (by decide +kernel) (qa_cons (qv 0) qa_nil)) qe_int) qe_int) qa_nil))))))
      (qss_one (qs_ret (qv 1)))))
theorem sc__law_act : FnScope ["disk", "deed", "error"] ["disk", "deed"] (defScope s__law_act) := ⟨rfl, rfl, rfl, by decide +kernel, rfl, by decide +kernel, by decide +kernel⟩
theorem ok__law_act {f : Addr} {fd : FuncData} (F : FnM K "_law_act" "_law_act" s__law_act f fd) (M_Disk_append : MetQ P w K mg base 2 "Disk" "append" ["self", "name", "text"] f_Disk_append) (M_Disk_sync : MetQ P w K mg base 3 "Disk" "sync" ["self", "name"] f_Disk_sync) (M_Disk_read : MetQ P w K mg base 3 "Disk" "read" ["self", "name"] f_Disk_read) (M_Disk_rename : MetQ P w K mg base 3 "Disk" "rename" ["self", "old", "new"] f_Disk_rename) (M_Disk_remove : MetQ P w K mg base 3 "Disk" "remove" ["self", "name"] f_Disk_remove) (M_Disk_pending : MetQ P w K mg base 3 "Disk" "pending" ["self", "name"] f_Disk_pending) (M_Disk_arm : MetQ P w K mg base 1 "Disk" "arm" ["self", "count"] f_Disk_arm) (z_list : mg "list" = none) (M_Disk_crash : MetQ P w K mg base 2 "Disk" "crash" ["self", "keeps"] f_Disk_crash_2) (x_DiskError : ExcQ K mg "DiskError") (em_DiskError : ExmQ K ["TableError", "DiskError", "DiskCrashed"] (.ref (He.ga K "DiskError")) ["DiskError"]) (x_DiskCrashed : ExcQ K mg "DiskCrashed") (em_DiskCrashed : ExmQ K ["TableError", "DiskError", "DiskCrashed"] (.ref (He.ga K "DiskCrashed")) ["DiskCrashed"]) (z_isinstance : mg "isinstance" = none) (I_DiskError_DiskCrashed : IsfL K "DiskError" [("DiskCrashed", false)]) :
    FnOk P w K mg base (L2N.CX P w) 4 f fd ["disk", "deed"] (spF K f__law_act) := by
  rw [f__law_act_eq]
  exact fn_w F sc__law_act (by decide) fun cdv A outer s H E hr tk po pa => (qss_one (qs_tryA rfl rfl sc__law_act.nd tk (fun W pn xe tk po => (qss_cons (qs_if (qt_cmp (opU_equ hr.units) (qe_ix hr.units (qv 1) qe_int (fun _ _ => rfl)) qe_str (nomark _)) (qss_one (qs_ret (qe_tup (qa_cons qe_str (qa_cons (qe_met tk.px (mets1 M_Disk_append) (hr.mono (by decide)) (qv 0) (qa_cons (qe_ix hr.units (qv 1) qe_int (fun _ _ => rfl)) (qa_cons (qe_ix hr.units (qv 1) qe_int (fun _ _ => rfl)) qa_nil))) qa_nil))))) qss_nil)
      (qss_cons (qs_if (qt_cmp (opU_equ hr.units) (qe_ix hr.units (qv 1) qe_int (fun _ _ => rfl)) qe_str (nomark _)) (qss_one (qs_ret (qe_tup (qa_cons qe_str (qa_cons (qe_met tk.px (mets1 M_Disk_sync) (hr.mono (by decide)) (qv 0) (qa_cons (qe_ix hr.units (qv 1) qe_int (fun _ _ => rfl)) qa_nil)) qa_nil))))) qss_nil)
      (qss_cons (qs_if (qt_cmp (opU_equ hr.units) (qe_ix hr.units (qv 1) qe_int (fun _ _ => rfl)) qe_str (nomark _)) (qss_one (qs_ret (qe_tup (qa_cons qe_str (qa_cons (qe_met tk.px (mets1 M_Disk_read) (hr.mono (by decide)) (qv 0) (qa_cons (qe_ix hr.units (qv 1) qe_int (fun _ _ => rfl)) qa_nil)) qa_nil))))) qss_nil)
      (qss_cons (qs_if (qt_cmp (opU_equ hr.units) (qe_ix hr.units (qv 1) qe_int (fun _ _ => rfl)) qe_str (nomark _)) (qss_one (qs_ret (qe_tup (qa_cons qe_str (qa_cons (qe_met tk.px (mets1 M_Disk_rename) (hr.mono (by decide)) (qv 0) (qa_cons (qe_ix hr.units (qv 1) qe_int (fun _ _ => rfl)) (qa_cons (qe_ix hr.units (qv 1) qe_int (fun _ _ => rfl)) qa_nil))) qa_nil))))) qss_nil)
      (qss_cons (qs_if (qt_cmp (opU_equ hr.units) (qe_ix hr.units (qv 1) qe_int (fun _ _ => rfl)) qe_str (nomark _)) (qss_one (qs_ret (qe_tup (qa_cons qe_str (qa_cons (qe_met tk.px (mets1 M_Disk_remove) (hr.mono (by decide)) (qv 0) (qa_cons (qe_ix hr.units (qv 1) qe_int (fun _ _ => rfl)) qa_nil)) qa_nil))))) qss_nil)
      (qss_cons (qs_if (qt_cmp (opU_equ hr.units) (qe_ix hr.units (qv 1) qe_int (fun _ _ => rfl)) qe_str (nomark _)) (qss_one (qs_ret (qe_tup (qa_cons qe_str (qa_cons (qe_met tk.px (mets1 M_Disk_pending) (hr.mono (by decide)) (qv 0) (qa_cons (qe_ix hr.units (qv 1) qe_int (fun _ _ => rfl)) qa_nil)) qa_nil))))) qss_nil)
      (qss_cons (qs_if (qt_cmp (opU_equ hr.units) (qe_ix hr.units (qv 1) qe_int (fun _ _ => rfl)) qe_str (nomark _)) (qss_one (qs_ret (qe_tup (qa_cons qe_str (qa_cons (qe_met tk.px (mets1 M_Disk_arm) (hr.mono (by decide)) (qv 0) (qa_cons (qe_ix hr.units (qv 1) qe_int (fun _ _ => rfl)) qa_nil)) qa_nil))))) qss_nil)
      (qss_one (qs_ret (qe_tup (qa_cons qe_str (qa_cons (qe_met tk.px (mets1 M_Disk_crash) (hr.mono (by decide)) (qv 0) (qa_cons (qe_ty cb_lsV (by rfl) z_list (by decide +kernel) (qa_cons (qe_ix hr.units (qv 1) qe_int (fun _ _ => rfl)) qa_nil)) qa_nil)) qa_nil))))))))))))) (qha_cons (o := some (2, "error")) ⟨rfl, by decide, .inl x_DiskCrashed.gC⟩ em_DiskCrashed (fun i n e => by cases e; exact ⟨rfl, rfl⟩) (fun a oe cx d pn hcx hz hf => (qss_cons (qs_if (qt_val (qe_ise hz hf I_DiskError_DiskCrashed hcx (by rfl) z_isinstance (by rfl) x_DiskError.gC (qv 2))) (qss_one (qs_ret (qe_tup (qa_cons qe_str (qa_cons qe_non qa_nil))))) qss_nil)
      (qss_one (qs_ret (qe_tup (qa_cons qe_str (qa_cons qe_non qa_nil))))))) (qha_cons (o := none) ⟨rfl, by decide, .inl x_DiskError.gC⟩ em_DiskError (fun i n e => by cases e) (fun a oe cx d pn hcx hz hf => (qss_one (qs_ret (qe_tup (qa_cons qe_str (qa_cons qe_non qa_nil)))))) qha_nil))))
theorem sc__law_good : FnScope ["name", "sign"] ["name"] (defScope s__law_good) := ⟨rfl, rfl, rfl, by decide +kernel, rfl, by decide +kernel, by decide +kernel⟩
theorem ok__law_good {f : Addr} {fd : FuncData} (F : FnM K "_law_good" "_law_good" s__law_good f fd) (z_len : mg "len" = none) :
    FnOk P w K mg base (L2N.CX P w) 1 f fd ["name"] (spF K f__law_good) := by
  rw [f__law_good_eq]
  exact fn_w F sc__law_good (by decide) fun cdv A outer s H E hr tk po pa => (qss_cons (qs_if (qt_not (qt_chain opU_le opU_le qe_int (qe_b cb_len (by rfl) z_len (by decide +kernel) (qa_cons (qv 0) qa_nil)) qe_int)) (qss_one (qs_ret qe_bl)) qss_nil)
      (qss_cons (qs_for po (by rfl) (qi_seq (qv 0)) (qg_name (i := 1) sc__law_good.nd rfl (Or.inl rfl)) (qss_one (qs_if (qt_cmp (opU_nin hr.units) (qv 1) qe_str (by rfl)) (qss_one (qs_ret qe_bl)) qss_nil)))
      (qss_one (qs_ret qe_bl))))
theorem sc__law_crash : FnScope ["state", "keeps", "at", "name", "files", "durable", "pending", "keep"] ["state", "keeps"] (defScope s__law_crash) := ⟨rfl, rfl, rfl, by decide +kernel, rfl, by decide +kernel, by decide +kernel⟩
theorem ok__law_crash {f : Addr} {fd : FuncData} (F : FnM K "_law_crash" "_law_crash" s__law_crash f fd) (z_sorted : mg "sorted" = none) (z_len : mg "len" = none) (z_max : mg "max" = none) :
    FnOk P w K mg base (L2N.CX P w) 1 f fd ["state", "keeps"] (spF K f__law_crash_2) := by
  rw [f__law_crash_2_eq]
  exact fn_w F sc__law_crash (by decide) fun cdv A outer s H E hr tk po pa => (qss_cons (qs_set (i := 2) sc__law_crash.nd rfl (Or.inl rfl) qe_int)
      (qss_cons (qs_for po (by rfl) (qi_seq (qe_b (cb_sdS rfl) (by rfl) z_sorted (by decide +kernel) (qa_cons (qe_ix hr.units (qv 0) qe_str (fun _ _ => rfl)) qa_nil))) (qg_name (i := 3) sc__law_crash.nd rfl (Or.inl rfl)) (qss_cons (qs_asg (qe_ix hr.units (qe_ix hr.units (qv 0) qe_str (fun _ _ => rfl)) (qv 3) (fun _ _ => rfl)) (qg_tup (by rfl) (qgs_cons (qg_name (i := 5) sc__law_crash.nd rfl (Or.inl rfl)) (qgs_cons (qg_name (i := 6) sc__law_crash.nd rfl (Or.inl rfl)) qgs_nil))))
      (qss_cons (qs_set (i := 4) sc__law_crash.nd rfl (Or.inl rfl) (qe_ix hr.units (qv 0) qe_str (fun _ _ => rfl)))
      (qss_one (qs_if (qt_cmp (opU_neq hr.units) (qv 6) qe_str (nomark _)) (qss_cons (qs_set (i := 7) sc__law_crash.nd rfl (Or.inl rfl) qe_int)
      (qss_jn (qs_if (qt_cmp opU_lt (qv 2) (qe_b cb_len (by rfl) z_len (by decide +kernel) (qa_cons (qv 1) qa_nil)) (nomark _)) (qss_one (qs_set (i := 7) sc__law_crash.nd rfl (Or.inl rfl) (qe_b (cb_max rfl) (by rfl) z_max (by decide +kernel) (qa_cons qe_int (qa_cons (qe_ix hr.units (qv 1) (qv 2) (fun _ _ => rfl)) qa_nil))))) qss_nil)
      (qss_cons (qs_set (i := 2) sc__law_crash.nd rfl (Or.inl rfl) (qe_op opU_add (qv 2) qe_int))
      (qss_one (qs_put (hu_of hr) (qv 4) (qv 3) (qe_tup (qa_cons (qe_op opU_add (qv 5) (qe_sl (qv 6) qo_none (qo_some (qv 7)))) (qa_cons qe_str qa_nil)))))))) qss_nil)))))
      (qss_cons (qs_put (hu_of hr) (qv 0) qe_str qe_non)
      (qss_one (qs_put (hu_of hr) (qv 0) qe_str qe_bl)))))
theorem sc__law_passes : FnScope ["state"] ["state"] (defScope s__law_passes) := ⟨rfl, rfl, rfl, by decide +kernel, rfl, by decide +kernel, by decide +kernel⟩
theorem ok__law_passes {f : Addr} {fd : FuncData} (F : FnM K "_law_passes" "_law_passes" s__law_passes f fd)  :
    FnOk P w K mg base (L2N.CX P w) 1 f fd ["state"] (spF K f__law_passes) := by
  rw [f__law_passes_eq]
  exact fn_w F sc__law_passes (by decide) fun cdv A outer s H E hr tk po pa => (qss_cons (qs_if (qt_cmp opU_is (qe_ix hr.units (qv 0) qe_str (fun _ _ => rfl)) qe_non (nomark _)) (qss_one (qs_ret qe_bl)) qss_nil)
      (qss_cons (qs_if (qt_cmp (opU_equ hr.units) (qe_ix hr.units (qv 0) qe_str (fun _ _ => rfl)) qe_int (nomark _)) (qss_cons (qs_put (hu_of hr) (qv 0) qe_str qe_bl)
      (qss_one (qs_ret qe_bl))) qss_nil)
      (qss_cons (qs_put (hu_of hr) (qv 0) qe_str (qe_op opU_sub (qe_ix hr.units (qv 0) qe_str (fun _ _ => rfl)) qe_int))
      (qss_one (qs_ret qe_bl)))))
theorem sc__law_valid : FnScope ["state", "deed"] ["state", "deed"] (defScope s__law_valid) := ⟨rfl, rfl, rfl, by decide +kernel, rfl, by decide +kernel, by decide +kernel⟩
theorem ok__law_valid {f : Addr} {fd : FuncData} (F : FnM K "_law_valid" "_law_valid" s__law_valid f fd) (D__law_good : DefQ P w K mg base 1 "_law_good" ["name"] f__law_good) :
    FnOk P w K mg base (L2N.CX P w) 2 f fd ["state", "deed"] (spF K f__law_valid) := by
  rw [f__law_valid_eq]
  exact fn_w F sc__law_valid (by decide) fun cdv A outer s H E hr tk po pa => (qss_cons (qs_if (qt_cmp (opU_equ hr.units) (qe_ix hr.units (qv 1) qe_int (fun _ _ => rfl)) qe_str (nomark _)) (qss_one (qs_ret (qe_call tk.px D__law_good (hr.mono (by decide)) (by rfl) (qa_cons (qe_ix hr.units (qv 1) qe_int (fun _ _ => rfl)) qa_nil)))) qss_nil)
      (qss_cons (qs_if (qt_cmp (opU_nin hr.units) (qe_ix hr.units (qv 1) qe_int (fun _ _ => rfl)) (qe_ix hr.units (qv 0) qe_str (fun _ _ => rfl)) (by rfl)) (qss_one (qs_ret qe_bl)) qss_nil)
      (qss_one (qs_ret (qe_or (qe_cmp (opU_neq hr.units) (qe_ix hr.units (qv 1) qe_int (fun _ _ => rfl)) qe_str (nomark _)) (qe_one (qe_call tk.px D__law_good (hr.mono (by decide)) (by rfl) (qa_cons (qe_ix hr.units (qv 1) qe_int (fun _ _ => rfl)) qa_nil))))))))
theorem sc__law_change : FnScope ["state", "deed", "files", "durable", "pending", "moved"] ["state", "deed"] (defScope s__law_change) := ⟨rfl, rfl, rfl, by decide +kernel, rfl, by decide +kernel, by decide +kernel⟩
theorem ok__law_change {f : Addr} {fd : FuncData} (F : FnM K "_law_change" "_law_change" s__law_change f fd)  :
    FnOk P w K mg base (L2N.CX P w) 1 f fd ["state", "deed"] (spF K f__law_change) := by
  rw [f__law_change_eq]
  exact fn_w F sc__law_change (by decide) fun cdv A outer s H E hr tk po pa => (qss_cons (qs_set (i := 2) sc__law_change.nd rfl (Or.inl rfl) (qe_ix hr.units (qv 0) qe_str (fun _ _ => rfl)))
      (qss_one (qs_if (qt_cmp (opU_equ hr.units) (qe_ix hr.units (qv 1) qe_int (fun _ _ => rfl)) qe_str (nomark _)) (qss_cons (qs_asg (qe_get2 (hu_of hr) (qv 2) (qe_ix hr.units (qv 1) qe_int (fun _ _ => rfl)) (qe_tup (qa_cons qe_str (qa_cons qe_str qa_nil))) ⟨by rfl, by rfl, by rfl, by rfl⟩) (qg_tup (by rfl) (qgs_cons (qg_name (i := 3) sc__law_change.nd rfl (Or.inl rfl)) (qgs_cons (qg_name (i := 4) sc__law_change.nd rfl (Or.inl rfl)) qgs_nil))))
      (qss_one (qs_put (hu_of hr) (qv 2) (qe_ix hr.units (qv 1) qe_int (fun _ _ => rfl)) (qe_tup (qa_cons (qv 3) (qa_cons (qe_op opU_add (qv 4) (qe_ix hr.units (qv 1) qe_int (fun _ _ => rfl))) qa_nil)))))) (qss_one (qs_if (qt_cmp (opU_equ hr.units) (qe_ix hr.units (qv 1) qe_int (fun _ _ => rfl)) qe_str (nomark _)) (qss_one (qs_put (hu_of hr) (qv 2) (qe_ix hr.units (qv 1) qe_int (fun _ _ => rfl)) (qe_tup (qa_cons (qe_op opU_add (qe_ix hr.units (qe_ix hr.units (qv 2) (qe_ix hr.units (qv 1) qe_int (fun _ _ => rfl)) (fun _ _ => rfl)) qe_int (fun _ _ => rfl)) (qe_ix hr.units (qe_ix hr.units (qv 2) (qe_ix hr.units (qv 1) qe_int (fun _ _ => rfl)) (fun _ _ => rfl)) qe_int (fun _ _ => rfl))) (qa_cons qe_str qa_nil))))) (qss_cons (qs_set (i := 5) sc__law_change.nd rfl (Or.inl rfl) (qe_pop1 (qv 2) (qe_ix hr.units (qv 1) qe_int (fun _ _ => rfl)) ⟨by rfl, by rfl, by rfl, by rfl⟩))
      (qss_one (qs_if (qt_cmp (opU_equ hr.units) (qe_ix hr.units (qv 1) qe_int (fun _ _ => rfl)) qe_str (nomark _)) (qss_one (qs_put (hu_of hr) (qv 2) (qe_ix hr.units (qv 1) qe_int (fun _ _ => rfl)) (qv 5))) qss_nil))))))))
theorem sc__law_expect : FnScope ["state", "deed"] ["state", "deed"] (defScope s__law_expect) := ⟨rfl, rfl, rfl, by decide +kernel, rfl, by decide +kernel, by decide +kernel⟩
theorem ok__law_expect {f : Addr} {fd : FuncData} (F : FnM K "_law_expect" "_law_expect" s__law_expect f fd) (D__law_crash : DefQ P w K mg base 1 "_law_crash" ["state", "keeps"] f__law_crash_2) (D__law_valid : DefQ P w K mg base 2 "_law_valid" ["state", "deed"] f__law_valid) (z_len : mg "len" = none) (D__law_passes : DefQ P w K mg base 1 "_law_passes" ["state"] f__law_passes) (D__law_change : DefQ P w K mg base 1 "_law_change" ["state", "deed"] f__law_change) :
    FnOk P w K mg base (L2N.CX P w) 3 f fd ["state", "deed"] (spF K f__law_expect) := by
  rw [f__law_expect_eq]
  exact fn_w F sc__law_expect (by decide) fun cdv A outer s H E hr tk po pa => (qss_cons (qs_if (qt_cmp (opU_equ hr.units) (qe_ix hr.units (qv 1) qe_int (fun _ _ => rfl)) qe_str (nomark _)) (qss_cons (qs_put (hu_of hr) (qv 0) qe_str (qe_ix hr.units (qv 1) qe_int (fun _ _ => rfl)))
      (qss_one (qs_ret (qe_tup (qa_cons qe_str (qa_cons qe_non qa_nil)))))) qss_nil)
      (qss_cons (qs_if (qt_cmp (opU_equ hr.units) (qe_ix hr.units (qv 1) qe_int (fun _ _ => rfl)) qe_str (nomark _)) (qss_cons (qs_expr (qe_call tk.px D__law_crash (hr.mono (by decide)) (by rfl) (qa_cons (qv 0) (qa_cons (qe_ix hr.units (qv 1) qe_int (fun _ _ => rfl)) qa_nil))))
      (qss_one (qs_ret (qe_tup (qa_cons qe_str (qa_cons qe_non qa_nil)))))) qss_nil)
      (qss_cons (qs_if (qt_val (qe_ix hr.units (qv 0) qe_str (fun _ _ => rfl))) (qss_one (qs_ret (qe_tup (qa_cons qe_str (qa_cons qe_non qa_nil))))) qss_nil)
      (qss_cons (qs_if (qt_not (qt_val (qe_call tk.px D__law_valid (hr.mono (by decide)) (by rfl) (qa_cons (qv 0) (qa_cons (qv 1) qa_nil))))) (qss_one (qs_ret (qe_tup (qa_cons qe_str (qa_cons qe_non qa_nil))))) qss_nil)
      (qss_cons (qs_if (qt_cmp (opU_equ hr.units) (qe_ix hr.units (qv 1) qe_int (fun _ _ => rfl)) qe_str (nomark _)) (qss_one (qs_ret (qe_tup (qa_cons qe_str (qa_cons (qe_op opU_add (qe_ix hr.units (qe_ix hr.units (qe_ix hr.units (qv 0) qe_str (fun _ _ => rfl)) (qe_ix hr.units (qv 1) qe_int (fun _ _ => rfl)) (fun _ _ => rfl)) qe_int (fun _ _ => rfl)) (qe_ix hr.units (qe_ix hr.units (qe_ix hr.units (qv 0) qe_str (fun _ _ => rfl)) (qe_ix hr.units (qv 1) qe_int (fun _ _ => rfl)) (fun _ _ => rfl)) qe_int (fun _ _ => rfl))) qa_nil))))) qss_nil)
      (qss_cons (qs_if (qt_cmp (opU_equ hr.units) (qe_ix hr.units (qv 1) qe_int (fun _ _ => rfl)) qe_str (nomark _)) (qss_one (qs_ret (qe_tup (qa_cons qe_str (qa_cons (qe_b cb_len (by rfl) z_len (by decide +kernel) (qa_cons (qe_ix hr.units (qe_ix hr.units (qe_ix hr.units (qv 0) qe_str (fun _ _ => rfl)) (qe_ix hr.units (qv 1) qe_int (fun _ _ => rfl)) (fun _ _ => rfl)) qe_int (fun _ _ => rfl)) qa_nil)) qa_nil))))) qss_nil)
      (qss_cons (qs_if (qt_not (qt_val (qe_call tk.px D__law_passes (hr.mono (by decide)) (by rfl) (qa_cons (qv 0) qa_nil)))) (qss_one (qs_ret (qe_tup (qa_cons qe_str (qa_cons qe_non qa_nil))))) qss_nil)
      (qss_cons (qs_expr (qe_call tk.px D__law_change (hr.mono (by decide)) (by rfl) (qa_cons (qv 0) (qa_cons (qv 1) qa_nil))))
      (qss_one (qs_ret (qe_tup (qa_cons qe_str (qa_cons qe_non qa_nil)))))))))))))
theorem sc__law_deed : FnScope ["cell", "kind", "name"] ["cell"] (defScope s__law_deed) := ⟨rfl, rfl, rfl, by decide +kernel, rfl, by decide +kernel, by decide +kernel⟩
theorem ok__law_deed {f : Addr} {fd : FuncData} (F : FnM K "_law_deed" "_law_deed" s__law_deed f fd) (z_int : mg "int" = none) (D__law_keeps : DefQ P w K mg base 1 "_law_keeps" ["cell"] f__law_keeps) (D__law_name : DefQ P w K mg base 1 "_law_name" ["cell"] f__law_name) :
    FnOk P w K mg base (L2N.CX P w) 2 f fd ["cell"] (spF K f__law_deed_2) := by
  rw [f__law_deed_2_eq]
  exact fn_w F sc__law_deed (by decide) fun cdv A outer s H E hr tk po pa => (qss_cons (qs_set (i := 1) sc__law_deed.nd rfl (Or.inl rfl) (qe_ix hr.units (qe_lV (qa_cons qe_str (qa_cons qe_str (qa_cons qe_str (qa_cons qe_str (qa_cons qe_str (qa_cons qe_str (qa_cons qe_str (qa_cons qe_str (qa_cons qe_str (qa_cons qe_str qa_nil))))))))))) (qe_op opU_mod (qe_ty cb_int (by rfl) z_int (by decide +kernel) (qa_cons (qv 0) qa_nil)) qe_int) (fun _ _ => rfl)))
      (qss_cons (qs_set (i := 0) sc__law_deed.nd rfl (Or.inl rfl) (qe_op opU_fdv (qv 0) qe_int))
      (qss_cons (qs_if (qt_cmp (opU_equ hr.units) (qv 1) qe_str (nomark _)) (qss_one (qs_ret (qe_tup (qa_cons (qv 1) (qa_cons (qe_op opU_mod (qe_ty cb_int (by rfl) z_int (by decide +kernel) (qa_cons (qv 0) qa_nil)) qe_int) qa_nil))))) qss_nil)
      (qss_cons (qs_if (qt_cmp (opU_equ hr.units) (qv 1) qe_str (nomark _)) (qss_one (qs_ret (qe_tup (qa_cons (qv 1) (qa_cons (qe_call tk.px D__law_keeps (hr.mono (by decide)) (by rfl) (qa_cons (qv 0) qa_nil)) qa_nil))))) qss_nil)
      (qss_cons (qs_set (i := 2) sc__law_deed.nd rfl (Or.inl rfl) (qe_call tk.px D__law_name (hr.mono (by decide)) (by rfl) (qa_cons (qv 0) qa_nil)))
      (qss_cons (qs_if (qt_cmp (opU_equ hr.units) (qv 1) qe_str (nomark _)) (qss_one (qs_ret (qe_tup (qa_cons (qv 1) (qa_cons (qv 2) (qa_cons (qe_sl qe_str qo_none (qo_some (qe_op opU_mod (qe_ty cb_int (by rfl) z_int (by decide +kernel) (qa_cons (qe_op opU_fdv (qv 0) qe_int) qa_nil)) qe_int))) qa_nil)))))) qss_nil)
      (qss_one (qs_ret (qe_tup (qa_cons (qv 1) (qa_cons (qv 2) (qa_cons (qe_call tk.px D__law_name (hr.mono (by decide)) (by rfl) (qa_cons (qe_op opU_fdv (qv 0) qe_int) qa_nil)) qa_nil))))))))))))
theorem sc__law_agrees : FnScope ["disk", "state", "names", "name"] ["disk", "state"] (defScope s__law_agrees) := ⟨rfl, rfl, rfl, by decide +kernel, rfl, by decide +kernel, by decide +kernel⟩
theorem ok__law_agrees {f : Addr} {fd : FuncData} (F : FnM K "_law_agrees" "_law_agrees" s__law_agrees f fd) (M_Disk_names : MetQ P w K mg base 1 "Disk" "names" ["self"] f_Disk_names_2) (z_sorted : mg "sorted" = none) (z_isinstance : mg "isinstance" = none) (z_list : mg "list" = none) (M_Disk_read : MetQ P w K mg base 3 "Disk" "read" ["self", "name"] f_Disk_read) (M_Disk_pending : MetQ P w K mg base 3 "Disk" "pending" ["self", "name"] f_Disk_pending) (z_len : mg "len" = none) :
    FnOk P w K mg base (L2N.CX P w) 4 f fd ["disk", "state"] (spF K f__law_agrees) := by
  rw [f__law_agrees_eq]
  exact fn_w F sc__law_agrees (by decide) fun cdv A outer s H E hr tk po pa => (qss_cons (qs_set (i := 2) sc__law_agrees.nd rfl (Or.inl rfl) (qe_met0 tk.px (mets1 M_Disk_names) (hr.mono (by decide)) (qv 0)))
      (qss_cons (qs_if (QW.qt (qw_or (qt_not (qt_val (qe_isi .lst (by rfl) z_isinstance (by rfl) z_list (by decide +kernel) (qv 2)))) (qw_or1 (qt_cmp (opU_neq hr.units) (qv 2) (qe_b (cb_sdS rfl) (by rfl) z_sorted (by decide +kernel) (qa_cons (qe_ix hr.units (qv 1) qe_str (fun _ _ => rfl)) qa_nil)) (nomark _))))) (qss_one (qs_ret qe_bl)) qss_nil)
      (qss_cons (qs_expr (qe_bm tym_l PySem.F.plainAttrs_list PySem.F.slot_list_append PySem.F.type_list_append mU_app (qv 2) (qa_cons qe_str qa_nil)))
      (qss_cons (qs_if (qt_val (qe_ix hr.units (qv 1) qe_str (fun _ _ => rfl))) (qss_one (qs_ret qe_bl)) qss_nil)
      (qss_cons (qs_lock (qs_for po (by rfl) (qi_keys (qe_ix hr.units (qv 1) qe_str (fun _ _ => rfl))) (qg_name (i := 3) sc__law_agrees.nd rfl (Or.inl rfl)) (qss_cons (qs_if (qt_cmp (opU_neq hr.units) (qe_met tk.px (mets1 M_Disk_read) (hr.mono (by decide)) (qv 0) (qa_cons (qv 3) qa_nil)) (qe_op opU_add (qe_ix hr.units (qe_ix hr.units (qe_ix hr.units (qv 1) qe_str (fun _ _ => rfl)) (qv 3) (fun _ _ => rfl)) qe_int (fun _ _ => rfl)) (qe_ix hr.units (qe_ix hr.units (qe_ix hr.units (qv 1) qe_str (fun _ _ => rfl)) (qv 3) (fun _ _ => rfl)) qe_int (fun _ _ => rfl))) (nomark _)) (qss_one (qs_ret qe_bl)) qss_nil)
      (qss_one (qs_if (qt_cmp (opU_neq hr.units) (qe_met tk.px (mets1 M_Disk_pending) (hr.mono (by decide)) (qv 0) (qa_cons (qv 3) qa_nil)) (qe_b cb_len (by rfl) z_len (by decide +kernel) (qa_cons (qe_ix hr.units (qe_ix hr.units (qe_ix hr.units (qv 1) qe_str (fun _ _ => rfl)) (qv 3) (fun _ _ => rfl)) qe_int (fun _ _ => rfl)) qa_nil)) (nomark _)) (qss_one (qs_ret qe_bl)) qss_nil)))))
      (qss_one (qs_ret qe_bl)))))))
theorem sc_law : FnScope ["script", "disk", "state", "cell", "deed", "expected", "actual"] ["script"] (defScope s_law) := ⟨rfl, rfl, rfl, by decide +kernel, rfl, by decide +kernel, by decide +kernel⟩
theorem ok_law {f : Addr} {fd : FuncData} (F : FnM K "law" "law" s_law f fd) (K_Disk : MakQ P w K mg base 1 "Disk" ["self"] f_Disk___init__) (D__law_deed : DefQ P w K mg base 2 "_law_deed" ["cell"] f__law_deed_2) (D__law_expect : DefQ P w K mg base 3 "_law_expect" ["state", "deed"] f__law_expect) (D__law_act : DefQ P w K mg base 4 "_law_act" ["disk", "deed"] f__law_act) (z_isinstance : mg "isinstance" = none) (z_bool : mg "bool" = none) (D__law_agrees : DefQ P w K mg base 4 "_law_agrees" ["disk", "state"] f__law_agrees) (M_Disk_names : MetQ P w K mg base 1 "Disk" "names" ["self"] f_Disk_names_2) (z_list : mg "list" = none) (c_MOST_NAME : ∃ t, mg "MOST_NAME" = some (.int 20 t)) :
    FnOk P w K mg base CX0 5 f fd ["script"] (spL K f_law_14) := by
  rw [f_law_14_eq]
  exact fn_l F sc_law (by decide) fun cdv A outer s H E hr tk po pa => (qss_cons (qs_set (i := 1) sc_law.nd rfl (Or.inl rfl) (qe_mak0 tk.px K_Disk (hr.mono (by decide)) (by rfl)))
      (qss_cons (qs_set (i := 2) sc_law.nd rfl (Or.inl rfl) (qe_ds (qp_cons qe_str qe_dk (qp_cons qe_str qe_non (qp_cons qe_str qe_bl qp_nil))) rfl rfl (List.cons_ne_nil _ _) (Nat.le_of_ble_eq_true rfl) (Nat.le_of_ble_eq_true rfl)))
      (qss_cons (qs_for po (by rfl) (qi_seq (qv 0)) (qg_name (i := 3) sc_law.nd rfl (Or.inl rfl)) (qss_cons (qs_set (i := 4) sc_law.nd rfl (Or.inl rfl) (qe_call tk.px D__law_deed (hr.mono (by decide)) (by rfl) (qa_cons (qv 3) qa_nil)))
      (qss_cons (qs_set (i := 5) sc_law.nd rfl (Or.inl rfl) (qe_call tk.px D__law_expect (hr.mono (by decide)) (by rfl) (qa_cons (qv 2) (qa_cons (qv 4) qa_nil))))
      (qss_cons (qs_set (i := 6) sc_law.nd rfl (Or.inl rfl) (qe_call tk.px D__law_act (hr.mono (by decide)) (by rfl) (qa_cons (qv 1) (qa_cons (qv 4) qa_nil))))
      (qss_cons (qs_if (QW.qt (qw_or (qt_cmp (opU_neq hr.units) (qe_ix hr.units (qv 6) qe_int (fun _ _ => rfl)) (qe_ix hr.units (qv 5) qe_int (fun _ _ => rfl)) (nomark _)) (qw_or1 (qt_val (qe_isi .bl (by rfl) z_isinstance (by rfl) z_bool (by decide +kernel) (qe_ix hr.units (qv 6) qe_int (fun _ _ => rfl))))))) (qss_one (qs_ret qe_bl)) qss_nil)
      (qss_one (qs_if (QW.qt (qw_or (qt_cmp (opU_neq hr.units) (qe_cmp opU_is (qe_ix hr.units (qv 6) qe_int (fun _ _ => rfl)) qe_non (nomark _)) (qe_cmp opU_is (qe_ix hr.units (qv 5) qe_int (fun _ _ => rfl)) qe_non (nomark _)) (nomark _)) (qw_or (qt_cmp (opU_neq hr.units) (qe_ix hr.units (qv 6) qe_int (fun _ _ => rfl)) (qe_ix hr.units (qv 5) qe_int (fun _ _ => rfl)) (nomark _)) (qw_or1 (qt_not (qt_val (qe_call tk.px D__law_agrees (hr.mono (by decide)) (by rfl) (qa_cons (qv 1) (qa_cons (qv 2) qa_nil))))))))) (qss_one (qs_ret qe_bl)) qss_nil)))))))
      (qss_one (qs_ret (qe_and (qe_cmp (opU_equ hr.units) (qe_gint (by rfl) c_MOST_NAME) qe_int (nomark _)) (qe_one (qe_isi .lst (by rfl) z_isinstance (by rfl) z_list (by decide +kernel) (qe_met0 tk.px (mets1 M_Disk_names) (hr.mono (by decide)) (qv 1))))))))))
end
end K12
namespace Q
open PySem L2
local macro_rules | `(tactic| walk_at "mu") => `(tactic| (repeat (first | exact mset_same | assumption | (rw [mset_ne]; rotate_left; (first | assumption | exact Ne.symm (by assumption))))))
local macro_rules | `(tactic| walk_at "lk") => `(tactic| (repeat (first | exact lk_hit | exact lk_nil | refine lk_skip (by decide +kernel) ?_)))
local macro_rules | `(tactic| walk_at "q") => `(tactic| ((with_reducible conv => whnf); repeat (first
  | (with_reducible refine q_t (by with_reducible rfl) ?_; with_reducible conv => whnf)
  | (with_reducible refine q_f (by with_reducible rfl) ?_; with_reducible conv => whnf)
  | (with_reducible refine q_t (by decide) ?_; with_reducible conv => whnf)
  | (with_reducible refine q_f (by decide) ?_; with_reducible conv => whnf)
  | (with_reducible refine q_t (decide_eq_true (by omega)) ?_; with_reducible conv => whnf)
  | (with_reducible refine q_f (decide_eq_false (by omega)) ?_; with_reducible conv => whnf)
  | (with_reducible refine q_f (q_nn (by omega)) ?_; with_reducible conv => whnf)
  | (with_reducible refine q_t (q_nt (by omega)) ?_; with_reducible conv => whnf)
  | (with_reducible refine q_len (by with_unfolding_all rfl) ?_; with_reducible conv => whnf)
  | (with_reducible refine q_leq (by with_unfolding_all rfl) ?_; with_reducible conv => whnf)
  | (with_reducible refine q_and (by first | assumption | exact True.intro | omega | (simp only [List.length_map, List.length_append, List.length_cons, List.length_nil]; omega) | decide) ?_; with_reducible conv => whnf)
  | (with_reducible refine q_le (by with_unfolding_all rfl) ?_; with_reducible conv => whnf)
  | (with_reducible refine q_and tyL_lst ?_; with_reducible conv => whnf)
  | (with_reducible refine q_and tyL_rol ?_; with_reducible conv => whnf)
  | (with_reducible refine q_and (tyL_ref (by walk_at "mu")) ?_; with_reducible conv => whnf)
  | (with_reducible refine q_and (tyD_ref (by walk_at "mu")) ?_; with_reducible conv => whnf)
  | (with_reducible refine q_and (rdD_ref (by walk_at "mu")) ?_; with_reducible conv => whnf)
  | (rw [pick_c0]; with_reducible conv => whnf)
  | (rw [pick_c1]; with_reducible conv => whnf)
  | (rw [pick_c2]; with_reducible conv => whnf)
  | (rw [pick_c3]; with_reducible conv => whnf)
  | (rw [pick_c4]; with_reducible conv => whnf)
  | (rw [pick_c5]; with_reducible conv => whnf)
  | (rw [mset_same]; with_reducible conv => whnf)
  | (rw [mset_ne (by assumption)]; with_reducible conv => whnf)
  | (rw [mset_ne]; rotate_left; (first | assumption | exact Ne.symm (by assumption)); with_reducible conv => whnf)
  | (rw [rdL_ref]; rotate_left; (focus (walk_at "mu"; done)); with_reducible conv => whnf)
  | (rw [rdL_refD]; rotate_left; (focus (walk_at "mu"; done)); with_reducible conv => whnf)
  | (rw [rdD_refD]; rotate_left; (focus (walk_at "mu"; done)); with_reducible conv => whnf)
  | (rw [rdM_ref]; rotate_left; (focus (walk_at "mu"; done)); with_reducible conv => whnf)
  | (rw [rdL_refK]; rotate_left; (focus (walk_at "mu"; done)); with_reducible conv => whnf)
  | (rw [rdD_refK]; rotate_left; (focus (walk_at "mu"; done)); with_reducible conv => whnf)
  | (rw [tyW_refL]; rotate_left; (focus (walk_at "mu"; done)); with_reducible conv => whnf)
  | (rw [tyW_refD]; rotate_left; (focus (walk_at "mu"; done)); with_reducible conv => whnf)
  | (rw [drf_ref]; rotate_left; (focus (walk_at "mu"; done)); with_reducible conv => whnf)
  | ((conv => (arg 2; tactic' => (walk_at "mu"; done))); with_reducible conv => whnf)
  | (with_reducible refine q_and (Eq.refl _) ?_; with_reducible conv => whnf)
  | (with_reducible refine q_and (MulO.r (by decide)) ?_; with_reducible conv => whnf)
  | (with_reducible refine q_and (MulO.l (by decide)) ?_; with_reducible conv => whnf)
  | (with_reducible refine q_and (MulO.r (by omega)) ?_; with_reducible conv => whnf)
  | (with_reducible refine q_and (MulO.l (by omega)) ?_; with_reducible conv => whnf)
  | (with_reducible refine q_pow (by decide) ?_; with_reducible conv => whnf)
  | (with_reducible refine q_eqI ?_; with_reducible conv => whnf)
  | (with_reducible refine q_eqS ?_; with_reducible conv => whnf)
  | (with_reducible refine q_eqB ?_; with_reducible conv => whnf)
  | (with_reducible refine q_neI ?_; with_reducible conv => whnf)
  | (with_reducible refine q_neS ?_; with_reducible conv => whnf)
  | (with_reducible refine q_neB ?_; with_reducible conv => whnf)
  | (with_reducible refine q_memc ?_; with_reducible conv => whnf)
  | (with_reducible refine q_lkn (by walk_at "lk") ?_; with_reducible conv => whnf)
  | (with_reducible refine q_tix (by walk_at "lk"; done) ?_; with_reducible conv => whnf)
  | (with_reducible refine q_tin ?_; with_reducible conv => whnf)
  | (rw [pf_hit]; with_reducible conv => whnf)
  | (rw [pf_skip]; rotate_left; (focus (decide +kernel; done)); with_reducible conv => whnf)
  | (rw [lk_hit]; with_reducible conv => whnf)
  | (rw [lk_skip1]; rotate_left; (focus (decide +kernel; done)); with_reducible conv => whnf))))
/-! integers, kinds -/
end Q
namespace Q
open PySem L2
local macro_rules | `(tactic| walk_at "mu") => `(tactic| (repeat (first | exact mset_same | assumption | (rw [mset_ne]; rotate_left; (first | assumption | exact Ne.symm (by assumption))))))
local macro_rules | `(tactic| walk_at "lk") => `(tactic| (repeat (first | exact lk_hit | exact lk_nil | refine lk_skip (by decide +kernel) ?_)))
local macro_rules | `(tactic| walk_at "q") => `(tactic| ((with_reducible conv => whnf); repeat (first
  | (with_reducible refine q_t (by assumption) ?_; with_reducible conv => whnf)
  | (with_reducible refine q_f (by assumption) ?_; with_reducible conv => whnf)
  | (with_reducible refine q_t (by with_reducible rfl) ?_; with_reducible conv => whnf)
  | (with_reducible refine q_f (by with_reducible rfl) ?_; with_reducible conv => whnf)
  | (with_reducible refine q_t (by decide) ?_; with_reducible conv => whnf)
  | (with_reducible refine q_f (by decide) ?_; with_reducible conv => whnf)
  | (with_reducible refine q_t (decide_eq_true (by omega)) ?_; with_reducible conv => whnf)
  | (with_reducible refine q_f (decide_eq_false (by omega)) ?_; with_reducible conv => whnf)
  | (with_reducible refine q_f (q_nn (by omega)) ?_; with_reducible conv => whnf)
  | (with_reducible refine q_t (q_nt (by omega)) ?_; with_reducible conv => whnf)
  | (with_reducible refine q_len (by with_unfolding_all rfl) ?_; with_reducible conv => whnf)
  | (with_reducible refine q_leq (by with_unfolding_all rfl) ?_; with_reducible conv => whnf)
  | (with_reducible refine q_and (by first | assumption | exact True.intro | omega | (simp only [List.length_map, List.length_append, List.length_cons, List.length_nil]; omega) | decide) ?_; with_reducible conv => whnf)
  | (with_reducible refine q_le (by with_unfolding_all rfl) ?_; with_reducible conv => whnf)
  | (with_reducible refine q_and tyL_lst ?_; with_reducible conv => whnf)
  | (with_reducible refine q_and tyL_rol ?_; with_reducible conv => whnf)
  | (with_reducible refine q_and (tyL_ref (by walk_at "mu")) ?_; with_reducible conv => whnf)
  | (with_reducible refine q_and (tyD_ref (by walk_at "mu")) ?_; with_reducible conv => whnf)
  | (with_reducible refine q_and (rdD_ref (by walk_at "mu")) ?_; with_reducible conv => whnf)
  | (rw [pick_c0]; with_reducible conv => whnf)
  | (rw [pick_c1]; with_reducible conv => whnf)
  | (rw [pick_c2]; with_reducible conv => whnf)
  | (rw [pick_c3]; with_reducible conv => whnf)
  | (rw [pick_c4]; with_reducible conv => whnf)
  | (rw [pick_c5]; with_reducible conv => whnf)
  | (rw [mset_same]; with_reducible conv => whnf)
  | (rw [mset_ne (by assumption)]; with_reducible conv => whnf)
  | (rw [mset_ne]; rotate_left; (first | assumption | exact Ne.symm (by assumption)); with_reducible conv => whnf)
  | (rw [rdL_ref]; rotate_left; (focus (walk_at "mu"; done)); with_reducible conv => whnf)
  | (rw [rdL_refD]; rotate_left; (focus (walk_at "mu"; done)); with_reducible conv => whnf)
  | (rw [rdD_refD]; rotate_left; (focus (walk_at "mu"; done)); with_reducible conv => whnf)
  | (rw [rdM_ref]; rotate_left; (focus (walk_at "mu"; done)); with_reducible conv => whnf)
  | (rw [rdL_refK]; rotate_left; (focus (walk_at "mu"; done)); with_reducible conv => whnf)
  | (rw [rdD_refK]; rotate_left; (focus (walk_at "mu"; done)); with_reducible conv => whnf)
  | (rw [tyW_refL]; rotate_left; (focus (walk_at "mu"; done)); with_reducible conv => whnf)
  | (rw [tyW_refD]; rotate_left; (focus (walk_at "mu"; done)); with_reducible conv => whnf)
  | (rw [drf_ref]; rotate_left; (focus (walk_at "mu"; done)); with_reducible conv => whnf)
  | ((conv => (arg 2; tactic' => (walk_at "mu"; done))); with_reducible conv => whnf)
  | (with_reducible refine q_and (Eq.refl _) ?_; with_reducible conv => whnf)
  | (with_reducible refine q_and (MulO.r (by decide)) ?_; with_reducible conv => whnf)
  | (with_reducible refine q_and (MulO.l (by decide)) ?_; with_reducible conv => whnf)
  | (with_reducible refine q_and (MulO.r (by omega)) ?_; with_reducible conv => whnf)
  | (with_reducible refine q_and (MulO.l (by omega)) ?_; with_reducible conv => whnf)
  | (with_reducible refine q_pow (by decide) ?_; with_reducible conv => whnf)
  | (with_reducible refine q_nisT (by first | assumption | with_reducible rfl) ?_; with_reducible conv => whnf)
  | (with_reducible refine q_nisF (by first | assumption | with_reducible rfl) ?_; with_reducible conv => whnf)
  | (with_reducible refine q_eqI ?_; with_reducible conv => whnf)
  | (with_reducible refine q_eqS ?_; with_reducible conv => whnf)
  | (with_reducible refine q_eqB ?_; with_reducible conv => whnf)
  | (with_reducible refine q_neI ?_; with_reducible conv => whnf)
  | (with_reducible refine q_neS ?_; with_reducible conv => whnf)
  | (with_reducible refine q_neB ?_; with_reducible conv => whnf)
  | (with_reducible refine q_memc ?_; with_reducible conv => whnf)
  | (with_reducible refine q_lkn (by walk_at "lk") ?_; with_reducible conv => whnf)
  | (with_reducible refine q_tix (by walk_at "lk"; done) ?_; with_reducible conv => whnf)
  | (with_reducible refine q_tin ?_; with_reducible conv => whnf)
  | (rw [pf_hit]; with_reducible conv => whnf)
  | (rw [pf_skip]; rotate_left; (focus (decide +kernel; done)); with_reducible conv => whnf)
  | (rw [lk_hit]; with_reducible conv => whnf)
  | (rw [lk_skip1]; rotate_left; (focus (decide +kernel; done)); with_reducible conv => whnf))))
/-! keys -/
theorem l_a : ("a" : Str) = ⟨#[97]⟩ := by decide +kernel
theorem l_z : ("z" : Str) = ⟨#[122]⟩ := by decide +kernel
/-! operations -/
/-- a plain value: what the tests of values are asked of -/
def pl : W → Bool
  | .non | .bl _ | .int _ | .tup _ | .lst _ => true
  | .str z => decide (z.length ≤ 16000000)
  | _ => false
end Q
namespace Q
open PySem
/-! plain values and their texts, as lists of signs -/
abbrev dv := PySem.NumText.digitsVal
def nd (n : Nat) : List Nat := (Nat.toDigits 10 n).map Char.toNat
def itx : Int → List Nat
  | .ofNat n => nd n
  | .negSucc n => 45 :: nd (n + 1)
def dig (c : Nat) : Bool := decide (48 ≤ c ∧ c ≤ 57)
def sgn (c : Nat) : Bool := decide (32 ≤ c ∧ c ≤ 126) && !decide (c = 37)
/-! ### the reader -/
def rdStr : List Nat → Option (List Nat × Nat)
  | [] => none
  | c :: r => if c = 39 then (match r with
      | d :: r' => if d = 39 then (match rdStr r' with
          | some (s, n) => some (39 :: s, n + 2)
          | none => none) else some ([], 1)
      | [] => some ([], 1))
    else (match rdStr r with
      | some (s, n) => some (c :: s, n + 1)
      | none => none)
def rdSt (l : List Nat) : Nat := if l.head? = some 45 then 1 else 0
def rdDs (l : List Nat) : List Nat := (l.drop (rdSt l)).takeWhile dig
def rdInt (l : List Nat) : Option (Int × Nat) :=
  if 1 ≤ (rdDs l).length ∧ (rdDs l).length ≤ 30 ∧ ¬ ((rdDs l).head? = some 48 ∧ 1 < rdSt l + (rdDs l).length) then
    some (if rdSt l = 1 then -((dv (rdDs l) : Nat) : Int) else ((dv (rdDs l) : Nat) : Int), rdSt l + (rdDs l).length) else none
def rdStep (t : List Nat → Option (W × Nat)) (l : List Nat) : Option (W × Nat) := match l with
  | [] => none
  | c :: r => if c = 42 then some (.non, 1) else if c = 39 then (match rdStr r with
      | some (s, n) => some (.str ⟨s.toArray⟩, n + 1)
      | none => none)
    else if c = 40 then (match t r with
      | some (w, n) => some (w, n + 1)
      | none => none)
    else match rdInt (c :: r) with
      | some (i, n) => some (.int i, n)
      | none => none
/-! ### the writer -/
def dbl : List Nat → List Nat
  | [] => []
  | c :: r => if c = 39 then 39 :: 39 :: dbl r else c :: dbl r
def joinC : List (List Nat) → List Nat
  | [] => []
  | [a] => a
  | a :: b :: r => a ++ 44 :: joinC (b :: r)
def encAll (f : W → Option (List Nat)) : List W → Option (List (List Nat))
  | [] => some []
  | w :: r => match f w, encAll f r with
    | some a, some b => some (a :: b)
    | _, _ => none
def encLeaf : W → Option (List Nat)
  | .non => some [42]
  | .int i => if i.natAbs < 10 ^ 30 then some (itx i) else none
  | .str z => if z.cps.toList.all sgn = true then some (39 :: (dbl z.cps.toList ++ [39])) else none
  | _ => none
def enc : Nat → W → Option (List Nat)
  | 0, w => encLeaf w
  | r + 1, .tup ws => (encAll (enc r) ws).map fun ts => 40 :: (joinC ts ++ [41])
  | r + 1, w => encLeaf w
end Q
namespace Q
open PySem L2
local macro_rules | `(tactic| walk_at "mu") => `(tactic| (repeat (first | exact mset_same | assumption | (rw [mset_ne]; rotate_left; (first | assumption | exact Ne.symm (by assumption))))))
local macro_rules | `(tactic| walk_at "lk") => `(tactic| (repeat (first | exact lk_hit | exact lk_nil | refine lk_skip (by decide +kernel) ?_)))
local macro_rules | `(tactic| walk_at "pf") => `(tactic| (repeat (first | rw [pf_nil] | rw [pf_hit] | (rw [pf_skip]; rotate_left; (focus (decide +kernel; done))))))
local macro_rules | `(tactic| walk_at "q") => `(tactic| ((with_reducible conv => whnf); repeat (first
  | (with_reducible refine q_t (by assumption) ?_; with_reducible conv => whnf)
  | (with_reducible refine q_f (by assumption) ?_; with_reducible conv => whnf)
  | (with_reducible refine q_t (by with_reducible rfl) ?_; with_reducible conv => whnf)
  | (with_reducible refine q_f (by with_reducible rfl) ?_; with_reducible conv => whnf)
  | (with_reducible refine q_t (by decide) ?_; with_reducible conv => whnf)
  | (with_reducible refine q_f (by decide) ?_; with_reducible conv => whnf)
  | (with_reducible refine q_t (decide_eq_true (by omega)) ?_; with_reducible conv => whnf)
  | (with_reducible refine q_f (decide_eq_false (by omega)) ?_; with_reducible conv => whnf)
  | (with_reducible refine q_f (q_nn (by omega)) ?_; with_reducible conv => whnf)
  | (with_reducible refine q_t (q_nt (by omega)) ?_; with_reducible conv => whnf)
  | (with_reducible refine q_len (by with_unfolding_all rfl) ?_; with_reducible conv => whnf)
  | (with_reducible refine q_leq (by with_unfolding_all rfl) ?_; with_reducible conv => whnf)
  | (with_reducible refine q_and (by first | assumption | exact True.intro | omega | (simp only [List.length_map, List.length_append, List.length_cons, List.length_nil]; omega) | decide) ?_; with_reducible conv => whnf)
  | (with_reducible refine q_le (by with_unfolding_all rfl) ?_; with_reducible conv => whnf)
  | (with_reducible refine q_and tyL_lst ?_; with_reducible conv => whnf)
  | (with_reducible refine q_and tyL_rol ?_; with_reducible conv => whnf)
  | (with_reducible refine q_and (tyL_ref (by walk_at "mu")) ?_; with_reducible conv => whnf)
  | (with_reducible refine q_and (tyD_ref (by walk_at "mu")) ?_; with_reducible conv => whnf)
  | (with_reducible refine q_and (rdD_ref (by walk_at "mu")) ?_; with_reducible conv => whnf)
  | (rw [pick_c0]; with_reducible conv => whnf)
  | (rw [pick_c1]; with_reducible conv => whnf)
  | (rw [pick_c2]; with_reducible conv => whnf)
  | (rw [pick_c3]; with_reducible conv => whnf)
  | (rw [pick_c4]; with_reducible conv => whnf)
  | (rw [pick_c5]; with_reducible conv => whnf)
  | (rw [mset_same]; with_reducible conv => whnf)
  | (rw [mset_ne (by assumption)]; with_reducible conv => whnf)
  | (rw [mset_ne]; rotate_left; (first | assumption | exact Ne.symm (by assumption)); with_reducible conv => whnf)
  | (rw [rdL_ref]; rotate_left; (focus (walk_at "mu"; done)); with_reducible conv => whnf)
  | (rw [rdL_refD]; rotate_left; (focus (walk_at "mu"; done)); with_reducible conv => whnf)
  | (rw [rdD_refD]; rotate_left; (focus (walk_at "mu"; done)); with_reducible conv => whnf)
  | (rw [rdM_ref]; rotate_left; (focus (walk_at "mu"; done)); with_reducible conv => whnf)
  | (rw [rdL_refK]; rotate_left; (focus (walk_at "mu"; done)); with_reducible conv => whnf)
  | (rw [rdD_refK]; rotate_left; (focus (walk_at "mu"; done)); with_reducible conv => whnf)
  | (rw [tyW_refL]; rotate_left; (focus (walk_at "mu"; done)); with_reducible conv => whnf)
  | (rw [tyW_refD]; rotate_left; (focus (walk_at "mu"; done)); with_reducible conv => whnf)
  | (rw [drf_ref]; rotate_left; (focus (walk_at "mu"; done)); with_reducible conv => whnf)
  | ((conv => (arg 2; tactic' => (walk_at "mu"; done))); with_reducible conv => whnf)
  | (with_reducible refine q_and (Eq.refl _) ?_; with_reducible conv => whnf)
  | (with_reducible refine q_and (MulO.r (by decide)) ?_; with_reducible conv => whnf)
  | (with_reducible refine q_and (MulO.l (by decide)) ?_; with_reducible conv => whnf)
  | (with_reducible refine q_and (MulO.r (by omega)) ?_; with_reducible conv => whnf)
  | (with_reducible refine q_and (MulO.l (by omega)) ?_; with_reducible conv => whnf)
  | (with_reducible refine q_pow (by decide) ?_; with_reducible conv => whnf)
  | (with_reducible refine q_nisT (by first | assumption | with_reducible rfl) ?_; with_reducible conv => whnf)
  | (with_reducible refine q_nisF (by first | assumption | with_reducible rfl) ?_; with_reducible conv => whnf)
  | (with_reducible refine q_eqI ?_; with_reducible conv => whnf)
  | (with_reducible refine q_eqS ?_; with_reducible conv => whnf)
  | (with_reducible refine q_eqB ?_; with_reducible conv => whnf)
  | (with_reducible refine q_neI ?_; with_reducible conv => whnf)
  | (with_reducible refine q_neS ?_; with_reducible conv => whnf)
  | (with_reducible refine q_neB ?_; with_reducible conv => whnf)
  | (with_reducible refine q_memc ?_; with_reducible conv => whnf)
  | (with_reducible refine q_lkn (by walk_at "lk") ?_; with_reducible conv => whnf)
  | (with_reducible refine q_tix (by walk_at "lk"; done) ?_; with_reducible conv => whnf)
  | (with_reducible refine q_tin ?_; with_reducible conv => whnf)
  | (rw [pf_hit]; with_reducible conv => whnf)
  | (rw [pf_skip]; rotate_left; (focus (decide +kernel; done)); with_reducible conv => whnf)
  | (rw [lk_hit]; with_reducible conv => whnf)
  | (rw [lk_skip1]; rotate_left; (focus (decide +kernel; done)); with_reducible conv => whnf))))
/-! texts: the reader's defs -/
abbrev S (t : List Nat) : Str := ⟨t.toArray⟩
theorem S_len (t : List Nat) : (S t).length = t.length := by
  show t.toArray.size = t.length
  simp
theorem S_inj {t u : List Nat} (h : S t = S u) : t = u := by
  have := congrArg (fun z : Str => z.cps.toList) h
  simpa using this
theorem S_of (z : Str) : S z.cps.toList = z := by
  cases z
  simp [S]
theorem cut_S (t : List Nat) (a b : Nat) : cutS (S t) (some (a : Int)) (some (b : Int)) = S ((t.drop a).take (b - a)) := by
  unfold cutS
  rw [HT.sIx_nat, HT.sIx_nat, S_len]
  congr 2
  simp only [List.toList_toArray]
  by_cases h : a ≤ t.length
  · rw [Nat.min_eq_left h]
    by_cases h2 : b ≤ t.length
    · rw [Nat.min_eq_left h2]
    · rw [Nat.min_eq_right (by omega), List.take_of_length_le (by simp), List.take_of_length_le (by simp; omega)]
  · rw [Nat.min_eq_right (show t.length ≤ a by omega), List.drop_of_length_le (Nat.le_refl _), List.drop_of_length_le (show t.length ≤ a by omega), List.take_nil, List.take_nil]
theorem cut_S1 (t : List Nat) (a : Nat) : cutS (S t) (some (a : Int)) (some ((a : Int) + 1)) = S ((t.drop a).take 1) := by
  have := cut_S t a (a + 1)
  rw [show a + 1 - a = 1 by omega] at this
  exact this
theorem cut_S12 (t : List Nat) (a : Nat) : cutS (S t) (some ((a : Int) + 1)) (some ((a : Int) + 2)) = S ((t.drop (a + 1)).take 1) := by
  have := cut_S t (a + 1) (a + 2)
  rw [show a + 2 - (a + 1) = 1 by omega] at this
  exact this
theorem S_one {l : List Nat} {c : Nat} (s : Str) (hs : s = ⟨#[c]⟩) : decide (S (l.take 1) = s) = decide (l.head? = some c) := by
  subst hs
  apply decide_eq_decide.mpr
  cases l with
  | nil =>
    constructor
    · intro h
      have := S_inj (t := []) (u := [c]) h
      cases this
    · intro h
      cases h
  | cons d r =>
    constructor
    · intro h
      have := S_inj (t := [d]) (u := [c]) h
      cases this
      rfl
    · intro h
      cases h
      rfl
theorem t_qu : ("'" : Str) = ⟨#[39]⟩ := by decide +kernel
theorem t_st : ("*" : Str) = ⟨#[42]⟩ := by decide +kernel
theorem t_op : ("(" : Str) = ⟨#[40]⟩ := by decide +kernel
theorem t_mi : ("-" : Str) = ⟨#[45]⟩ := by decide +kernel
theorem t_ze : ("0" : Str) = ⟨#[48]⟩ := by decide +kernel
theorem t_em : ("" : Str) = S [] := by decide +kernel
/-! joins -/
theorem glueL_nil : ∀ ys : List Str, PySem.StrLaws.glueL [] ys = (ys.map fun y => y.cps.toList).flatten
  | [] => rfl
  | y :: r => by
    show [] ++ (y.cps.toList ++ PySem.StrLaws.glueL [] r) = _
    rw [glueL_nil r]
    rfl
theorem join_em (ys : List Str) : Txt.join "" ys = S (ys.map fun y => y.cps.toList).flatten := by
  cases ys with
  | nil => decide +kernel
  | cons y r =>
    have h := PySem.StrLaws.glued_list "" y r
    have e : PySem.StrLaws.glueT ("" : Str).cps.toList (y :: r) = ((y :: r).map fun y => y.cps.toList).flatten := by
      show y.cps.toList ++ PySem.StrLaws.glueL [] r = _
      rw [glueL_nil]
      rfl
    rw [e] at h
    rw [← h]
    exact (S_of _).symm
/-! ### strings -/
theorem rdStr_app : ∀ (u l : List Nat), 39 ∉ u → rdStr (u ++ l) = (match rdStr l with
  | some (s, n) => some (u ++ s, u.length + n)
  | none => none)
  | [], l, _ => by
    rw [List.nil_append]
    cases rdStr l with
    | none => rfl
    | some p => simp
  | c :: u, l, h => by
    have hc : ¬ c = 39 := fun z => h (by rw [z]; exact List.mem_cons_self)
    have ih := rdStr_app u l fun z => h (List.mem_cons_of_mem _ z)
    rw [List.cons_append, rdStr.eq_def]
    simp only [if_neg hc, ih]
    cases rdStr l with
    | none => rfl
    | some p =>
      simp
      omega
theorem rdStr_no : ∀ (u : List Nat), 39 ∉ u → rdStr u = none
  | [], _ => rfl
  | c :: u, h => by
    have hc : ¬ c = 39 := fun z => h (by rw [z]; exact List.mem_cons_self)
    rw [rdStr.eq_def]
    simp only [if_neg hc, rdStr_no u fun z => h (List.mem_cons_of_mem _ z)]
/-- the first quote from b on -/
theorem find_qu (t : List Nat) (b : Nat) (hb : b ≤ t.length) : (Txt.find3 (S t) "'" (b : Int) = -1 ∧ 39 ∉ t.drop b) ∨
    ∃ k : Nat, Txt.find3 (S t) "'" (b : Int) = (k : Int) ∧ b ≤ k ∧ k < t.length ∧ 39 ∉ (t.drop b).take (k - b) ∧ t.drop k = 39 :: t.drop (k + 1) := by
  rw [t_qu]
  have fi : PySem.fromIndex (S t).length (b : Int) = b := by
    unfold PySem.fromIndex
    rw [if_neg (by omega)]
    omega
  have gd : ∀ v, v < t.length → (S t).cps.getD v 0 = t.getD v 0 := fun v hv => by simp
  rcases PySem.StrLaws.find3_spec (S t) 39 (b : Int) with ⟨h1, h2⟩ | ⟨k, h1, h2, h3, h4, h5⟩
  · refine .inl ⟨h1, fun hm => ?_⟩
    rw [fi, S_len] at h2
    obtain ⟨i, hi⟩ := List.mem_iff_getElem?.mp hm
    rw [List.getElem?_drop] at hi
    obtain ⟨hl, he⟩ := List.getElem?_eq_some_iff.mp hi
    refine h2 (b + i) (by omega) hl ?_
    rw [gd _ hl, List.getD_eq_getElem?_getD, hi]
    rfl
  · rw [fi] at h2 h5
    rw [S_len] at h3
    refine .inr ⟨k, h1, h2, h3, fun hm => ?_, ?_⟩
    · obtain ⟨i, hi⟩ := List.mem_iff_getElem?.mp hm
      rw [List.getElem?_take] at hi
      split at hi
      · rw [List.getElem?_drop] at hi
        obtain ⟨hl, he⟩ := List.getElem?_eq_some_iff.mp hi
        refine h5 (b + i) (by omega) (by omega) ?_
        rw [gd _ hl, List.getD_eq_getElem?_getD, hi]
        rfl
      · cases hi
    · rw [gd _ h3, List.getD_eq_getElem?_getD, List.getElem?_eq_getElem h3] at h4
      rw [List.drop_eq_getElem_cons h3]
      have h4 : t[k] = 39 := h4
      rw [h4]
end Q
namespace Q
open PySem L2
local macro_rules | `(tactic| walk_at "mu") => `(tactic| (repeat (first | exact mset_same | assumption | (rw [mset_ne]; rotate_left; (first | assumption | exact Ne.symm (by assumption))))))
local macro_rules | `(tactic| walk_at "lk") => `(tactic| (repeat (first | exact lk_hit | exact lk_nil | refine lk_skip (by decide +kernel) ?_)))
local macro_rules | `(tactic| walk_at "pf") => `(tactic| (repeat (first | rw [pf_nil] | rw [pf_hit] | (rw [pf_skip]; rotate_left; (focus (decide +kernel; done))))))
local macro_rules | `(tactic| walk_at "q") => `(tactic| ((with_reducible conv => whnf); repeat (first
  | (with_reducible refine q_t (by assumption) ?_; with_reducible conv => whnf)
  | (with_reducible refine q_f (by assumption) ?_; with_reducible conv => whnf)
  | (with_reducible refine q_t (by with_reducible rfl) ?_; with_reducible conv => whnf)
  | (with_reducible refine q_f (by with_reducible rfl) ?_; with_reducible conv => whnf)
  | (with_reducible refine q_t (by decide) ?_; with_reducible conv => whnf)
  | (with_reducible refine q_f (by decide) ?_; with_reducible conv => whnf)
  | (with_reducible refine q_t (decide_eq_true (by omega)) ?_; with_reducible conv => whnf)
  | (with_reducible refine q_f (decide_eq_false (by omega)) ?_; with_reducible conv => whnf)
  | (with_reducible refine q_f (q_nn (by omega)) ?_; with_reducible conv => whnf)
  | (with_reducible refine q_t (q_nt (by omega)) ?_; with_reducible conv => whnf)
  | (with_reducible refine q_len (by with_unfolding_all rfl) ?_; with_reducible conv => whnf)
  | (with_reducible refine q_leq (by with_unfolding_all rfl) ?_; with_reducible conv => whnf)
  | (with_reducible refine q_and (by first | assumption | exact True.intro | omega | (simp only [List.length_map, List.length_append, List.length_cons, List.length_nil]; omega) | decide) ?_; with_reducible conv => whnf)
  | (with_reducible refine q_le (by with_unfolding_all rfl) ?_; with_reducible conv => whnf)
  | (with_reducible refine q_and tyL_lst ?_; with_reducible conv => whnf)
  | (with_reducible refine q_and tyL_rol ?_; with_reducible conv => whnf)
  | (with_reducible refine q_and (tyL_ref (by walk_at "mu")) ?_; with_reducible conv => whnf)
  | (with_reducible refine q_and (tyD_ref (by walk_at "mu")) ?_; with_reducible conv => whnf)
  | (with_reducible refine q_and (rdD_ref (by walk_at "mu")) ?_; with_reducible conv => whnf)
  | (rw [pick_c0]; with_reducible conv => whnf)
  | (rw [pick_c1]; with_reducible conv => whnf)
  | (rw [pick_c2]; with_reducible conv => whnf)
  | (rw [pick_c3]; with_reducible conv => whnf)
  | (rw [pick_c4]; with_reducible conv => whnf)
  | (rw [pick_c5]; with_reducible conv => whnf)
  | (rw [mset_same]; with_reducible conv => whnf)
  | (rw [mset_ne (by assumption)]; with_reducible conv => whnf)
  | (rw [mset_ne]; rotate_left; (first | assumption | exact Ne.symm (by assumption)); with_reducible conv => whnf)
  | (rw [rdL_ref]; rotate_left; (focus (walk_at "mu"; done)); with_reducible conv => whnf)
  | (rw [rdL_refD]; rotate_left; (focus (walk_at "mu"; done)); with_reducible conv => whnf)
  | (rw [rdD_refD]; rotate_left; (focus (walk_at "mu"; done)); with_reducible conv => whnf)
  | (rw [rdM_ref]; rotate_left; (focus (walk_at "mu"; done)); with_reducible conv => whnf)
  | (rw [rdL_refK]; rotate_left; (focus (walk_at "mu"; done)); with_reducible conv => whnf)
  | (rw [rdD_refK]; rotate_left; (focus (walk_at "mu"; done)); with_reducible conv => whnf)
  | (rw [tyW_refL]; rotate_left; (focus (walk_at "mu"; done)); with_reducible conv => whnf)
  | (rw [tyW_refD]; rotate_left; (focus (walk_at "mu"; done)); with_reducible conv => whnf)
  | (rw [drf_ref]; rotate_left; (focus (walk_at "mu"; done)); with_reducible conv => whnf)
  | ((conv => (arg 2; tactic' => (walk_at "mu"; done))); with_reducible conv => whnf)
  | (with_reducible refine q_and (Eq.refl _) ?_; with_reducible conv => whnf)
  | (with_reducible refine q_and (MulO.r (by decide)) ?_; with_reducible conv => whnf)
  | (with_reducible refine q_and (MulO.l (by decide)) ?_; with_reducible conv => whnf)
  | (with_reducible refine q_and (MulO.r (by omega)) ?_; with_reducible conv => whnf)
  | (with_reducible refine q_and (MulO.l (by omega)) ?_; with_reducible conv => whnf)
  | (with_reducible refine q_pow (by decide) ?_; with_reducible conv => whnf)
  | (with_reducible refine q_nisT (by first | assumption | with_reducible rfl) ?_; with_reducible conv => whnf)
  | (with_reducible refine q_nisF (by first | assumption | with_reducible rfl) ?_; with_reducible conv => whnf)
  | (with_reducible refine q_eqI ?_; with_reducible conv => whnf)
  | (with_reducible refine q_eqS ?_; with_reducible conv => whnf)
  | (with_reducible refine q_eqB ?_; with_reducible conv => whnf)
  | (with_reducible refine q_neI ?_; with_reducible conv => whnf)
  | (with_reducible refine q_neS ?_; with_reducible conv => whnf)
  | (with_reducible refine q_neB ?_; with_reducible conv => whnf)
  | (with_reducible refine q_memc ?_; with_reducible conv => whnf)
  | (with_reducible refine q_lkn (by walk_at "lk") ?_; with_reducible conv => whnf)
  | (with_reducible refine q_tix (by walk_at "lk"; done) ?_; with_reducible conv => whnf)
  | (with_reducible refine q_tin ?_; with_reducible conv => whnf)
  | (rw [pf_hit]; with_reducible conv => whnf)
  | (rw [pf_skip]; rotate_left; (focus (decide +kernel; done)); with_reducible conv => whnf)
  | (rw [lk_hit]; with_reducible conv => whnf)
  | (rw [lk_skip1]; rotate_left; (focus (decide +kernel; done)); with_reducible conv => whnf))))
/-! the reader's defs -/
theorem take_drop_len {t : List Nat} {b k : Nat} (hb : b ≤ k) (hk : k ≤ t.length) : ((t.drop b).take (k - b)).length = k - b := by
  rw [List.length_take, List.length_drop]
  omega
theorem drop_split {t : List Nat} {b k : Nat} (hb : b ≤ k) : t.drop b = (t.drop b).take (k - b) ++ t.drop k := by
  have h := (List.take_append_drop (k - b) (t.drop b)).symm
  rw [List.drop_drop, show b + (k - b) = k by omega] at h
  exact h
theorem sp__read_string {t : List Nat} {a : Nat} {μ : Mu} {P : Po} {X : Xo} (ht : t.length ≤ 200000) (ha : a ≤ t.length)
    (h : match rdStr (t.drop a) with
      | some (s, n) => P (.tup [.str (S s), .int ((a + n : Nat) : Int)]) μ
      | none => X "BadText" [] μ) : f__read_string [.str (S t), .int (a : Int)] μ P X := by
  rw [f__read_string_eq]; unfold f__read_string_B fDef
  refine ⟨rfl, ?_⟩
  walk_at "q"
  intro p hp
  walk_at "q"
  have hS : (S t).length ≤ 16000000 := by
    rw [S_len]
    omega
  refine itWh.mk (fun n ρ μ' => ∃ (b : Nat) (ys : List (List Nat)) (x : Option W), n = t.length - b ∧ b ≤ t.length ∧ ys.length ≤ b ∧ ys.flatten.length ≤ b ∧ ρ = [some (.str (S t)), some (.int (b : Int)), some (.ref p), x] ∧ μ' = mset μ p (.ls (ys.map fun y => .str (S y))) ∧
    (match rdStr (t.drop b) with
      | some (s, n) => P (.tup [.str (S (ys.flatten ++ s)), .int ((b + n : Nat) : Int)]) μ
      | none => X "BadText" [] μ)) (t.length - a) ⟨a, [], none, rfl, ha, Nat.zero_le _, Nat.zero_le _, rfl, rfl, h⟩ ?_
  rintro n ρ μ' ⟨b, ys, x, rfl, hb, hy1, hy2, rfl, rfl, hr⟩
  walk_at "q"
  have lY : (ys.map fun y => W.str (S y)).length ≤ 200000 := by
    rw [List.length_map]
    omega
  rcases find_qu t b hb with ⟨h1, h2⟩ | ⟨k, h1, h2, h3, h4, h5⟩
  · rw [h1]
    rw [rdStr_no _ h2] at hr
    walk_at "q"
    exact ⟨μ, Sub.new hp, hr⟩
  · rw [h1]
    have hk := take_drop_len (t := t) h2 (Nat.le_of_lt h3)
    have hd : rdStr (t.drop b) = _ := congrArg rdStr (drop_split (t := t) h2)
    rw [rdStr_app _ _ h4, h5, hk] at hd
    walk_at "q"
    rw [cut_S12, S_one _ t_qu]
    have cut : cutS (S t) (some (b : Int)) (some (k : Int)) = S ((t.drop b).take (k - b)) := cut_S t b k
    have cut2 : cutS (S t) (some (b : Int)) (some ((k : Int) + 1)) = S ((t.drop b).take (k - b) ++ [39]) := by
      have e := cut_S t b (k + 1)
      have e2 : (t.drop b).take (k + 1 - b) = (t.drop b).take (k - b) ++ [39] := by
        have e3 := drop_split (t := t) h2
        rw [h5] at e3
        have gen : ∀ (u v : List Nat) (m : Nat), u.length = m → (u ++ 39 :: v).take (m + 1) = u ++ [39] := fun u v m e => by
          subst e
          rw [List.take_append]
          simp
          exact List.take_of_length_le (by omega)
        have g := gen _ (t.drop (k + 1)) (k - b) hk
        rw [← e3, show k - b + 1 = k + 1 - b by omega] at g
        exact g
      rw [e2] at e
      exact e
    refine q_ifN (fun c => ?_) fun c => ?_
    · -- a doubled quote
      walk_at "q"
      rw [cut2]
      walk_at "q"
      obtain ⟨r, er⟩ : ∃ r, t.drop (k + 1) = 39 :: r := by
        cases e : t.drop (k + 1) with
        | nil =>
          rw [e] at c
          cases c
        | cons d r =>
          rw [e] at c
          cases c
          exact ⟨r, rfl⟩
      have hk2 : k + 2 ≤ t.length := by
        have := congrArg List.length er
        rw [List.length_drop, List.length_cons] at this
        omega
      have er2 : t.drop (k + 2) = r := by
        have := congrArg (List.drop 1) er
        rw [List.drop_drop] at this
        exact this
      have e6 : rdStr (39 :: t.drop (k + 1)) = (match rdStr (t.drop (k + 2)) with
        | some (s, n) => some (39 :: s, n + 2)
        | none => none) := by
        rw [er, er2, rdStr.eq_def]
        simp <;> (cases rdStr r <;> rfl)
      rw [e6] at hd
      rw [hd] at hr
      refine ⟨t.length - (k + 2), by omega, k + 2, ys ++ [(t.drop b).take (k - b) ++ [39]], _, rfl, hk2, ?_, ?_, rfl, ?_, ?_⟩
      · rw [List.length_append, List.length_singleton]
        omega
      · rw [List.flatten_append, List.length_append]
        simp only [List.flatten_cons, List.flatten_nil, List.append_nil, List.length_append, List.length_singleton, hk]
        omega
      · rw [mset_mset, List.map_append]
        rfl
      · cases e7 : rdStr (t.drop (k + 2)) with
        | none =>
          rw [e7] at hr
          exact hr
        | some q =>
          obtain ⟨s, n⟩ := q
          rw [e7] at hr
          have e8 : (ys ++ [(t.drop b).take (k - b) ++ [39]]).flatten ++ s = ys.flatten ++ ((t.drop b).take (k - b) ++ 39 :: s) := by simp
          have e9 : k + 2 + n = b + (k - b + (n + 2)) := by omega
          show P (.tup [.str (S ((ys ++ [(t.drop b).take (k - b) ++ [39]]).flatten ++ s)), .int ((k + 2 + n : Nat) : Int)]) μ
          rw [e8, e9]
          exact hr
    · -- the end
      walk_at "q"
      rw [cut]
      walk_at "q"
      have e6 : rdStr (39 :: t.drop (k + 1)) = some ([], 1) := by
        cases e : t.drop (k + 1) with
        | nil => rfl
        | cons d r =>
          rw [e] at c
          rw [rdStr.eq_def]
          simp only [if_pos]
          rw [if_neg]
          intro z
          exact c (by rw [z]; rfl)
      rw [e6] at hd
      rw [hd] at hr
      have hr : P (.tup [.str (S (ys.flatten ++ ((t.drop b).take (k - b) ++ []))), .int ((b + (k - b + 1) : Nat) : Int)]) μ := hr
      refine ⟨(ys ++ [(t.drop b).take (k - b)]).map S, ?_, ?_, ?_⟩
      · rw [rdA_ref (by walk_at "mu")]
        simp [List.map_append]
      · have e1 : (((ys ++ [(t.drop b).take (k - b)]).map S).map (·.length)).sum = (ys ++ [(t.drop b).take (k - b)]).flatten.length := by
          rw [List.length_flatten, List.map_map]
          congr 1
          try exact List.map_congr_left fun y _ => S_len y
        rw [e1]
        simp only [List.flatten_append, List.flatten_cons, List.flatten_nil, List.append_nil, List.length_append, hk]
        have : ("" : Str).length = 0 := rfl
        rw [this]
        omega
      · rw [join_em]
        walk_at "q"
        rw [mset_mset]
        refine Rt.forget μ (Sub.new hp) ?_
        · have e8 : (List.map (fun y : Str => y.cps.toList) (List.map S (ys ++ [(t.drop b).take (k - b)]))).flatten = ys.flatten ++ ((t.drop b).take (k - b) ++ []) := by
            rw [List.map_map]
            have : ((fun y : Str => y.cps.toList) ∘ S) = id := by
              funext y
              simp
            rw [this]
            simp
          rw [e8, show ((k : Int) + 1) = ((b + (k - b + 1) : Nat) : Int) by omega]
          exact hr
end Q
namespace Q
open PySem L2
local macro_rules | `(tactic| walk_at "mu") => `(tactic| (repeat (first | exact mset_same | assumption | (rw [mset_ne]; rotate_left; (first | assumption | exact Ne.symm (by assumption))))))
local macro_rules | `(tactic| walk_at "lk") => `(tactic| (repeat (first | exact lk_hit | exact lk_nil | refine lk_skip (by decide +kernel) ?_)))
local macro_rules | `(tactic| walk_at "pf") => `(tactic| (repeat (first | rw [pf_nil] | rw [pf_hit] | (rw [pf_skip]; rotate_left; (focus (decide +kernel; done))))))
local macro_rules | `(tactic| walk_at "q") => `(tactic| ((with_reducible conv => whnf); repeat (first
  | (with_reducible refine q_t (by assumption) ?_; with_reducible conv => whnf)
  | (with_reducible refine q_f (by assumption) ?_; with_reducible conv => whnf)
  | (with_reducible refine q_t (by with_reducible rfl) ?_; with_reducible conv => whnf)
  | (with_reducible refine q_f (by with_reducible rfl) ?_; with_reducible conv => whnf)
  | (with_reducible refine q_t (by decide) ?_; with_reducible conv => whnf)
  | (with_reducible refine q_f (by decide) ?_; with_reducible conv => whnf)
  | (with_reducible refine q_t (decide_eq_true (by omega)) ?_; with_reducible conv => whnf)
  | (with_reducible refine q_f (decide_eq_false (by omega)) ?_; with_reducible conv => whnf)
  | (with_reducible refine q_f (q_nn (by omega)) ?_; with_reducible conv => whnf)
  | (with_reducible refine q_t (q_nt (by omega)) ?_; with_reducible conv => whnf)
  | (with_reducible refine q_len (by with_unfolding_all rfl) ?_; with_reducible conv => whnf)
  | (with_reducible refine q_leq (by with_unfolding_all rfl) ?_; with_reducible conv => whnf)
  | (with_reducible refine q_and (by first | assumption | exact True.intro | omega | (simp only [List.length_map, List.length_append, List.length_cons, List.length_nil]; omega) | decide) ?_; with_reducible conv => whnf)
  | (with_reducible refine q_le (by with_unfolding_all rfl) ?_; with_reducible conv => whnf)
  | (with_reducible refine q_and tyL_lst ?_; with_reducible conv => whnf)
  | (with_reducible refine q_and tyL_rol ?_; with_reducible conv => whnf)
  | (with_reducible refine q_and (tyL_ref (by walk_at "mu")) ?_; with_reducible conv => whnf)
  | (with_reducible refine q_and (tyD_ref (by walk_at "mu")) ?_; with_reducible conv => whnf)
  | (with_reducible refine q_and (rdD_ref (by walk_at "mu")) ?_; with_reducible conv => whnf)
  | (rw [pick_c0]; with_reducible conv => whnf)
  | (rw [pick_c1]; with_reducible conv => whnf)
  | (rw [pick_c2]; with_reducible conv => whnf)
  | (rw [pick_c3]; with_reducible conv => whnf)
  | (rw [pick_c4]; with_reducible conv => whnf)
  | (rw [pick_c5]; with_reducible conv => whnf)
  | (rw [mset_same]; with_reducible conv => whnf)
  | (rw [mset_ne (by assumption)]; with_reducible conv => whnf)
  | (rw [mset_ne]; rotate_left; (first | assumption | exact Ne.symm (by assumption)); with_reducible conv => whnf)
  | (rw [rdL_ref]; rotate_left; (focus (walk_at "mu"; done)); with_reducible conv => whnf)
  | (rw [rdL_refD]; rotate_left; (focus (walk_at "mu"; done)); with_reducible conv => whnf)
  | (rw [rdD_refD]; rotate_left; (focus (walk_at "mu"; done)); with_reducible conv => whnf)
  | (rw [rdM_ref]; rotate_left; (focus (walk_at "mu"; done)); with_reducible conv => whnf)
  | (rw [rdL_refK]; rotate_left; (focus (walk_at "mu"; done)); with_reducible conv => whnf)
  | (rw [rdD_refK]; rotate_left; (focus (walk_at "mu"; done)); with_reducible conv => whnf)
  | (rw [tyW_refL]; rotate_left; (focus (walk_at "mu"; done)); with_reducible conv => whnf)
  | (rw [tyW_refD]; rotate_left; (focus (walk_at "mu"; done)); with_reducible conv => whnf)
  | (rw [drf_ref]; rotate_left; (focus (walk_at "mu"; done)); with_reducible conv => whnf)
  | ((conv => (arg 2; tactic' => (walk_at "mu"; done))); with_reducible conv => whnf)
  | (with_reducible refine q_and (Eq.refl _) ?_; with_reducible conv => whnf)
  | (with_reducible refine q_and (MulO.r (by decide)) ?_; with_reducible conv => whnf)
  | (with_reducible refine q_and (MulO.l (by decide)) ?_; with_reducible conv => whnf)
  | (with_reducible refine q_and (MulO.r (by omega)) ?_; with_reducible conv => whnf)
  | (with_reducible refine q_and (MulO.l (by omega)) ?_; with_reducible conv => whnf)
  | (with_reducible refine q_pow (by decide) ?_; with_reducible conv => whnf)
  | (with_reducible refine q_nisT (by first | assumption | with_reducible rfl) ?_; with_reducible conv => whnf)
  | (with_reducible refine q_nisF (by first | assumption | with_reducible rfl) ?_; with_reducible conv => whnf)
  | (with_reducible refine q_eqI ?_; with_reducible conv => whnf)
  | (with_reducible refine q_eqS ?_; with_reducible conv => whnf)
  | (with_reducible refine q_eqB ?_; with_reducible conv => whnf)
  | (with_reducible refine q_neI ?_; with_reducible conv => whnf)
  | (with_reducible refine q_neS ?_; with_reducible conv => whnf)
  | (with_reducible refine q_neB ?_; with_reducible conv => whnf)
  | (with_reducible refine q_memc ?_; with_reducible conv => whnf)
  | (with_reducible refine q_lkn (by walk_at "lk") ?_; with_reducible conv => whnf)
  | (with_reducible refine q_tix (by walk_at "lk"; done) ?_; with_reducible conv => whnf)
  | (with_reducible refine q_tin ?_; with_reducible conv => whnf)
  | (rw [pf_hit]; with_reducible conv => whnf)
  | (rw [pf_skip]; rotate_left; (focus (decide +kernel; done)); with_reducible conv => whnf)
  | (rw [lk_hit]; with_reducible conv => whnf)
  | (rw [lk_skip1]; rotate_left; (focus (decide +kernel; done)); with_reducible conv => whnf))))
/-! numbers, tuples, values -/
theorem isdig_one {c : Nat} (hc : c ≤ 126) : Txt.isdigit ⟨#[c]⟩ = dig c := by
  have : ∀ c : Fin 127, Txt.isdigit ⟨#[c.val]⟩ = dig c.val := by decide +kernel
  exact this ⟨c, by omega⟩
theorem isdig_take {t : List Nat} {e : Nat} (ht : ∀ c ∈ t, c ≤ 126) : Txt.isdigit (S ((t.drop e).take 1)) = (match t.drop e with
  | c :: _ => dig c
  | [] => false) := by
  cases h : t.drop e with
  | nil => rfl
  | cons c r =>
    have hc : c ∈ t := List.mem_of_mem_drop (by rw [h]; exact List.mem_cons_self)
    exact isdig_one (ht c hc)
theorem tw_all {l : List Nat} : PySem.NumText.AllDigits (l.takeWhile dig) := by
  induction l with
  | nil => exact fun c hc => by cases hc
  | cons d r ih =>
    intro c hc
    rw [List.takeWhile_cons] at hc
    cases hd : dig d with
    | true =>
      rw [hd, if_pos rfl] at hc
      rcases List.mem_cons.mp hc with rfl | hc
      · exact of_decide_eq_true hd
      · exact ih c hc
    | false =>
      rw [hd, if_neg (by decide)] at hc
      cases hc
theorem tw_take (l : List Nat) : l.take (l.takeWhile dig).length = l.takeWhile dig := by
  induction l with
  | nil => rfl
  | cons c r ih =>
    rw [List.takeWhile_cons]
    cases dig c with
    | true => simpa using ih
    | false => rfl
theorem rdDs_at (t : List Nat) (a : Nat) : rdDs (t.drop a) = (t.drop (a + rdSt (t.drop a))).takeWhile dig := by
  unfold rdDs
  rw [List.drop_drop]
theorem rdSt_cases (l : List Nat) : (rdSt l = 0 ∧ l.head? ≠ some 45) ∨ (rdSt l = 1 ∧ ∃ r, l = 45 :: r) := by
  unfold rdSt
  by_cases h : l.head? = some 45
  · rw [if_pos h]
    cases l with
    | nil => cases h
    | cons c r =>
      cases h
      exact .inr ⟨rfl, r, rfl⟩
  · rw [if_neg h]
    exact .inl ⟨rfl, h⟩
theorem int_read {l : List Nat} (h1 : 1 ≤ (rdDs l).length) (h2 : (rdDs l).length ≤ 30) : PySem.intText? (S (l.take (rdSt l + (rdDs l).length))) = some (if rdSt l = 1 then -((dv (rdDs l) : Nat) : Int) else ((dv (rdDs l) : Nat) : Int)) := by
  have hne : rdDs l ≠ [] := fun z => by rw [z] at h1; simp at h1
  have hall : PySem.NumText.AllDigits (rdDs l) := tw_all
  rcases rdSt_cases l with ⟨e, _⟩ | ⟨e, r, hr⟩
  · have ed : rdDs l = l.takeWhile dig := by
      unfold rdDs
      rw [e, List.drop_zero]
    have et : l.take (rdDs l).length = rdDs l := by
      rw [ed]
      exact tw_take l
    rw [e, if_neg (by decide), Nat.zero_add, et]
    have := PySem.intText_digits (x := S (rdDs l)) (by simpa using hall) (by simpa using hne) (by rw [S_len]; omega)
    simpa using this
  · have ed : rdDs l = r.takeWhile dig := by
      unfold rdDs
      rw [e, hr]
      rfl
    have et : l.take (1 + (rdDs l).length) = 45 :: rdDs l := by
      rw [Nat.add_comm, ed]
      rw [hr, List.take_succ_cons, tw_take]
    rw [e, if_pos rfl, et]
    exact PySem.intText_neg (x := S (45 :: rdDs l)) (cs := rdDs l) (by simp) hall hne (by rw [S_len, List.length_cons]; omega)
theorem isdig_cases {t : List Nat} {e : Nat} (ht : ∀ c ∈ t, c ≤ 126) : (Txt.isdigit (S ((t.drop e).take 1)) = true ∧ ∃ c r, t.drop e = c :: r ∧ dig c = true) ∨ (Txt.isdigit (S ((t.drop e).take 1)) = false ∧ (t.drop e).takeWhile dig = []) := by
  rw [isdig_take ht]
  cases h : t.drop e with
  | nil => exact .inr ⟨rfl, rfl⟩
  | cons c r =>
    cases hd : dig c with
    | true => exact .inl ⟨hd, c, r, rfl, hd⟩
    | false => exact .inr ⟨hd, by rw [List.takeWhile_cons, hd]; rfl⟩
theorem sp__read_integer {t : List Nat} {a : Nat} {μ : Mu} {P : Po} {X : Xo} (ht : t.length ≤ 200000) (hc : ∀ c ∈ t, c ≤ 126) (ha : a ≤ t.length)
    (h : match rdInt (t.drop a) with
      | some (i, n) => P (.tup [.int i, .int ((a + n : Nat) : Int)]) μ
      | none => X "BadText" [] μ) : f__read_integer [.str (S t), .int (a : Int)] μ P X := by
  rw [f__read_integer_eq]; unfold f__read_integer_B fDef
  refine ⟨rfl, ?_⟩
  have hS : (S t).length ≤ 16000000 := by
    rw [S_len]
    omega
  walk_at "q"
  refine q_jn (fun ρ' μ' => ρ' = [some (.str (S t)), some (.int (a : Int)), some (.int ((a + rdSt (t.drop a) : Nat) : Int)), none, none] ∧ μ = μ') (fun M hM => ?_) ?_
  · walk_at "q"
    rw [cut_S1, S_one _ t_mi]
    refine q_ifP (fun c => ?_) fun c => ?_
    · walk_at "q"
      refine hM _ _ ⟨?_, rfl⟩
      unfold rdSt
      rw [if_pos c]
      rfl
    · walk_at "q"
      refine hM _ _ ⟨?_, rfl⟩
      unfold rdSt
      rw [if_neg c]
      rfl
  · rintro _ _ ⟨rfl, rfl⟩
    walk_at "q"
    have hst : a + rdSt (t.drop a) ≤ t.length := by
      rcases rdSt_cases (t.drop a) with ⟨e, _⟩ | ⟨e, r, hr⟩
      · omega
      · have := congrArg List.length hr
        rw [List.length_drop, List.length_cons] at this
        omega
    have eD := rdDs_at t a
    refine itWh.mk (fun n ρ μ' => ∃ e : Nat, n = t.length - e ∧ a + rdSt (t.drop a) ≤ e ∧ e ≤ t.length ∧ ρ = [some (.str (S t)), some (.int (a : Int)), some (.int ((a + rdSt (t.drop a) : Nat) : Int)), some (.int (e : Int)), none] ∧
      μ = μ' ∧ rdDs (t.drop a) = (t.drop (a + rdSt (t.drop a))).take (e - (a + rdSt (t.drop a))) ++ (t.drop e).takeWhile dig) (t.length - (a + rdSt (t.drop a))) ⟨a + rdSt (t.drop a), rfl, Nat.le_refl _, hst, rfl, rfl, by rw [eD]; simp⟩ ?_
    rintro n ρ μ' ⟨e, rfl, he1, he2, rfl, rfl, hD⟩
    walk_at "q"
    rw [cut_S1]
    rcases isdig_cases (t := t) (e := e) hc with ⟨z, c, r, hd, hcd⟩ | ⟨z, hd⟩
    · rw [z]
      walk_at "q"
      have hle : e + 1 ≤ t.length := by
        have := congrArg List.length hd
        rw [List.length_drop, List.length_cons] at this
        omega
      rw [hd, List.takeWhile_cons, hcd, if_pos rfl] at hD
      have er : t.drop (e + 1) = r := by
        have := congrArg (List.drop 1) hd
        rw [List.drop_drop] at this
        exact this
      refine ⟨t.length - (e + 1), by omega, e + 1, rfl, by omega, hle, rfl, rfl, ?_⟩
      rw [hD, er]
      have h2 := drop_split (t := t) he1
      have h3 : (t.drop (a + rdSt (t.drop a))).take (e + 1 - (a + rdSt (t.drop a))) = (t.drop (a + rdSt (t.drop a))).take (e - (a + rdSt (t.drop a))) ++ [c] := by
        have hk := take_drop_len (t := t) he1 he2
        rw [hd] at h2
        have gen : ∀ (u v : List Nat) (m : Nat), u.length = m → (u ++ c :: v).take (m + 1) = u ++ [c] := fun u v m e => by
          subst e
          rw [List.take_append]
          simp
          exact List.take_of_length_le (by omega)
        have g := gen _ r _ hk
        rw [← h2, show e - (a + rdSt (t.drop a)) + 1 = e + 1 - (a + rdSt (t.drop a)) by omega] at g
        exact g
      rw [h3]
      simp
    · rw [z]
      walk_at "q"
      rw [hd, List.append_nil] at hD
      have hl : (rdDs (t.drop a)).length = e - (a + rdSt (t.drop a)) := by
        rw [hD]
        exact take_drop_len he1 he2
      have ee : e = a + (rdSt (t.drop a) + (rdDs (t.drop a)).length) := by omega
      have cutD : cutS (S t) (some ((a + rdSt (t.drop a) : Nat) : Int)) (some (e : Int)) = S (rdDs (t.drop a)) := by
        rw [cut_S, ← hD]
      have cutI : cutS (S t) (some (a : Int)) (some (e : Int)) = S ((t.drop a).take (rdSt (t.drop a) + (rdDs (t.drop a)).length)) := by
        rw [cut_S]
        congr 3
        omega
      rw [cutD]
      walk_at "q"
      have lD : (S (rdDs (t.drop a))).length = (rdDs (t.drop a)).length := S_len _
      have lD2 : (S (rdDs (t.drop a))).length ≤ 16000000 := by omega
      walk_at "q"
      rw [lD]
      have bad : ¬ (1 ≤ (rdDs (t.drop a)).length ∧ (rdDs (t.drop a)).length ≤ 30 ∧ ¬ ((rdDs (t.drop a)).head? = some 48 ∧ 1 < rdSt (t.drop a) + (rdDs (t.drop a)).length)) → X "BadText" [] μ := fun c => by
        unfold rdInt at h
        rw [if_neg c] at h
        exact h
      refine q_ifP (fun c1 => ?_) fun c1 => ?_
      · walk_at "q"
        refine q_ifN (fun c2 => ?_) fun c2 => ?_
        · walk_at "q"
          obtain ⟨d0, dr, hdr⟩ : ∃ d0 dr, rdDs (t.drop a) = d0 :: dr := by
            cases z : rdDs (t.drop a) with
            | nil =>
              rw [z] at c1
              simp at c1
            | cons d0 dr => exact ⟨d0, dr, rfl⟩
          have hd0 : (rdDs (t.drop a)).head? = some d0 := by rw [hdr]; rfl
          have good : (¬ ((rdDs (t.drop a)).head? = some 48 ∧ 1 < rdSt (t.drop a) + (rdDs (t.drop a)).length)) → P (.tup [.int (if rdSt (t.drop a) = 1 then -((dv (rdDs (t.drop a)) : Nat) : Int) else ((dv (rdDs (t.drop a)) : Nat) : Int)), .int ((a + (rdSt (t.drop a) + (rdDs (t.drop a)).length) : Nat) : Int)]) μ := fun c => by
            unfold rdInt at h
            rw [if_pos ⟨by omega, by omega, c⟩] at h
            exact h
          have hi := int_read (l := t.drop a) (by omega) (by omega)
          have fin : (¬ ((rdDs (t.drop a)).head? = some 48 ∧ 1 < rdSt (t.drop a) + (rdDs (t.drop a)).length)) → ∀ D : W, sRt (eTup (aCons (eB bIntS (aCons (eSl (eV 0) (foS (eV 1)) (foS (eV 3))) aNil)) (aCons (eV 3) aNil)))
              [some (.str (S t)), some (.int (a : Int)), some (.int ((a + rdSt (t.drop a) : Nat) : Int)), some (.int (e : Int)), some D] μ
              ⟨fun x μ' => Rt P W.non μ', fun w μ' => Rt P w μ', fun _ _ => False, fun _ _ => False, fun _ c fs μ' => ∃ μ'', Sub μ'' μ' ∧ X c fs μ''⟩ := fun c D => by
            walk_at "q"
            rw [cutI]
            have lI : (S ((t.drop a).take (rdSt (t.drop a) + (rdDs (t.drop a)).length))).length ≤ 640 := by
              rw [S_len, List.length_take]
              rcases rdSt_cases (t.drop a) with ⟨z, _⟩ | ⟨z, _⟩ <;> omega
            refine ⟨lI, _, hi, ?_⟩
            walk_at "q"
            refine Rt.now ?_
            rw [ee]
            have := good c
            rw [← ee] at this ⊢
            exact this
          rw [hdr]
          walk_at "q"
          rw [t_ze]
          refine q_ifP (fun c3 => ?_) fun c3 => ?_
          · have c3 : d0 = 48 := by
              have := S_inj (t := [d0]) (u := [48]) c3
              simpa using this
            walk_at "q"
            refine q_ifP (fun c4 => ?_) fun c4 => ?_
            · walk_at "q"
              exact q_ex (bad fun z => z.2.2 ⟨by rw [hd0, c3], by omega⟩)
            · exact fin (fun z => c4 (by omega)) _
          · refine fin (fun z => c3 ?_) _
            have : d0 = 48 := by
              rw [hd0] at z
              simpa using z.1
            rw [this]
        · walk_at "q"
          exact q_ex (bad fun z => c2 (by omega))
      · walk_at "q"
        exact q_ex (bad fun z => c1 (by omega))
/-- what a reader answers -/
def RdSp (G : FW) (f : List Nat → Option (W × Nat)) (t : List Nat) (d : Int) : Prop := ∀ (a : Nat) (μ : Mu) (P : Po) (X : Xo), a ≤ t.length →
  (match f (t.drop a) with
    | some (w, n) => P (.tup [w, .int ((a + n : Nat) : Int)]) μ
    | none => X "BadText" [] μ) → G [.str (S t), .int (a : Int), .int d] μ P X
theorem step (t : List Nat) (ht : t.length ≤ 200000) (hc : ∀ c ∈ t, c ≤ 126) (a : Nat) (μ : Mu) (P : Po) (X : Xo) (ha : a ≤ t.length) (f : List Nat → Option (W × Nat)) (G : FW) (d : Int) (hG : RdSp (f__read_tuple G) f t (d + 1))
    (h : match rdStep f (t.drop a) with
      | some (w, n) => P (.tup [w, .int ((a + n : Nat) : Int)]) μ
      | none => X "BadText" [] μ) : f__read G [.str (S t), .int (a : Int), .int d] μ P X := by
  rw [f__read_eq]; unfold f__read_B fDef
  refine ⟨rfl, ?_⟩
  have hS : (S t).length ≤ 16000000 := by
    rw [S_len]
    omega
  walk_at "q"
  rw [cut_S1]
  walk_at "q"
  rw [S_one _ t_st]
  have int : (match rdInt (t.drop a) with
      | some (i, n) => P (.tup [.int i, .int ((a + n : Nat) : Int)]) μ
      | none => X "BadText" [] μ) → f__read_integer [.str (S t), .int (a : Int)] μ (fun w μ' => Rt P w μ') (fun c fs μ' => ∃ μ'', Sub μ'' μ' ∧ X c fs μ'') := fun h => sp__read_integer ht hc ha (by
        cases e : rdInt (t.drop a) with
        | none =>
          rw [e] at h
          exact q_ex h
        | some q =>
          rw [e] at h
          exact Rt.now h)
  cases ed : t.drop a with
  | nil =>
    rw [ed] at h int
    walk_at "q"
    exact int h
  | cons c r =>
    rw [ed] at h int
    have hl := congrArg List.length ed
    rw [List.length_drop, List.length_cons] at hl
    have er : t.drop (a + 1) = r := by
      have := congrArg (List.drop 1) ed
      rw [List.drop_drop] at this
      exact this
    unfold rdStep at h
    simp only at h
    refine q_ifP (fun c1 => ?_) fun c1 => ?_
    · have c1 : c = 42 := by simpa using c1
      rw [if_pos c1] at h
      walk_at "q"
      exact Rt.now h
    · have c1 : ¬ c = 42 := fun z => c1 (by rw [z]; rfl)
      rw [if_neg c1] at h
      walk_at "q"
      rw [S_one _ t_qu]
      refine q_ifP (fun c2 => ?_) fun c2 => ?_
      · have c2 : c = 39 := by simpa using c2
        rw [if_pos c2] at h
        walk_at "q"
        refine sp__read_string (a := a + 1) ht (by omega) ?_
        rw [er]
        cases e : rdStr r with
        | none =>
          rw [e] at h
          exact q_ex h
        | some q =>
          obtain ⟨s, n⟩ := q
          rw [e] at h
          refine Rt.now ?_
          rw [show a + 1 + n = a + (n + 1) by omega]
          exact h
      · have c2 : ¬ c = 39 := fun z => c2 (by rw [z]; rfl)
        rw [if_neg c2] at h
        walk_at "q"
        rw [S_one _ t_op]
        refine q_ifP (fun c3 => ?_) fun c3 => ?_
        · have c3 : c = 40 := by simpa using c3
          rw [if_pos c3] at h
          walk_at "q"
          refine hG (a + 1) _ _ _ (by omega) ?_
          rw [er]
          cases e : f r with
          | none =>
            rw [e] at h
            exact q_ex h
          | some q =>
            obtain ⟨s, n⟩ := q
            rw [e] at h
            refine Rt.now ?_
            rw [show a + 1 + n = a + (n + 1) by omega]
            exact h
        · have c3 : ¬ c = 40 := fun z => c3 (by rw [z]; rfl)
          rw [if_neg c3] at h
          walk_at "q"
          refine int ?_
          cases e : rdInt (c :: r) with
          | none =>
            rw [e] at h
            exact h
          | some q =>
            rw [e] at h
            exact h
end Q
namespace Q
open PySem L2
local macro_rules | `(tactic| walk_at "mu") => `(tactic| (repeat (first | exact mset_same | assumption | (rw [mset_ne]; rotate_left; (first | assumption | exact Ne.symm (by assumption))))))
local macro_rules | `(tactic| walk_at "lk") => `(tactic| (repeat (first | exact lk_hit | exact lk_nil | refine lk_skip (by decide +kernel) ?_)))
local macro_rules | `(tactic| walk_at "pf") => `(tactic| (repeat (first | rw [pf_nil] | rw [pf_hit] | (rw [pf_skip]; rotate_left; (focus (decide +kernel; done))))))
local macro_rules | `(tactic| walk_at "q") => `(tactic| ((with_reducible conv => whnf); repeat (first
  | (with_reducible refine q_t (by assumption) ?_; with_reducible conv => whnf)
  | (with_reducible refine q_f (by assumption) ?_; with_reducible conv => whnf)
  | (with_reducible refine q_t (by with_reducible rfl) ?_; with_reducible conv => whnf)
  | (with_reducible refine q_f (by with_reducible rfl) ?_; with_reducible conv => whnf)
  | (with_reducible refine q_t (by decide) ?_; with_reducible conv => whnf)
  | (with_reducible refine q_f (by decide) ?_; with_reducible conv => whnf)
  | (with_reducible refine q_t (decide_eq_true (by omega)) ?_; with_reducible conv => whnf)
  | (with_reducible refine q_f (decide_eq_false (by omega)) ?_; with_reducible conv => whnf)
  | (with_reducible refine q_f (q_nn (by omega)) ?_; with_reducible conv => whnf)
  | (with_reducible refine q_t (q_nt (by omega)) ?_; with_reducible conv => whnf)
  | (with_reducible refine q_len (by with_unfolding_all rfl) ?_; with_reducible conv => whnf)
  | (with_reducible refine q_leq (by with_unfolding_all rfl) ?_; with_reducible conv => whnf)
  | (with_reducible refine q_and (by first | assumption | exact True.intro | omega | (simp only [List.length_map, List.length_append, List.length_cons, List.length_nil]; omega) | decide) ?_; with_reducible conv => whnf)
  | (with_reducible refine q_le (by with_unfolding_all rfl) ?_; with_reducible conv => whnf)
  | (with_reducible refine q_and tyL_lst ?_; with_reducible conv => whnf)
  | (with_reducible refine q_and tyL_rol ?_; with_reducible conv => whnf)
  | (with_reducible refine q_and (tyL_ref (by walk_at "mu")) ?_; with_reducible conv => whnf)
  | (with_reducible refine q_and (tyD_ref (by walk_at "mu")) ?_; with_reducible conv => whnf)
  | (with_reducible refine q_and (rdD_ref (by walk_at "mu")) ?_; with_reducible conv => whnf)
  | (rw [pick_c0]; with_reducible conv => whnf)
  | (rw [pick_c1]; with_reducible conv => whnf)
  | (rw [pick_c2]; with_reducible conv => whnf)
  | (rw [pick_c3]; with_reducible conv => whnf)
  | (rw [pick_c4]; with_reducible conv => whnf)
  | (rw [pick_c5]; with_reducible conv => whnf)
  | (rw [mset_same]; with_reducible conv => whnf)
  | (rw [mset_ne (by assumption)]; with_reducible conv => whnf)
  | (rw [mset_ne]; rotate_left; (first | assumption | exact Ne.symm (by assumption)); with_reducible conv => whnf)
  | (rw [rdL_ref]; rotate_left; (focus (walk_at "mu"; done)); with_reducible conv => whnf)
  | (rw [rdL_refD]; rotate_left; (focus (walk_at "mu"; done)); with_reducible conv => whnf)
  | (rw [rdD_refD]; rotate_left; (focus (walk_at "mu"; done)); with_reducible conv => whnf)
  | (rw [rdM_ref]; rotate_left; (focus (walk_at "mu"; done)); with_reducible conv => whnf)
  | (rw [rdL_refK]; rotate_left; (focus (walk_at "mu"; done)); with_reducible conv => whnf)
  | (rw [rdD_refK]; rotate_left; (focus (walk_at "mu"; done)); with_reducible conv => whnf)
  | (rw [tyW_refL]; rotate_left; (focus (walk_at "mu"; done)); with_reducible conv => whnf)
  | (rw [tyW_refD]; rotate_left; (focus (walk_at "mu"; done)); with_reducible conv => whnf)
  | (rw [drf_ref]; rotate_left; (focus (walk_at "mu"; done)); with_reducible conv => whnf)
  | ((conv => (arg 2; tactic' => (walk_at "mu"; done))); with_reducible conv => whnf)
  | (with_reducible refine q_and (Eq.refl _) ?_; with_reducible conv => whnf)
  | (with_reducible refine q_and (MulO.r (by decide)) ?_; with_reducible conv => whnf)
  | (with_reducible refine q_and (MulO.l (by decide)) ?_; with_reducible conv => whnf)
  | (with_reducible refine q_and (MulO.r (by omega)) ?_; with_reducible conv => whnf)
  | (with_reducible refine q_and (MulO.l (by omega)) ?_; with_reducible conv => whnf)
  | (with_reducible refine q_pow (by decide) ?_; with_reducible conv => whnf)
  | (with_reducible refine q_nisT (by first | assumption | with_reducible rfl) ?_; with_reducible conv => whnf)
  | (with_reducible refine q_nisF (by first | assumption | with_reducible rfl) ?_; with_reducible conv => whnf)
  | (with_reducible refine q_eqI ?_; with_reducible conv => whnf)
  | (with_reducible refine q_eqS ?_; with_reducible conv => whnf)
  | (with_reducible refine q_eqB ?_; with_reducible conv => whnf)
  | (with_reducible refine q_neI ?_; with_reducible conv => whnf)
  | (with_reducible refine q_neS ?_; with_reducible conv => whnf)
  | (with_reducible refine q_neB ?_; with_reducible conv => whnf)
  | (with_reducible refine q_memc ?_; with_reducible conv => whnf)
  | (with_reducible refine q_lkn (by walk_at "lk") ?_; with_reducible conv => whnf)
  | (with_reducible refine q_tix (by walk_at "lk"; done) ?_; with_reducible conv => whnf)
  | (with_reducible refine q_tin ?_; with_reducible conv => whnf)
  | (rw [pf_hit]; with_reducible conv => whnf)
  | (rw [pf_skip]; rotate_left; (focus (decide +kernel; done)); with_reducible conv => whnf)
  | (rw [lk_hit]; with_reducible conv => whnf)
  | (rw [lk_skip1]; rotate_left; (focus (decide +kernel; done)); with_reducible conv => whnf))))
/-! texts: the writer's defs -/
theorem S_app (a b : List Nat) : S a ++ S b = S (a ++ b) := by
  show (⟨a.toArray ++ b.toArray⟩ : Str) = ⟨(a ++ b).toArray⟩
  simp
end Q
namespace Q
open PySem L2
local macro_rules | `(tactic| walk_at "mu") => `(tactic| (repeat (first | exact mset_same | assumption | (rw [mset_ne]; rotate_left; (first | assumption | exact Ne.symm (by assumption))))))
local macro_rules | `(tactic| walk_at "lk") => `(tactic| (repeat (first | exact lk_hit | exact lk_nil | refine lk_skip (by decide +kernel) ?_)))
local macro_rules | `(tactic| walk_at "q") => `(tactic| ((with_reducible conv => whnf); repeat (first
  | (with_reducible refine q_t (by assumption) ?_; with_reducible conv => whnf)
  | (with_reducible refine q_f (by assumption) ?_; with_reducible conv => whnf)
  | (with_reducible refine q_t (by with_reducible rfl) ?_; with_reducible conv => whnf)
  | (with_reducible refine q_f (by with_reducible rfl) ?_; with_reducible conv => whnf)
  | (with_reducible refine q_t (by decide) ?_; with_reducible conv => whnf)
  | (with_reducible refine q_f (by decide) ?_; with_reducible conv => whnf)
  | (with_reducible refine q_t (decide_eq_true (by omega)) ?_; with_reducible conv => whnf)
  | (with_reducible refine q_f (decide_eq_false (by omega)) ?_; with_reducible conv => whnf)
  | (with_reducible refine q_f (q_nn (by omega)) ?_; with_reducible conv => whnf)
  | (with_reducible refine q_t (q_nt (by omega)) ?_; with_reducible conv => whnf)
  | (with_reducible refine q_len (by with_unfolding_all rfl) ?_; with_reducible conv => whnf)
  | (with_reducible refine q_leq (by with_unfolding_all rfl) ?_; with_reducible conv => whnf)
  | (with_reducible refine q_and (by first | assumption | exact True.intro | omega | (simp only [List.length_map, List.length_append, List.length_cons, List.length_nil]; omega) | decide) ?_; with_reducible conv => whnf)
  | (with_reducible refine q_le (by with_unfolding_all rfl) ?_; with_reducible conv => whnf)
  | (with_reducible refine q_and tyL_lst ?_; with_reducible conv => whnf)
  | (with_reducible refine q_and tyL_rol ?_; with_reducible conv => whnf)
  | (with_reducible refine q_and (tyL_ref (by walk_at "mu")) ?_; with_reducible conv => whnf)
  | (with_reducible refine q_and (tyD_ref (by walk_at "mu")) ?_; with_reducible conv => whnf)
  | (with_reducible refine q_and (rdD_ref (by walk_at "mu")) ?_; with_reducible conv => whnf)
  | (rw [pick_c0]; with_reducible conv => whnf)
  | (rw [pick_c1]; with_reducible conv => whnf)
  | (rw [pick_c2]; with_reducible conv => whnf)
  | (rw [pick_c3]; with_reducible conv => whnf)
  | (rw [pick_c4]; with_reducible conv => whnf)
  | (rw [pick_c5]; with_reducible conv => whnf)
  | (rw [mset_same]; with_reducible conv => whnf)
  | (rw [mset_ne (by assumption)]; with_reducible conv => whnf)
  | (rw [mset_ne]; rotate_left; (first | assumption | exact Ne.symm (by assumption)); with_reducible conv => whnf)
  | (rw [rdL_ref]; rotate_left; (focus (walk_at "mu"; done)); with_reducible conv => whnf)
  | (rw [rdL_refD]; rotate_left; (focus (walk_at "mu"; done)); with_reducible conv => whnf)
  | (rw [rdD_refD]; rotate_left; (focus (walk_at "mu"; done)); with_reducible conv => whnf)
  | (rw [rdM_ref]; rotate_left; (focus (walk_at "mu"; done)); with_reducible conv => whnf)
  | (rw [rdL_refK]; rotate_left; (focus (walk_at "mu"; done)); with_reducible conv => whnf)
  | (rw [rdD_refK]; rotate_left; (focus (walk_at "mu"; done)); with_reducible conv => whnf)
  | (rw [tyW_refL]; rotate_left; (focus (walk_at "mu"; done)); with_reducible conv => whnf)
  | (rw [tyW_refD]; rotate_left; (focus (walk_at "mu"; done)); with_reducible conv => whnf)
  | (rw [drf_ref]; rotate_left; (focus (walk_at "mu"; done)); with_reducible conv => whnf)
  | ((conv => (arg 2; tactic' => (walk_at "mu"; done))); with_reducible conv => whnf)
  | (with_reducible refine q_and (Eq.refl _) ?_; with_reducible conv => whnf)
  | (with_reducible refine q_and (MulO.r (by decide)) ?_; with_reducible conv => whnf)
  | (with_reducible refine q_and (MulO.l (by decide)) ?_; with_reducible conv => whnf)
  | (with_reducible refine q_and (MulO.r (by omega)) ?_; with_reducible conv => whnf)
  | (with_reducible refine q_and (MulO.l (by omega)) ?_; with_reducible conv => whnf)
  | (with_reducible refine q_pow (by decide) ?_; with_reducible conv => whnf)
  | (with_reducible refine q_nisT (by first | assumption | with_reducible rfl) ?_; with_reducible conv => whnf)
  | (with_reducible refine q_nisF (by first | assumption | with_reducible rfl) ?_; with_reducible conv => whnf)
  | (with_reducible refine q_eqI ?_; with_reducible conv => whnf)
  | (with_reducible refine q_eqS ?_; with_reducible conv => whnf)
  | (with_reducible refine q_eqB ?_; with_reducible conv => whnf)
  | (with_reducible refine q_neI ?_; with_reducible conv => whnf)
  | (with_reducible refine q_neS ?_; with_reducible conv => whnf)
  | (with_reducible refine q_neB ?_; with_reducible conv => whnf)
  | (with_reducible refine q_memc ?_; with_reducible conv => whnf)
  | (with_reducible refine q_lkn (by walk_at "lk") ?_; with_reducible conv => whnf)
  | (with_reducible refine q_tix (by walk_at "lk"; done) ?_; with_reducible conv => whnf)
  | (with_reducible refine q_tin ?_; with_reducible conv => whnf)
  | (rw [pf_hit]; with_reducible conv => whnf)
  | (rw [pf_skip]; rotate_left; (focus (decide +kernel; done)); with_reducible conv => whnf)
  | (rw [lk_hit]; with_reducible conv => whnf)
  | (rw [lk_skip1]; rotate_left; (focus (decide +kernel; done)); with_reducible conv => whnf))))
/-! clients that are none: what the law draws -/
theorem pick_in {l : List W} {i : Int} (h0 : 0 ≤ i) (h : i < l.length) : ∃ w, pick l i = some w ∧ w ∈ l := by
  have hk : i.toNat < l.length := by omega
  exact ⟨l[i.toNat], pick_nat h0 (List.getElem?_eq_getElem hk), List.getElem_mem hk⟩
theorem pick_str {l : List Str} {i : Int} (h0 : 0 ≤ i) (h : i < l.length) : ∃ z ∈ l, pick (l.map W.str) i = some (.str z) := by
  obtain ⟨w, h1, h2⟩ := pick_in (l := l.map W.str) h0 (by rw [List.length_map]; exact h)
  obtain ⟨j, h3, rfl⟩ := List.mem_map.mp h2
  exact ⟨j, h3, h1⟩
end Q
namespace Q
open PySem L2
local macro_rules | `(tactic| walk_at "mu") => `(tactic| (repeat (first | exact mset_same | assumption | (rw [mset_ne]; rotate_left; (first | assumption | exact Ne.symm (by assumption))))))
local macro_rules | `(tactic| walk_at "lk") => `(tactic| (repeat (first | exact lk_hit | exact lk_nil | refine lk_skip (by decide +kernel) ?_)))
local macro_rules | `(tactic| walk_at "pf") => `(tactic| (repeat (first | rw [pf_nil] | rw [pf_hit] | (rw [pf_skip]; rotate_left; (focus (decide +kernel; done))))))
local macro_rules | `(tactic| walk_at "q") => `(tactic| ((with_reducible conv => whnf); repeat (first
  | (with_reducible refine q_t (by assumption) ?_; with_reducible conv => whnf)
  | (with_reducible refine q_f (by assumption) ?_; with_reducible conv => whnf)
  | (with_reducible refine q_t (by with_reducible rfl) ?_; with_reducible conv => whnf)
  | (with_reducible refine q_f (by with_reducible rfl) ?_; with_reducible conv => whnf)
  | (with_reducible refine q_t (by decide) ?_; with_reducible conv => whnf)
  | (with_reducible refine q_f (by decide) ?_; with_reducible conv => whnf)
  | (with_reducible refine q_t (decide_eq_true (by omega)) ?_; with_reducible conv => whnf)
  | (with_reducible refine q_f (decide_eq_false (by omega)) ?_; with_reducible conv => whnf)
  | (with_reducible refine q_f (q_nn (by omega)) ?_; with_reducible conv => whnf)
  | (with_reducible refine q_t (q_nt (by omega)) ?_; with_reducible conv => whnf)
  | (with_reducible refine q_len (by with_unfolding_all rfl) ?_; with_reducible conv => whnf)
  | (with_reducible refine q_leq (by with_unfolding_all rfl) ?_; with_reducible conv => whnf)
  | (with_reducible refine q_and (by first | assumption | exact True.intro | omega | (simp only [List.length_map, List.length_append, List.length_cons, List.length_nil]; omega) | decide) ?_; with_reducible conv => whnf)
  | (with_reducible refine q_le (by with_unfolding_all rfl) ?_; with_reducible conv => whnf)
  | (with_reducible refine q_and tyL_lst ?_; with_reducible conv => whnf)
  | (with_reducible refine q_and tyL_rol ?_; with_reducible conv => whnf)
  | (with_reducible refine q_and (tyL_ref (by walk_at "mu")) ?_; with_reducible conv => whnf)
  | (with_reducible refine q_and (tyD_ref (by walk_at "mu")) ?_; with_reducible conv => whnf)
  | (with_reducible refine q_and (rdD_ref (by walk_at "mu")) ?_; with_reducible conv => whnf)
  | (rw [pick_c0]; with_reducible conv => whnf)
  | (rw [pick_c1]; with_reducible conv => whnf)
  | (rw [pick_c2]; with_reducible conv => whnf)
  | (rw [pick_c3]; with_reducible conv => whnf)
  | (rw [pick_c4]; with_reducible conv => whnf)
  | (rw [pick_c5]; with_reducible conv => whnf)
  | (rw [mset_same]; with_reducible conv => whnf)
  | (rw [mset_ne (by assumption)]; with_reducible conv => whnf)
  | (rw [mset_ne]; rotate_left; (first | assumption | exact Ne.symm (by assumption)); with_reducible conv => whnf)
  | (rw [rdL_ref]; rotate_left; (focus (walk_at "mu"; done)); with_reducible conv => whnf)
  | (rw [rdL_refD]; rotate_left; (focus (walk_at "mu"; done)); with_reducible conv => whnf)
  | (rw [rdD_refD]; rotate_left; (focus (walk_at "mu"; done)); with_reducible conv => whnf)
  | (rw [rdM_ref]; rotate_left; (focus (walk_at "mu"; done)); with_reducible conv => whnf)
  | (rw [rdL_refK]; rotate_left; (focus (walk_at "mu"; done)); with_reducible conv => whnf)
  | (rw [rdD_refK]; rotate_left; (focus (walk_at "mu"; done)); with_reducible conv => whnf)
  | (rw [tyW_refL]; rotate_left; (focus (walk_at "mu"; done)); with_reducible conv => whnf)
  | (rw [tyW_refD]; rotate_left; (focus (walk_at "mu"; done)); with_reducible conv => whnf)
  | (rw [drf_ref]; rotate_left; (focus (walk_at "mu"; done)); with_reducible conv => whnf)
  | ((conv => (arg 2; tactic' => (walk_at "mu"; done))); with_reducible conv => whnf)
  | (with_reducible refine q_and (Eq.refl _) ?_; with_reducible conv => whnf)
  | (with_reducible refine q_and (MulO.r (by decide)) ?_; with_reducible conv => whnf)
  | (with_reducible refine q_and (MulO.l (by decide)) ?_; with_reducible conv => whnf)
  | (with_reducible refine q_and (MulO.r (by omega)) ?_; with_reducible conv => whnf)
  | (with_reducible refine q_and (MulO.l (by omega)) ?_; with_reducible conv => whnf)
  | (with_reducible refine q_pow (by decide) ?_; with_reducible conv => whnf)
  | (with_reducible refine q_nisT (by first | assumption | with_reducible rfl) ?_; with_reducible conv => whnf)
  | (with_reducible refine q_nisF (by first | assumption | with_reducible rfl) ?_; with_reducible conv => whnf)
  | (with_reducible refine q_eqI ?_; with_reducible conv => whnf)
  | (with_reducible refine q_eqS ?_; with_reducible conv => whnf)
  | (with_reducible refine q_eqB ?_; with_reducible conv => whnf)
  | (with_reducible refine q_neI ?_; with_reducible conv => whnf)
  | (with_reducible refine q_neS ?_; with_reducible conv => whnf)
  | (with_reducible refine q_neB ?_; with_reducible conv => whnf)
  | (with_reducible refine q_memc ?_; with_reducible conv => whnf)
  | (with_reducible refine q_lkn (by walk_at "lk") ?_; with_reducible conv => whnf)
  | (with_reducible refine q_tix (by walk_at "lk"; done) ?_; with_reducible conv => whnf)
  | (with_reducible refine q_tin ?_; with_reducible conv => whnf)
  | (rw [pf_hit]; with_reducible conv => whnf)
  | (rw [pf_skip]; rotate_left; (focus (decide +kernel; done)); with_reducible conv => whnf)
  | (rw [lk_hit]; with_reducible conv => whnf)
  | (rw [lk_skip1]; rotate_left; (focus (decide +kernel; done)); with_reducible conv => whnf))))
/-! decode reads back: what the law draws and compares -/
/-! comparing -/
end Q
namespace Q
open PySem
/-! what is read is written so -/
end Q
namespace Q
open PySem L2
local macro_rules | `(tactic| walk_at "mu") => `(tactic| (repeat (first | exact mset_same | assumption | (rw [mset_ne]; rotate_left; (first | assumption | exact Ne.symm (by assumption))))))
local macro_rules | `(tactic| walk_at "lk") => `(tactic| (repeat (first | exact lk_hit | exact lk_nil | refine lk_skip (by decide +kernel) ?_)))
local macro_rules | `(tactic| walk_at "pf") => `(tactic| (repeat (first | rw [pf_nil] | rw [pf_hit] | (rw [pf_skip]; rotate_left; (focus (decide +kernel; done))))))
local macro_rules | `(tactic| walk_at "q") => `(tactic| ((with_reducible conv => whnf); repeat (first
  | (with_reducible refine q_t (by assumption) ?_; with_reducible conv => whnf)
  | (with_reducible refine q_f (by assumption) ?_; with_reducible conv => whnf)
  | (with_reducible refine q_t (by with_reducible rfl) ?_; with_reducible conv => whnf)
  | (with_reducible refine q_f (by with_reducible rfl) ?_; with_reducible conv => whnf)
  | (with_reducible refine q_t (by decide) ?_; with_reducible conv => whnf)
  | (with_reducible refine q_f (by decide) ?_; with_reducible conv => whnf)
  | (with_reducible refine q_t (decide_eq_true (by omega)) ?_; with_reducible conv => whnf)
  | (with_reducible refine q_f (decide_eq_false (by omega)) ?_; with_reducible conv => whnf)
  | (with_reducible refine q_f (q_nn (by omega)) ?_; with_reducible conv => whnf)
  | (with_reducible refine q_t (q_nt (by omega)) ?_; with_reducible conv => whnf)
  | (with_reducible refine q_len (by with_unfolding_all rfl) ?_; with_reducible conv => whnf)
  | (with_reducible refine q_leq (by with_unfolding_all rfl) ?_; with_reducible conv => whnf)
  | (with_reducible refine q_and (by first | assumption | exact True.intro | omega | (simp only [List.length_map, List.length_append, List.length_cons, List.length_nil]; omega) | decide) ?_; with_reducible conv => whnf)
  | (with_reducible refine q_le (by with_unfolding_all rfl) ?_; with_reducible conv => whnf)
  | (with_reducible refine q_and tyL_lst ?_; with_reducible conv => whnf)
  | (with_reducible refine q_and tyL_rol ?_; with_reducible conv => whnf)
  | (with_reducible refine q_and (tyL_ref (by walk_at "mu")) ?_; with_reducible conv => whnf)
  | (with_reducible refine q_and (tyD_ref (by walk_at "mu")) ?_; with_reducible conv => whnf)
  | (with_reducible refine q_and (rdD_ref (by walk_at "mu")) ?_; with_reducible conv => whnf)
  | (rw [pick_c0]; with_reducible conv => whnf)
  | (rw [pick_c1]; with_reducible conv => whnf)
  | (rw [pick_c2]; with_reducible conv => whnf)
  | (rw [pick_c3]; with_reducible conv => whnf)
  | (rw [pick_c4]; with_reducible conv => whnf)
  | (rw [pick_c5]; with_reducible conv => whnf)
  | (rw [mset_same]; with_reducible conv => whnf)
  | (rw [mset_ne (by assumption)]; with_reducible conv => whnf)
  | (rw [mset_ne]; rotate_left; (first | assumption | exact Ne.symm (by assumption)); with_reducible conv => whnf)
  | (rw [rdL_ref]; rotate_left; (focus (walk_at "mu"; done)); with_reducible conv => whnf)
  | (rw [rdL_refD]; rotate_left; (focus (walk_at "mu"; done)); with_reducible conv => whnf)
  | (rw [rdD_refD]; rotate_left; (focus (walk_at "mu"; done)); with_reducible conv => whnf)
  | (rw [rdM_ref]; rotate_left; (focus (walk_at "mu"; done)); with_reducible conv => whnf)
  | (rw [rdL_refK]; rotate_left; (focus (walk_at "mu"; done)); with_reducible conv => whnf)
  | (rw [rdD_refK]; rotate_left; (focus (walk_at "mu"; done)); with_reducible conv => whnf)
  | (rw [tyW_refL]; rotate_left; (focus (walk_at "mu"; done)); with_reducible conv => whnf)
  | (rw [tyW_refD]; rotate_left; (focus (walk_at "mu"; done)); with_reducible conv => whnf)
  | (rw [drf_ref]; rotate_left; (focus (walk_at "mu"; done)); with_reducible conv => whnf)
  | ((conv => (arg 2; tactic' => (walk_at "mu"; done))); with_reducible conv => whnf)
  | (with_reducible refine q_and (Eq.refl _) ?_; with_reducible conv => whnf)
  | (with_reducible refine q_and (MulO.r (by decide)) ?_; with_reducible conv => whnf)
  | (with_reducible refine q_and (MulO.l (by decide)) ?_; with_reducible conv => whnf)
  | (with_reducible refine q_and (MulO.r (by omega)) ?_; with_reducible conv => whnf)
  | (with_reducible refine q_and (MulO.l (by omega)) ?_; with_reducible conv => whnf)
  | (with_reducible refine q_pow (by decide) ?_; with_reducible conv => whnf)
  | (with_reducible refine q_nisT (by first | assumption | with_reducible rfl) ?_; with_reducible conv => whnf)
  | (with_reducible refine q_nisF (by first | assumption | with_reducible rfl) ?_; with_reducible conv => whnf)
  | (with_reducible refine q_eqI ?_; with_reducible conv => whnf)
  | (with_reducible refine q_eqS ?_; with_reducible conv => whnf)
  | (with_reducible refine q_eqB ?_; with_reducible conv => whnf)
  | (with_reducible refine q_neI ?_; with_reducible conv => whnf)
  | (with_reducible refine q_neS ?_; with_reducible conv => whnf)
  | (with_reducible refine q_neB ?_; with_reducible conv => whnf)
  | (with_reducible refine q_memc ?_; with_reducible conv => whnf)
  | (with_reducible refine q_lkn (by walk_at "lk") ?_; with_reducible conv => whnf)
  | (with_reducible refine q_tix (by walk_at "lk"; done) ?_; with_reducible conv => whnf)
  | (with_reducible refine q_tin ?_; with_reducible conv => whnf)
  | (rw [pf_hit]; with_reducible conv => whnf)
  | (rw [pf_skip]; rotate_left; (focus (decide +kernel; done)); with_reducible conv => whnf)
  | (rw [lk_hit]; with_reducible conv => whnf)
  | (rw [lk_skip1]; rotate_left; (focus (decide +kernel; done)); with_reducible conv => whnf))))
/-! lines -/
end Q
namespace Q
open PySem L2
local macro_rules | `(tactic| walk_at "mu") => `(tactic| (repeat (first | exact mset_same | assumption | (rw [mset_ne]; rotate_left; (first | assumption | exact Ne.symm (by assumption))))))
local macro_rules | `(tactic| walk_at "lk") => `(tactic| (repeat (first | exact lk_hit | exact lk_nil | refine lk_skip (by decide +kernel) ?_)))
local macro_rules | `(tactic| walk_at "pf") => `(tactic| (repeat (first | rw [pf_nil] | rw [pf_hit] | (rw [pf_skip]; rotate_left; (focus (decide +kernel; done))))))
local macro_rules | `(tactic| walk_at "q") => `(tactic| ((with_reducible conv => whnf); repeat (first
  | (with_reducible refine q_t (by assumption) ?_; with_reducible conv => whnf)
  | (with_reducible refine q_f (by assumption) ?_; with_reducible conv => whnf)
  | (with_reducible refine q_t (by with_reducible rfl) ?_; with_reducible conv => whnf)
  | (with_reducible refine q_f (by with_reducible rfl) ?_; with_reducible conv => whnf)
  | (with_reducible refine q_t (by decide) ?_; with_reducible conv => whnf)
  | (with_reducible refine q_f (by decide) ?_; with_reducible conv => whnf)
  | (with_reducible refine q_t (decide_eq_true (by omega)) ?_; with_reducible conv => whnf)
  | (with_reducible refine q_f (decide_eq_false (by omega)) ?_; with_reducible conv => whnf)
  | (with_reducible refine q_f (q_nn (by omega)) ?_; with_reducible conv => whnf)
  | (with_reducible refine q_t (q_nt (by omega)) ?_; with_reducible conv => whnf)
  | (with_reducible refine q_len (by with_unfolding_all rfl) ?_; with_reducible conv => whnf)
  | (with_reducible refine q_leq (by with_unfolding_all rfl) ?_; with_reducible conv => whnf)
  | (with_reducible refine q_and (by first | assumption | exact True.intro | omega | (simp only [List.length_map, List.length_append, List.length_cons, List.length_nil]; omega) | decide) ?_; with_reducible conv => whnf)
  | (with_reducible refine q_le (by with_unfolding_all rfl) ?_; with_reducible conv => whnf)
  | (with_reducible refine q_and tyL_lst ?_; with_reducible conv => whnf)
  | (with_reducible refine q_and tyL_rol ?_; with_reducible conv => whnf)
  | (with_reducible refine q_and (tyL_ref (by walk_at "mu")) ?_; with_reducible conv => whnf)
  | (with_reducible refine q_and (tyD_ref (by walk_at "mu")) ?_; with_reducible conv => whnf)
  | (with_reducible refine q_and (rdD_ref (by walk_at "mu")) ?_; with_reducible conv => whnf)
  | (rw [pick_c0]; with_reducible conv => whnf)
  | (rw [pick_c1]; with_reducible conv => whnf)
  | (rw [pick_c2]; with_reducible conv => whnf)
  | (rw [pick_c3]; with_reducible conv => whnf)
  | (rw [pick_c4]; with_reducible conv => whnf)
  | (rw [pick_c5]; with_reducible conv => whnf)
  | (rw [mset_same]; with_reducible conv => whnf)
  | (rw [mset_ne (by assumption)]; with_reducible conv => whnf)
  | (rw [mset_ne]; rotate_left; (first | assumption | exact Ne.symm (by assumption)); with_reducible conv => whnf)
  | (rw [rdL_ref]; rotate_left; (focus (walk_at "mu"; done)); with_reducible conv => whnf)
  | (rw [rdL_refD]; rotate_left; (focus (walk_at "mu"; done)); with_reducible conv => whnf)
  | (rw [rdD_refD]; rotate_left; (focus (walk_at "mu"; done)); with_reducible conv => whnf)
  | (rw [rdM_ref]; rotate_left; (focus (walk_at "mu"; done)); with_reducible conv => whnf)
  | (rw [rdL_refK]; rotate_left; (focus (walk_at "mu"; done)); with_reducible conv => whnf)
  | (rw [rdD_refK]; rotate_left; (focus (walk_at "mu"; done)); with_reducible conv => whnf)
  | (rw [tyW_refL]; rotate_left; (focus (walk_at "mu"; done)); with_reducible conv => whnf)
  | (rw [tyW_refD]; rotate_left; (focus (walk_at "mu"; done)); with_reducible conv => whnf)
  | (rw [drf_ref]; rotate_left; (focus (walk_at "mu"; done)); with_reducible conv => whnf)
  | ((conv => (arg 2; tactic' => (walk_at "mu"; done))); with_reducible conv => whnf)
  | (with_reducible refine q_and (Eq.refl _) ?_; with_reducible conv => whnf)
  | (with_reducible refine q_and (MulO.r (by decide)) ?_; with_reducible conv => whnf)
  | (with_reducible refine q_and (MulO.l (by decide)) ?_; with_reducible conv => whnf)
  | (with_reducible refine q_and (MulO.r (by omega)) ?_; with_reducible conv => whnf)
  | (with_reducible refine q_and (MulO.l (by omega)) ?_; with_reducible conv => whnf)
  | (with_reducible refine q_pow (by decide) ?_; with_reducible conv => whnf)
  | (with_reducible refine q_nisT (by first | assumption | with_reducible rfl) ?_; with_reducible conv => whnf)
  | (with_reducible refine q_nisF (by first | assumption | with_reducible rfl) ?_; with_reducible conv => whnf)
  | (with_reducible refine q_eqI ?_; with_reducible conv => whnf)
  | (with_reducible refine q_eqS ?_; with_reducible conv => whnf)
  | (with_reducible refine q_eqB ?_; with_reducible conv => whnf)
  | (with_reducible refine q_neI ?_; with_reducible conv => whnf)
  | (with_reducible refine q_neS ?_; with_reducible conv => whnf)
  | (with_reducible refine q_neB ?_; with_reducible conv => whnf)
  | (with_reducible refine q_memc ?_; with_reducible conv => whnf)
  | (with_reducible refine q_lkn (by walk_at "lk") ?_; with_reducible conv => whnf)
  | (with_reducible refine q_tix (by walk_at "lk"; done) ?_; with_reducible conv => whnf)
  | (with_reducible refine q_tin ?_; with_reducible conv => whnf)
  | (rw [pf_hit]; with_reducible conv => whnf)
  | (rw [pf_skip]; rotate_left; (focus (decide +kernel; done)); with_reducible conv => whnf)
  | (rw [lk_hit]; with_reducible conv => whnf)
  | (rw [lk_skip1]; rotate_left; (focus (decide +kernel; done)); with_reducible conv => whnf))))
/-! lines: their form, the law's defs -/
/-! the law's texts -/
end Q
namespace Q
open PySem L2
local macro_rules | `(tactic| walk_at "mu") => `(tactic| (repeat (first | exact mset_same | assumption | (rw [mset_ne]; rotate_left; (first | assumption | exact Ne.symm (by assumption))))))
local macro_rules | `(tactic| walk_at "lk") => `(tactic| (repeat (first | exact lk_hit | exact lk_nil | refine lk_skip (by decide +kernel) ?_)))
local macro_rules | `(tactic| walk_at "pf") => `(tactic| (repeat (first | rw [pf_nil] | rw [pf_hit] | (rw [pf_skip]; rotate_left; (focus (decide +kernel; done))))))
local macro_rules | `(tactic| walk_at "q") => `(tactic| ((with_reducible conv => whnf); repeat (first
  | (with_reducible refine q_t (by assumption) ?_; with_reducible conv => whnf)
  | (with_reducible refine q_f (by assumption) ?_; with_reducible conv => whnf)
  | (with_reducible refine q_t (by with_reducible rfl) ?_; with_reducible conv => whnf)
  | (with_reducible refine q_f (by with_reducible rfl) ?_; with_reducible conv => whnf)
  | (with_reducible refine q_t (by decide) ?_; with_reducible conv => whnf)
  | (with_reducible refine q_f (by decide) ?_; with_reducible conv => whnf)
  | (with_reducible refine q_t (decide_eq_true (by omega)) ?_; with_reducible conv => whnf)
  | (with_reducible refine q_f (decide_eq_false (by omega)) ?_; with_reducible conv => whnf)
  | (with_reducible refine q_f (q_nn (by omega)) ?_; with_reducible conv => whnf)
  | (with_reducible refine q_t (q_nt (by omega)) ?_; with_reducible conv => whnf)
  | (with_reducible refine q_len (by with_unfolding_all rfl) ?_; with_reducible conv => whnf)
  | (with_reducible refine q_leq (by with_unfolding_all rfl) ?_; with_reducible conv => whnf)
  | (with_reducible refine q_and (by first | assumption | exact True.intro | omega | (simp only [List.length_map, List.length_append, List.length_cons, List.length_nil]; omega) | decide) ?_; with_reducible conv => whnf)
  | (with_reducible refine q_le (by with_unfolding_all rfl) ?_; with_reducible conv => whnf)
  | (with_reducible refine q_and tyL_lst ?_; with_reducible conv => whnf)
  | (with_reducible refine q_and tyL_rol ?_; with_reducible conv => whnf)
  | (with_reducible refine q_and (tyL_ref (by walk_at "mu")) ?_; with_reducible conv => whnf)
  | (with_reducible refine q_and (tyD_ref (by walk_at "mu")) ?_; with_reducible conv => whnf)
  | (with_reducible refine q_and (rdD_ref (by walk_at "mu")) ?_; with_reducible conv => whnf)
  | (rw [pick_c0]; with_reducible conv => whnf)
  | (rw [pick_c1]; with_reducible conv => whnf)
  | (rw [pick_c2]; with_reducible conv => whnf)
  | (rw [pick_c3]; with_reducible conv => whnf)
  | (rw [pick_c4]; with_reducible conv => whnf)
  | (rw [pick_c5]; with_reducible conv => whnf)
  | (rw [mset_same]; with_reducible conv => whnf)
  | (rw [mset_ne (by assumption)]; with_reducible conv => whnf)
  | (rw [mset_ne]; rotate_left; (first | assumption | exact Ne.symm (by assumption)); with_reducible conv => whnf)
  | (rw [rdL_ref]; rotate_left; (focus (walk_at "mu"; done)); with_reducible conv => whnf)
  | (rw [rdL_refD]; rotate_left; (focus (walk_at "mu"; done)); with_reducible conv => whnf)
  | (rw [rdD_refD]; rotate_left; (focus (walk_at "mu"; done)); with_reducible conv => whnf)
  | (rw [rdM_ref]; rotate_left; (focus (walk_at "mu"; done)); with_reducible conv => whnf)
  | (rw [rdL_refK]; rotate_left; (focus (walk_at "mu"; done)); with_reducible conv => whnf)
  | (rw [rdD_refK]; rotate_left; (focus (walk_at "mu"; done)); with_reducible conv => whnf)
  | (rw [tyW_refL]; rotate_left; (focus (walk_at "mu"; done)); with_reducible conv => whnf)
  | (rw [tyW_refD]; rotate_left; (focus (walk_at "mu"; done)); with_reducible conv => whnf)
  | (rw [drf_ref]; rotate_left; (focus (walk_at "mu"; done)); with_reducible conv => whnf)
  | ((conv => (arg 2; tactic' => (walk_at "mu"; done))); with_reducible conv => whnf)
  | (with_reducible refine q_and (Eq.refl _) ?_; with_reducible conv => whnf)
  | (with_reducible refine q_and (MulO.r (by decide)) ?_; with_reducible conv => whnf)
  | (with_reducible refine q_and (MulO.l (by decide)) ?_; with_reducible conv => whnf)
  | (with_reducible refine q_and (MulO.r (by omega)) ?_; with_reducible conv => whnf)
  | (with_reducible refine q_and (MulO.l (by omega)) ?_; with_reducible conv => whnf)
  | (with_reducible refine q_pow (by decide) ?_; with_reducible conv => whnf)
  | (with_reducible refine q_nisT (by first | assumption | with_reducible rfl) ?_; with_reducible conv => whnf)
  | (with_reducible refine q_nisF (by first | assumption | with_reducible rfl) ?_; with_reducible conv => whnf)
  | (with_reducible refine q_eqI ?_; with_reducible conv => whnf)
  | (with_reducible refine q_eqS ?_; with_reducible conv => whnf)
  | (with_reducible refine q_eqB ?_; with_reducible conv => whnf)
  | (with_reducible refine q_neI ?_; with_reducible conv => whnf)
  | (with_reducible refine q_neS ?_; with_reducible conv => whnf)
  | (with_reducible refine q_neB ?_; with_reducible conv => whnf)
  | (with_reducible refine q_memc ?_; with_reducible conv => whnf)
  | (with_reducible refine q_lkn (by walk_at "lk") ?_; with_reducible conv => whnf)
  | (with_reducible refine q_tix (by walk_at "lk"; done) ?_; with_reducible conv => whnf)
  | (with_reducible refine q_tin ?_; with_reducible conv => whnf)
  | (rw [pf_hit]; with_reducible conv => whnf)
  | (rw [pf_skip]; rotate_left; (focus (decide +kernel; done)); with_reducible conv => whnf)
  | (rw [lk_hit]; with_reducible conv => whnf)
  | (rw [lk_skip1]; rotate_left; (focus (decide +kernel; done)); with_reducible conv => whnf))))
/-! lines: what the law draws, and the law -/
end Q
namespace Q
open PySem L2
local macro_rules | `(tactic| walk_at "mu") => `(tactic| (repeat (first | exact mset_same | assumption | (rw [mset_ne]; rotate_left; (first | assumption | exact Ne.symm (by assumption))))))
local macro_rules | `(tactic| walk_at "lk") => `(tactic| (repeat (first | exact lk_hit | exact lk_nil | refine lk_skip (by decide +kernel) ?_)))
local macro_rules | `(tactic| walk_at "pf") => `(tactic| (repeat (first | rw [pf_nil] | rw [pf_hit] | (rw [pf_skip]; rotate_left; (focus (decide +kernel; done))))))
local macro_rules | `(tactic| walk_at "q") => `(tactic| ((with_reducible conv => whnf); repeat (first
  | (with_reducible refine q_t (by assumption) ?_; with_reducible conv => whnf)
  | (with_reducible refine q_f (by assumption) ?_; with_reducible conv => whnf)
  | (with_reducible refine q_t (by with_reducible rfl) ?_; with_reducible conv => whnf)
  | (with_reducible refine q_f (by with_reducible rfl) ?_; with_reducible conv => whnf)
  | (with_reducible refine q_t (by decide) ?_; with_reducible conv => whnf)
  | (with_reducible refine q_f (by decide) ?_; with_reducible conv => whnf)
  | (with_reducible refine q_t (decide_eq_true (by omega)) ?_; with_reducible conv => whnf)
  | (with_reducible refine q_f (decide_eq_false (by omega)) ?_; with_reducible conv => whnf)
  | (with_reducible refine q_f (q_nn (by omega)) ?_; with_reducible conv => whnf)
  | (with_reducible refine q_t (q_nt (by omega)) ?_; with_reducible conv => whnf)
  | (with_reducible refine q_len (by with_unfolding_all rfl) ?_; with_reducible conv => whnf)
  | (with_reducible refine q_leq (by with_unfolding_all rfl) ?_; with_reducible conv => whnf)
  | (with_reducible refine q_and (by first | assumption | exact True.intro | omega | (simp only [List.length_map, List.length_append, List.length_cons, List.length_nil]; omega) | decide) ?_; with_reducible conv => whnf)
  | (with_reducible refine q_le (by with_unfolding_all rfl) ?_; with_reducible conv => whnf)
  | (with_reducible refine q_and tyL_lst ?_; with_reducible conv => whnf)
  | (with_reducible refine q_and tyL_rol ?_; with_reducible conv => whnf)
  | (with_reducible refine q_and (tyL_ref (by walk_at "mu")) ?_; with_reducible conv => whnf)
  | (with_reducible refine q_and (tyD_ref (by walk_at "mu")) ?_; with_reducible conv => whnf)
  | (with_reducible refine q_and (rdD_ref (by walk_at "mu")) ?_; with_reducible conv => whnf)
  | (rw [pick_c0]; with_reducible conv => whnf)
  | (rw [pick_c1]; with_reducible conv => whnf)
  | (rw [pick_c2]; with_reducible conv => whnf)
  | (rw [pick_c3]; with_reducible conv => whnf)
  | (rw [pick_c4]; with_reducible conv => whnf)
  | (rw [pick_c5]; with_reducible conv => whnf)
  | (rw [mset_same]; with_reducible conv => whnf)
  | (rw [mset_ne (by assumption)]; with_reducible conv => whnf)
  | (rw [mset_ne]; rotate_left; (first | assumption | exact Ne.symm (by assumption)); with_reducible conv => whnf)
  | (rw [rdL_ref]; rotate_left; (focus (walk_at "mu"; done)); with_reducible conv => whnf)
  | (rw [rdL_refD]; rotate_left; (focus (walk_at "mu"; done)); with_reducible conv => whnf)
  | (rw [rdD_refD]; rotate_left; (focus (walk_at "mu"; done)); with_reducible conv => whnf)
  | (rw [rdM_ref]; rotate_left; (focus (walk_at "mu"; done)); with_reducible conv => whnf)
  | (rw [rdL_refK]; rotate_left; (focus (walk_at "mu"; done)); with_reducible conv => whnf)
  | (rw [rdD_refK]; rotate_left; (focus (walk_at "mu"; done)); with_reducible conv => whnf)
  | (rw [tyW_refL]; rotate_left; (focus (walk_at "mu"; done)); with_reducible conv => whnf)
  | (rw [tyW_refD]; rotate_left; (focus (walk_at "mu"; done)); with_reducible conv => whnf)
  | (rw [drf_ref]; rotate_left; (focus (walk_at "mu"; done)); with_reducible conv => whnf)
  | ((conv => (arg 2; tactic' => (walk_at "mu"; done))); with_reducible conv => whnf)
  | (with_reducible refine q_and (Eq.refl _) ?_; with_reducible conv => whnf)
  | (with_reducible refine q_and (MulO.r (by decide)) ?_; with_reducible conv => whnf)
  | (with_reducible refine q_and (MulO.l (by decide)) ?_; with_reducible conv => whnf)
  | (with_reducible refine q_and (MulO.r (by omega)) ?_; with_reducible conv => whnf)
  | (with_reducible refine q_and (MulO.l (by omega)) ?_; with_reducible conv => whnf)
  | (with_reducible refine q_pow (by decide) ?_; with_reducible conv => whnf)
  | (with_reducible refine q_nisT (by first | assumption | with_reducible rfl) ?_; with_reducible conv => whnf)
  | (with_reducible refine q_nisF (by first | assumption | with_reducible rfl) ?_; with_reducible conv => whnf)
  | (with_reducible refine q_eqI ?_; with_reducible conv => whnf)
  | (with_reducible refine q_eqS ?_; with_reducible conv => whnf)
  | (with_reducible refine q_eqB ?_; with_reducible conv => whnf)
  | (with_reducible refine q_neI ?_; with_reducible conv => whnf)
  | (with_reducible refine q_neS ?_; with_reducible conv => whnf)
  | (with_reducible refine q_neB ?_; with_reducible conv => whnf)
  | (with_reducible refine q_memc ?_; with_reducible conv => whnf)
  | (with_reducible refine q_lkn (by walk_at "lk") ?_; with_reducible conv => whnf)
  | (with_reducible refine q_tix (by walk_at "lk"; done) ?_; with_reducible conv => whnf)
  | (with_reducible refine q_tin ?_; with_reducible conv => whnf)
  | (rw [pf_hit]; with_reducible conv => whnf)
  | (rw [pf_skip]; rotate_left; (focus (decide +kernel; done)); with_reducible conv => whnf)
  | (rw [lk_hit]; with_reducible conv => whnf)
  | (rw [lk_skip1]; rotate_left; (focus (decide +kernel; done)); with_reducible conv => whnf))))
/-! lines: the law -/
theorem cut_to (t : List Nat) (k : Nat) : cutS (S t) none (some (k : Int)) = S (t.take k) := by
  unfold cutS
  rw [HT.sIx_none, HT.sIx_nat, S_len]
  simp only [List.drop_zero, Nat.sub_zero, List.toList_toArray]
  by_cases h : k ≤ t.length
  · rw [Nat.min_eq_left h]
  · rw [Nat.min_eq_right (by omega), List.take_of_length_le (Nat.le_refl _), List.take_of_length_le (by omega)]
end Q
namespace Q
open PySem L2
local macro_rules | `(tactic| walk_at "mu") => `(tactic| (repeat (first | exact mset_same | assumption | (rw [mset_ne]; rotate_left; (first | assumption | exact Ne.symm (by assumption))))))
local macro_rules | `(tactic| walk_at "lk") => `(tactic| (repeat (first | exact lk_hit | exact lk_nil | refine lk_skip (by decide +kernel) ?_)))
local macro_rules | `(tactic| walk_at "pf") => `(tactic| (repeat (first | rw [pf_nil] | rw [pf_hit] | (rw [pf_skip]; rotate_left; (focus (decide +kernel; done))))))
local macro_rules | `(tactic| walk_at "q") => `(tactic| ((with_reducible conv => whnf); repeat (first
  | (with_reducible refine q_t (by assumption) ?_; with_reducible conv => whnf)
  | (with_reducible refine q_f (by assumption) ?_; with_reducible conv => whnf)
  | (with_reducible refine q_t (by with_reducible rfl) ?_; with_reducible conv => whnf)
  | (with_reducible refine q_f (by with_reducible rfl) ?_; with_reducible conv => whnf)
  | (with_reducible refine q_t (by decide) ?_; with_reducible conv => whnf)
  | (with_reducible refine q_f (by decide) ?_; with_reducible conv => whnf)
  | (with_reducible refine q_t (decide_eq_true (by omega)) ?_; with_reducible conv => whnf)
  | (with_reducible refine q_f (decide_eq_false (by omega)) ?_; with_reducible conv => whnf)
  | (with_reducible refine q_f (q_nn (by omega)) ?_; with_reducible conv => whnf)
  | (with_reducible refine q_t (q_nt (by omega)) ?_; with_reducible conv => whnf)
  | (with_reducible refine q_len (by with_unfolding_all rfl) ?_; with_reducible conv => whnf)
  | (with_reducible refine q_leq (by with_unfolding_all rfl) ?_; with_reducible conv => whnf)
  | (with_reducible refine q_and (by first | assumption | exact True.intro | omega | (simp only [List.length_map, List.length_append, List.length_cons, List.length_nil]; omega) | decide) ?_; with_reducible conv => whnf)
  | (with_reducible refine q_le (by with_unfolding_all rfl) ?_; with_reducible conv => whnf)
  | (with_reducible refine q_and tyL_lst ?_; with_reducible conv => whnf)
  | (with_reducible refine q_and tyL_rol ?_; with_reducible conv => whnf)
  | (with_reducible refine q_and (tyL_ref (by walk_at "mu")) ?_; with_reducible conv => whnf)
  | (with_reducible refine q_and (tyD_ref (by walk_at "mu")) ?_; with_reducible conv => whnf)
  | (with_reducible refine q_and (rdD_ref (by walk_at "mu")) ?_; with_reducible conv => whnf)
  | (rw [pick_c0]; with_reducible conv => whnf)
  | (rw [pick_c1]; with_reducible conv => whnf)
  | (rw [pick_c2]; with_reducible conv => whnf)
  | (rw [pick_c3]; with_reducible conv => whnf)
  | (rw [pick_c4]; with_reducible conv => whnf)
  | (rw [pick_c5]; with_reducible conv => whnf)
  | (rw [mset_same]; with_reducible conv => whnf)
  | (rw [mset_ne (by assumption)]; with_reducible conv => whnf)
  | (rw [mset_ne]; rotate_left; (first | assumption | exact Ne.symm (by assumption)); with_reducible conv => whnf)
  | (rw [rdL_ref]; rotate_left; (focus (walk_at "mu"; done)); with_reducible conv => whnf)
  | (rw [rdL_refD]; rotate_left; (focus (walk_at "mu"; done)); with_reducible conv => whnf)
  | (rw [rdD_refD]; rotate_left; (focus (walk_at "mu"; done)); with_reducible conv => whnf)
  | (rw [rdM_ref]; rotate_left; (focus (walk_at "mu"; done)); with_reducible conv => whnf)
  | (rw [rdL_refK]; rotate_left; (focus (walk_at "mu"; done)); with_reducible conv => whnf)
  | (rw [rdD_refK]; rotate_left; (focus (walk_at "mu"; done)); with_reducible conv => whnf)
  | (rw [tyW_refL]; rotate_left; (focus (walk_at "mu"; done)); with_reducible conv => whnf)
  | (rw [tyW_refD]; rotate_left; (focus (walk_at "mu"; done)); with_reducible conv => whnf)
  | (rw [drf_ref]; rotate_left; (focus (walk_at "mu"; done)); with_reducible conv => whnf)
  | ((conv => (arg 2; tactic' => (walk_at "mu"; done))); with_reducible conv => whnf)
  | (with_reducible refine q_and (Eq.refl _) ?_; with_reducible conv => whnf)
  | (with_reducible refine q_and (MulO.r (by decide)) ?_; with_reducible conv => whnf)
  | (with_reducible refine q_and (MulO.l (by decide)) ?_; with_reducible conv => whnf)
  | (with_reducible refine q_and (MulO.r (by omega)) ?_; with_reducible conv => whnf)
  | (with_reducible refine q_and (MulO.l (by omega)) ?_; with_reducible conv => whnf)
  | (with_reducible refine q_pow (by decide) ?_; with_reducible conv => whnf)
  | (with_reducible refine q_nisT (by first | assumption | with_reducible rfl) ?_; with_reducible conv => whnf)
  | (with_reducible refine q_nisF (by first | assumption | with_reducible rfl) ?_; with_reducible conv => whnf)
  | (with_reducible refine q_eqI ?_; with_reducible conv => whnf)
  | (with_reducible refine q_eqS ?_; with_reducible conv => whnf)
  | (with_reducible refine q_eqB ?_; with_reducible conv => whnf)
  | (with_reducible refine q_neI ?_; with_reducible conv => whnf)
  | (with_reducible refine q_neS ?_; with_reducible conv => whnf)
  | (with_reducible refine q_neB ?_; with_reducible conv => whnf)
  | (with_reducible refine q_memc ?_; with_reducible conv => whnf)
  | (with_reducible refine q_lkn (by walk_at "lk") ?_; with_reducible conv => whnf)
  | (with_reducible refine q_tix (by walk_at "lk"; done) ?_; with_reducible conv => whnf)
  | (with_reducible refine q_tin ?_; with_reducible conv => whnf)
  | (rw [pf_hit]; with_reducible conv => whnf)
  | (rw [pf_skip]; rotate_left; (focus (decide +kernel; done)); with_reducible conv => whnf)
  | (rw [lk_hit]; with_reducible conv => whnf)
  | (rw [lk_skip1]; rotate_left; (focus (decide +kernel; done)); with_reducible conv => whnf))))
/-! the disk -/
abbrev Dtb := List (Str × (List Nat × List Nat))
def ent (x : List Nat × List Nat) : W := .tup [.str (S x.1), .str (S x.2)]
def fw (fs : Dtb) : List (Key × W) := fs.map fun x => (Sum.inr x.1, ent x.2)
def getF (fs : Dtb) (n : Str) : Option (List Nat × List Nat) := (fs.find? fun x => decide (x.1 = n)).map (·.2)
def putF (fs : Dtb) (n : Str) (v : List Nat × List Nat) : Dtb := if (fs.any fun x => decide (x.1 = n)) = true then fs.map (fun x => if x.1 = n then (x.1, v) else x) else fs ++ [(n, v)]
def dropF (fs : Dtb) (n : Str) : Dtb := fs.filter fun x => decide (x.1 ≠ n)
theorem key_eq {a b : Str} : ((Sum.inr a : Key) = Sum.inr b) ↔ a = b := ⟨fun h => Sum.inr.inj h, fun h => by rw [h]⟩
theorem fw_val (fs : Dtb) (n : Str) : valW (fw fs) (Sum.inr n) = (getF fs n).map ent := by
  unfold valW getF fw
  rw [List.find?_map]
  have : ((fun kv : Key × W => decide (kv.1 = Sum.inr n)) ∘ fun x : Str × (List Nat × List Nat) => ((Sum.inr x.1 : Key), ent x.2)) = fun x => decide (x.1 = n) := by
    funext x
    exact decide_eq_decide.mpr key_eq
  rw [this, Option.map_map, Option.map_map]
  rfl
theorem fw_any (fs : Dtb) (n : Str) : ((fw fs).any fun kv => decide (kv.1 = Sum.inr n)) = fs.any fun x => decide (x.1 = n) := by
  unfold fw
  rw [List.any_map]
  congr 1
  funext x
  exact decide_eq_decide.mpr key_eq
theorem fw_put (fs : Dtb) (n : Str) (v : List Nat × List Nat) : putW (fw fs) (Sum.inr n) (ent v) = fw (putF fs n v) := by
  unfold putW putF
  rw [fw_any]
  split
  · unfold fw
    rw [List.map_map, List.map_map]
    refine List.map_congr_left fun x _ => ?_
    show (if (Sum.inr x.1 : Key) = Sum.inr n then (Sum.inr x.1, ent v) else (Sum.inr x.1, ent x.2)) = _
    by_cases c : x.1 = n
    · rw [if_pos (key_eq.mpr c)]
      show _ = ((Sum.inr (if x.1 = n then (x.1, v) else x).1 : Key), ent (if x.1 = n then (x.1, v) else x).2)
      rw [if_pos c]
    · rw [if_neg (fun z => c (key_eq.mp z))]
      show _ = ((Sum.inr (if x.1 = n then (x.1, v) else x).1 : Key), ent (if x.1 = n then (x.1, v) else x).2)
      rw [if_neg c]
  · unfold fw
    rw [List.map_append]
    rfl
theorem fw_drop (fs : Dtb) (n : Str) : dropW (fw fs) (Sum.inr n) = fw (dropF fs n) := by
  unfold dropW dropF fw
  rw [List.filter_map]
  congr 1
  refine List.filter_congr fun x _ => ?_
  exact decide_eq_decide.mpr (not_congr key_eq)
theorem getF_cons (x : Str × (List Nat × List Nat)) (fs : Dtb) (n : Str) : getF (x :: fs) n = if x.1 = n then some x.2 else getF fs n := by
  unfold getF
  rw [List.find?_cons]
  by_cases c : x.1 = n
  · rw [decide_eq_true c, if_pos c]
    rfl
  · rw [decide_eq_false c, if_neg c]
theorem getF_put (fs : Dtb) (n m : Str) (v : List Nat × List Nat) : getF (putF fs n v) m = if n = m then some v else getF fs m := by
  induction fs with
  | nil =>
    show getF [(n, v)] m = _
    rw [getF_cons]
  | cons x fs ih =>
    unfold putF at ih ⊢
    by_cases c : x.1 = n
    · have e : ((x :: fs).any fun x => decide (x.1 = n)) = true := by rw [List.any_cons, decide_eq_true c]; rfl
      rw [if_pos e, List.map_cons, if_pos c, getF_cons, getF_cons]
      by_cases d : n = m
      · rw [if_pos (c.trans d), if_pos d]
      · rw [if_neg (fun z => d (c.symm.trans z)), if_neg d, if_neg (fun z => d (c.symm.trans z))]
        by_cases e2 : (fs.any fun x => decide (x.1 = n)) = true
        · rw [if_pos e2, if_neg d] at ih
          exact ih
        · have : fs.map (fun x => if x.1 = n then (x.1, v) else x) = fs := by
            have hn : ∀ x ∈ fs, (if x.1 = n then (x.1, v) else x) = id x := fun x hx => if_neg fun z => e2 (List.any_eq_true.mpr ⟨x, hx, decide_eq_true z⟩)
            rw [List.map_congr_left hn, List.map_id]
          rw [this]
    · have e : ((x :: fs).any fun x => decide (x.1 = n)) = fs.any fun x => decide (x.1 = n) := by rw [List.any_cons, decide_eq_false c]; rfl
      rw [e]
      split
      · rename_i h
        rw [if_pos h] at ih
        rw [List.map_cons, if_neg c, getF_cons, ih, getF_cons]
        by_cases d : x.1 = m
        · rw [if_pos d, if_pos d, if_neg (fun z => c (d.trans z.symm))]
        · rw [if_neg d, if_neg d]
      · rename_i h
        rw [if_neg h] at ih
        rw [List.cons_append, getF_cons, ih, getF_cons]
        by_cases d : x.1 = m
        · rw [if_pos d, if_pos d, if_neg (fun z => c (d.trans z.symm))]
        · rw [if_neg d, if_neg d]
theorem getF_drop (fs : Dtb) (n m : Str) : getF (dropF fs n) m = if n = m then none else getF fs m := by
  induction fs with
  | nil =>
    show none = _
    split <;> rfl
  | cons x fs ih =>
    unfold dropF at ih ⊢
    rw [List.filter_cons]
    by_cases c : x.1 = n
    · rw [decide_eq_false (by simpa using c), if_neg (by decide), ih, getF_cons]
      by_cases d : n = m
      · rw [if_pos d, if_pos d]
      · rw [if_neg d, if_neg d, if_neg (fun z => d (c.symm.trans z))]
    · rw [decide_eq_true c, if_pos rfl, getF_cons, ih, getF_cons]
      by_cases d : x.1 = m
      · rw [if_pos d, if_pos d, if_neg (fun z => c (d.trans z.symm))]
      · rw [if_neg d, if_neg d]
theorem putF_len (fs : Dtb) (n : Str) (v : List Nat × List Nat) : (putF fs n v).length ≤ fs.length + 1 := by
  unfold putF
  split
  · rw [List.length_map]
    omega
  · rw [List.length_append]
    exact Nat.le_refl _
theorem getF_mem (fs : Dtb) (n : Str) : n ∈ fs.map (·.1) ↔ (getF fs n).isSome = true := by
  induction fs with
  | nil => simp [getF]
  | cons x fs ih =>
    rw [getF_cons, List.map_cons, List.mem_cons]
    by_cases c : x.1 = n
    · rw [if_pos c]
      exact ⟨fun _ => rfl, fun _ => .inl c.symm⟩
    · rw [if_neg c, ← ih]
      exact ⟨fun h => h.elim (fun z => absurd z.symm c) id, .inr⟩
def names (fs : Dtb) : List Str := So.sortS (fs.map (·.1))
theorem names_mem (fs : Dtb) (n : Str) : n ∈ names fs ↔ (getF fs n).isSome = true := by
  rw [← getF_mem]
  exact (So.sortS_perm _).mem_iff
/-! names of files -/
def nameC (c : Nat) : Bool := decide (c = 46) || decide (97 ≤ c ∧ c ≤ 122)
def nameB (z : Str) : Bool := decide (1 ≤ z.length ∧ z.length ≤ 20) && z.cps.toList.all nameC
def nameW : W → Bool
  | .str ⟨#[c]⟩ => nameC c
  | _ => false
theorem l_dot : ("." : Str) = ⟨#[46]⟩ := by decide +kernel
theorem one_inj {c d : Nat} : ((⟨#[c]⟩ : Str) = ⟨#[d]⟩) ↔ c = d := ⟨fun h => by
  have := S_inj (t := [c]) (u := [d]) h
  simpa using this, fun h => by rw [h]⟩
theorem sp_is_name {z : Str} {μ : Mu} {P : Po} {X : Xo} (hz : z.length ≤ 16000000) (h : P (.bl (nameB z)) μ) : f_is_name [.str z] μ P X := by
  rw [f_is_name_eq]; unfold f_is_name_B fDef
  refine ⟨rfl, ?_⟩
  have no : ¬(1 ≤ z.length ∧ z.length ≤ 20) → P (.bl false) μ := fun c => by
    unfold nameB at h
    rw [decide_eq_false c] at h
    exact h
  walk_at "q"
  refine q_ifP (fun c1 => ?_) fun c1 => ?_
  · walk_at "q"
    refine q_ifN (fun c2 => ?_) fun c2 => ?_
    · walk_at "q"
      have e : nameB z = (signs z).all nameW := by
        unfold nameB signs
        rw [decide_eq_true (by omega), List.all_map]
        rfl
      rw [e] at h
      refine itS_ret (v := .bl false) nameW (fun ρ => ∃ x, ρ = [some (.str z), x]) trivial _ ⟨none, rfl⟩ (fun w hw ρ hρ K hy hn => ?_) (fun a ρ hρ => ?_) fun a => ?_
      · obtain ⟨x, rfl⟩ := hρ
        obtain ⟨c, _, rfl⟩ := List.mem_map.mp hw
        have e2 : nameW (.str ⟨#[c]⟩) = (decide (c = 46) || decide (97 ≤ c ∧ c ≤ 122)) := rfl
        have b1 : (!sLt (⟨#[c]⟩ : Str) "a") = decide (97 ≤ c) := by
          rw [l_a, slt_one]
          by_cases q : c < 97 <;> simp [q] <;> omega
        have b2 : (!sLt "z" (⟨#[c]⟩ : Str)) = decide (c ≤ 122) := by
          rw [l_z, slt_one]
          by_cases q : 122 < c <;> simp [q] <;> omega
        rw [e2] at hy hn
        walk_at "q"
        rw [l_dot, show decide ((⟨#[c]⟩ : Str) = ⟨#[46]⟩) = decide (c = 46) from decide_eq_decide.mpr one_inj]
        refine q_ifN (fun c3 => ?_) fun c3 => ?_
        · walk_at "q"
          exact hy (by rw [decide_eq_true c3]; rfl) _ ⟨_, rfl⟩
        · walk_at "q"
          rw [b1]
          refine q_ifP (fun c4 => ?_) fun c4 => ?_
          · walk_at "q"
            rw [b2]
            refine q_ifN (fun c5 => ?_) fun c5 => ?_
            · walk_at "q"
              exact hy (by rw [decide_eq_true (show 97 ≤ c ∧ c ≤ 122 from ⟨c4, c5⟩), Bool.or_true]) _ ⟨_, rfl⟩
            · walk_at "q"
              exact hn (by rw [decide_eq_false c3, decide_eq_false (fun z => c5 z.2)]; rfl)
          · walk_at "q"
            exact hn (by rw [decide_eq_false c3, decide_eq_false (fun z => c4 z.1)]; rfl)
      · rw [a] at h
        exact Rt.now h
      · rw [a] at h
        exact Rt.now h
    · walk_at "q"
      exact Rt.now (no fun q => c2 (by omega))
  · walk_at "q"
    exact Rt.now (no fun q => c1 (by omega))
/-! the disk's state -/
def dskO (f : Addr) (l : W) (c : Bool) : O := .ins "Disk" [("_files", .ref f), ("_left", l), ("_crashed", .bl c)]
/-- a store with a disk -/
def dm (μ : Mu) (d f : Addr) (l : W) (c : Bool) (fs : Dtb) : Mu := mset (mset μ d (dskO f l c)) f (.dk (fw fs))
theorem dm_d {μ : Mu} {d f : Addr} {l : W} {c : Bool} {fs : Dtb} (h : f ≠ d) : dm μ d f l c fs d = some (dskO f l c) := by
  unfold dm
  rw [mset_ne (Ne.symm h), mset_same]
theorem dm_f {μ : Mu} {d f : Addr} {l : W} {c : Bool} {fs : Dtb} : dm μ d f l c fs f = some (.dk (fw fs)) := mset_same
theorem dm_ne {μ : Mu} {d f g : Addr} {l : W} {c : Bool} {fs : Dtb} (h1 : g ≠ d) (h2 : g ≠ f) : dm μ d f l c fs g = μ g := by
  unfold dm
  rw [mset_ne h2, mset_ne h1]
/-- a store changed at d, or at f, is a store with a disk -/
theorem dm_setd {μ : Mu} {d f : Addr} {l l' : W} {c c' : Bool} {fs : Dtb} (h : f ≠ d) : mset (dm μ d f l c fs) d (dskO f l' c') = dm μ d f l' c' fs := by
  unfold dm
  rw [mset_comm h, mset_mset]
theorem dm_setf {μ : Mu} {d f : Addr} {l : W} {c : Bool} {fs fs' : Dtb} : mset (dm μ d f l c fs) f (.dk (fw fs')) = dm μ d f l c fs' := by
  unfold dm
  rw [mset_mset]
/-- a store changed elsewhere -/
theorem dm_set {μ : Mu} {d f g : Addr} {l : W} {c : Bool} {fs : Dtb} {o : O} (h1 : g ≠ d) (h2 : g ≠ f) : mset (dm μ d f l c fs) g o = dm (mset μ g o) d f l c fs := by
  unfold dm
  rw [mset_comm (Ne.symm h2), mset_comm (Ne.symm h1)]
/-- what an operation leaves of the count -/
def opL : W → Option W
  | .int n => if n = 0 then none else some (.int (n - 1))
  | .non => some .non
  | _ => none
def isLeft : W → Bool
  | .int _ => true
  | .non => true
  | _ => false
section
variable {μ : Mu} {d f : Addr} {l : W} {fs : Dtb} {P : Po} {X : Xo}
theorem sp_check_up (h : f ≠ d) (hk : P .non (dm μ d f l false fs)) : f_Disk__check_up [.ref d] (dm μ d f l false fs) P X := by
  rw [f_Disk__check_up_eq]; unfold f_Disk__check_up_B fDef
  refine ⟨rfl, ?_⟩
  have hd : dm μ d f l false fs d = some (.ins "Disk" [("_files", .ref f), ("_left", l), ("_crashed", .bl false)]) := dm_d h
  walk_at "q"
  exact Rt.now hk
theorem sp_check_upX (h : f ≠ d) (hk : X "DiskCrashed" [] (dm μ d f l true fs)) : f_Disk__check_up [.ref d] (dm μ d f l true fs) P X := by
  rw [f_Disk__check_up_eq]; unfold f_Disk__check_up_B fDef
  refine ⟨rfl, ?_⟩
  have hd : dm μ d f l true fs d = some (.ins "Disk" [("_files", .ref f), ("_left", l), ("_crashed", .bl true)]) := dm_d h
  walk_at "q"
  exact q_ex hk
theorem sp_check_file (h : f ≠ d) {n : Str} (hn : nameB n = true) (hz : n.length ≤ 16000000) {v : List Nat × List Nat} (hv : getF fs n = some v) (hk : P .non (dm μ d f l false fs)) : f_Disk__check_file [.ref d, .str n] (dm μ d f l false fs) P X := by
  rw [f_Disk__check_file_eq]; unfold f_Disk__check_file_B fDef
  refine ⟨rfl, ?_⟩
  have hd : dm μ d f l false fs d = some (.ins "Disk" [("_files", .ref f), ("_left", l), ("_crashed", .bl false)]) := dm_d h
  have hf : dm μ d f l false fs f = some (.dk (fw fs)) := dm_f
  walk_at "q"
  refine sp_check_up h ?_
  walk_at "q"
  refine sp_is_name hz ?_
  rw [hn]
  walk_at "q"
  rw [fw_val, hv]
  exact Rt.now hk
theorem sp_check_fileE (h : f ≠ d) {n : Str} (hz : n.length ≤ 16000000) (hv : nameB n = false ∨ getF fs n = none) (hk : X "DiskError" [] (dm μ d f l false fs)) : f_Disk__check_file [.ref d, .str n] (dm μ d f l false fs) P X := by
  rw [f_Disk__check_file_eq]; unfold f_Disk__check_file_B fDef
  refine ⟨rfl, ?_⟩
  have hd : dm μ d f l false fs d = some (.ins "Disk" [("_files", .ref f), ("_left", l), ("_crashed", .bl false)]) := dm_d h
  have hf : dm μ d f l false fs f = some (.dk (fw fs)) := dm_f
  walk_at "q"
  refine sp_check_up h ?_
  walk_at "q"
  refine sp_is_name hz ?_
  cases e : nameB n with
  | false =>
    walk_at "q"
    exact q_ex hk
  | true =>
    rcases hv with hv | hv
    · rw [e] at hv
      cases hv
    · walk_at "q"
      rw [fw_val, hv]
      walk_at "q"
      exact q_ex hk
theorem sp_check_fileX (h : f ≠ d) {n : W} (hk : X "DiskCrashed" [] (dm μ d f l true fs)) : f_Disk__check_file [.ref d, n] (dm μ d f l true fs) P X := by
  rw [f_Disk__check_file_eq]; unfold f_Disk__check_file_B fDef
  refine ⟨rfl, ?_⟩
  have hd : dm μ d f l true fs d = some (.ins "Disk" [("_files", .ref f), ("_left", l), ("_crashed", .bl true)]) := dm_d h
  walk_at "q"
  exact sp_check_upX h (q_ex hk)
theorem sp_operate (h : f ≠ d) (hl : isLeft l = true) (hk : ∀ l', opL l = some l' → P .non (dm μ d f l' false fs)) (hx : opL l = none → X "DiskCrashed" [] (dm μ d f l true fs)) : f_Disk__operate [.ref d] (dm μ d f l false fs) P X := by
  rw [f_Disk__operate_eq]; unfold f_Disk__operate_B fDef
  refine ⟨rfl, ?_⟩
  have hd : dm μ d f l false fs d = some (.ins "Disk" [("_files", .ref f), ("_left", l), ("_crashed", .bl false)]) := dm_d h
  cases l with
  | non =>
    walk_at "q"
    exact Rt.now (hk _ rfl)
  | int n =>
    walk_at "q"
    refine q_ifP (fun c => ?_) fun c => ?_
    · walk_at "q"
      refine q_ex ?_
      have := hx (if_pos c)
      rw [← dm_setd (l := .int n) (c := false) h] at this
      exact this
    · walk_at "q"
      have := hk (.int (n - 1)) (if_neg c)
      rw [← dm_setd (l := .int n) (c := false) h] at this
      exact Rt.now this
  | _ => cases hl
end
end Q
namespace Q
open PySem L2
local macro_rules | `(tactic| walk_at "mu") => `(tactic| (repeat (first | exact mset_same | assumption | (rw [mset_ne]; rotate_left; (first | assumption | exact Ne.symm (by assumption))))))
local macro_rules | `(tactic| walk_at "lk") => `(tactic| (repeat (first | exact lk_hit | exact lk_nil | refine lk_skip (by decide +kernel) ?_)))
local macro_rules | `(tactic| walk_at "pf") => `(tactic| (repeat (first | rw [pf_nil] | rw [pf_hit] | (rw [pf_skip]; rotate_left; (focus (decide +kernel; done))))))
local macro_rules | `(tactic| walk_at "q") => `(tactic| ((with_reducible conv => whnf); repeat (first
  | (with_reducible refine q_t (by assumption) ?_; with_reducible conv => whnf)
  | (with_reducible refine q_f (by assumption) ?_; with_reducible conv => whnf)
  | (with_reducible refine q_t (by with_reducible rfl) ?_; with_reducible conv => whnf)
  | (with_reducible refine q_f (by with_reducible rfl) ?_; with_reducible conv => whnf)
  | (with_reducible refine q_t (by decide) ?_; with_reducible conv => whnf)
  | (with_reducible refine q_f (by decide) ?_; with_reducible conv => whnf)
  | (with_reducible refine q_t (decide_eq_true (by omega)) ?_; with_reducible conv => whnf)
  | (with_reducible refine q_f (decide_eq_false (by omega)) ?_; with_reducible conv => whnf)
  | (with_reducible refine q_f (q_nn (by omega)) ?_; with_reducible conv => whnf)
  | (with_reducible refine q_t (q_nt (by omega)) ?_; with_reducible conv => whnf)
  | (with_reducible refine q_len (by with_unfolding_all rfl) ?_; with_reducible conv => whnf)
  | (with_reducible refine q_leq (by with_unfolding_all rfl) ?_; with_reducible conv => whnf)
  | (with_reducible refine q_and (by first | assumption | exact True.intro | omega | (simp only [List.length_map, List.length_append, List.length_cons, List.length_nil]; omega) | decide) ?_; with_reducible conv => whnf)
  | (with_reducible refine q_le (by with_unfolding_all rfl) ?_; with_reducible conv => whnf)
  | (with_reducible refine q_and tyL_lst ?_; with_reducible conv => whnf)
  | (with_reducible refine q_and tyL_rol ?_; with_reducible conv => whnf)
  | (with_reducible refine q_and (tyL_ref (by walk_at "mu")) ?_; with_reducible conv => whnf)
  | (with_reducible refine q_and (tyD_ref (by walk_at "mu")) ?_; with_reducible conv => whnf)
  | (with_reducible refine q_and (rdD_ref (by walk_at "mu")) ?_; with_reducible conv => whnf)
  | (rw [pick_c0]; with_reducible conv => whnf)
  | (rw [pick_c1]; with_reducible conv => whnf)
  | (rw [pick_c2]; with_reducible conv => whnf)
  | (rw [pick_c3]; with_reducible conv => whnf)
  | (rw [pick_c4]; with_reducible conv => whnf)
  | (rw [pick_c5]; with_reducible conv => whnf)
  | (rw [mset_same]; with_reducible conv => whnf)
  | (rw [mset_ne (by assumption)]; with_reducible conv => whnf)
  | (rw [mset_ne]; rotate_left; (first | assumption | exact Ne.symm (by assumption)); with_reducible conv => whnf)
  | (rw [rdL_ref]; rotate_left; (focus (walk_at "mu"; done)); with_reducible conv => whnf)
  | (rw [rdL_refD]; rotate_left; (focus (walk_at "mu"; done)); with_reducible conv => whnf)
  | (rw [rdD_refD]; rotate_left; (focus (walk_at "mu"; done)); with_reducible conv => whnf)
  | (rw [rdM_ref]; rotate_left; (focus (walk_at "mu"; done)); with_reducible conv => whnf)
  | (rw [rdL_refK]; rotate_left; (focus (walk_at "mu"; done)); with_reducible conv => whnf)
  | (rw [rdD_refK]; rotate_left; (focus (walk_at "mu"; done)); with_reducible conv => whnf)
  | (rw [tyW_refL]; rotate_left; (focus (walk_at "mu"; done)); with_reducible conv => whnf)
  | (rw [tyW_refD]; rotate_left; (focus (walk_at "mu"; done)); with_reducible conv => whnf)
  | (rw [drf_ref]; rotate_left; (focus (walk_at "mu"; done)); with_reducible conv => whnf)
  | ((conv => (arg 2; tactic' => (walk_at "mu"; done))); with_reducible conv => whnf)
  | (with_reducible refine q_and (Eq.refl _) ?_; with_reducible conv => whnf)
  | (with_reducible refine q_and (MulO.r (by decide)) ?_; with_reducible conv => whnf)
  | (with_reducible refine q_and (MulO.l (by decide)) ?_; with_reducible conv => whnf)
  | (with_reducible refine q_and (MulO.r (by omega)) ?_; with_reducible conv => whnf)
  | (with_reducible refine q_and (MulO.l (by omega)) ?_; with_reducible conv => whnf)
  | (with_reducible refine q_pow (by decide) ?_; with_reducible conv => whnf)
  | (with_reducible refine q_nisT (by first | assumption | with_reducible rfl) ?_; with_reducible conv => whnf)
  | (with_reducible refine q_nisF (by first | assumption | with_reducible rfl) ?_; with_reducible conv => whnf)
  | (with_reducible refine q_eqI ?_; with_reducible conv => whnf)
  | (with_reducible refine q_eqS ?_; with_reducible conv => whnf)
  | (with_reducible refine q_eqB ?_; with_reducible conv => whnf)
  | (with_reducible refine q_neI ?_; with_reducible conv => whnf)
  | (with_reducible refine q_neS ?_; with_reducible conv => whnf)
  | (with_reducible refine q_neB ?_; with_reducible conv => whnf)
  | (with_reducible refine q_memc ?_; with_reducible conv => whnf)
  | (with_reducible refine q_lkn (by walk_at "lk") ?_; with_reducible conv => whnf)
  | (with_reducible refine q_tix (by walk_at "lk"; done) ?_; with_reducible conv => whnf)
  | (with_reducible refine q_tin ?_; with_reducible conv => whnf)
  | (rw [pf_hit]; with_reducible conv => whnf)
  | (rw [pf_skip]; rotate_left; (focus (decide +kernel; done)); with_reducible conv => whnf)
  | (rw [lk_hit]; with_reducible conv => whnf)
  | (rw [lk_skip1]; rotate_left; (focus (decide +kernel; done)); with_reducible conv => whnf))))
/-! the disk's methods -/
section
variable {μ : Mu} {d f : Addr} {l : W} {fs : Dtb} {P : Po} {X : Xo}
/-- the parts of a file, or none of it -/
def parts (fs : Dtb) (n : Str) : List Nat × List Nat := (getF fs n).getD ([], [])
theorem sp_Dread (h : f ≠ d) {n : Str} (hn : nameB n = true) (hz : n.length ≤ 16000000) {v : List Nat × List Nat} (hv : getF fs n = some v) (hl : v.1.length + v.2.length ≤ 15000000) (hk : P (.str (S (v.1 ++ v.2))) (dm μ d f l false fs)) : f_Disk_read [.ref d, .str n] (dm μ d f l false fs) P X := by
  rw [f_Disk_read_eq]; unfold f_Disk_read_B fDef
  refine ⟨rfl, ?_⟩
  have hd : dm μ d f l false fs d = some (.ins "Disk" [("_files", .ref f), ("_left", l), ("_crashed", .bl false)]) := dm_d h
  have hf : dm μ d f l false fs f = some (.dk (fw fs)) := dm_f
  walk_at "q"
  refine sp_check_file h hn hz hv ?_
  have e : valW (fw fs) (Sum.inr n) = some (.tup [.str (S v.1), .str (S v.2)]) := by rw [fw_val, hv]; rfl
  have l1 := S_len v.1
  have l2 := S_len v.2
  walk_at "q"
  rw [S_app]
  exact Rt.now hk
theorem sp_Dpending (h : f ≠ d) {n : Str} (hn : nameB n = true) (hz : n.length ≤ 16000000) {v : List Nat × List Nat} (hv : getF fs n = some v) (hl : v.2.length ≤ 15000000) (hk : P (.int (v.2.length : Int)) (dm μ d f l false fs)) : f_Disk_pending [.ref d, .str n] (dm μ d f l false fs) P X := by
  rw [f_Disk_pending_eq]; unfold f_Disk_pending_B fDef
  refine ⟨rfl, ?_⟩
  have hd : dm μ d f l false fs d = some (.ins "Disk" [("_files", .ref f), ("_left", l), ("_crashed", .bl false)]) := dm_d h
  have hf : dm μ d f l false fs f = some (.dk (fw fs)) := dm_f
  walk_at "q"
  refine sp_check_file h hn hz hv ?_
  have e : valW (fw fs) (Sum.inr n) = some (.tup [.str (S v.1), .str (S v.2)]) := by rw [fw_val, hv]; rfl
  have l2 := S_len v.2
  have l3 : (S v.2).length ≤ 16000000 := by omega
  walk_at "q"
  rw [l2]
  exact Rt.now hk
theorem sp_Dappend (h : f ≠ d) (hl : isLeft l = true) {n : Str} {z : List Nat} (hn : nameB n = true) (hz : n.length ≤ 16000000) (hfs : fs.length < 16000000) (hb : (parts fs n).2.length + z.length ≤ 15000000)
    (hk : ∀ l', opL l = some l' → P .non (dm μ d f l' false (putF fs n ((parts fs n).1, (parts fs n).2 ++ z)))) (hx : opL l = none → X "DiskCrashed" [] (dm μ d f l true fs)) : f_Disk_append [.ref d, .str n, .str (S z)] (dm μ d f l false fs) P X := by
  rw [f_Disk_append_eq]; unfold f_Disk_append_B fDef
  refine ⟨rfl, ?_⟩
  have hd : dm μ d f l false fs d = some (.ins "Disk" [("_files", .ref f), ("_left", l), ("_crashed", .bl false)]) := dm_d h
  have hf : dm μ d f l false fs f = some (.dk (fw fs)) := dm_f
  walk_at "q"
  refine sp_check_up h ?_
  walk_at "q"
  refine sp_is_name hz ?_
  rw [hn]
  walk_at "q"
  refine sp_operate h hl (fun l' e' => ?_) fun e' => q_ex (hx e')
  have hd : dm μ d f l' false fs d = some (.ins "Disk" [("_files", .ref f), ("_left", l'), ("_crashed", .bl false)]) := dm_d h
  have hf : dm μ d f l' false fs f = some (.dk (fw fs)) := dm_f
  have lfw : (fw fs).length < 16000000 := by
    unfold fw
    rw [List.length_map]
    exact hfs
  walk_at "q"
  have ee : (valW (fw fs) (Sum.inr n)).getD (.tup [.str "", .str ""]) = .tup [.str (S (parts fs n).1), .str (S (parts fs n).2)] := by
    rw [fw_val]
    unfold parts
    cases getF fs n with
    | none => rfl
    | some v => rfl
  rw [ee]
  have l1 := S_len (parts fs n).2
  have l2 := S_len z
  walk_at "q"
  rw [S_app]
  have := hk l' e'
  rw [← dm_setf (l := l') (c := false) (fs := fs), ← fw_put] at this
  exact Rt.now this
theorem sp_Dsync (h : f ≠ d) (hl : isLeft l = true) {n : Str} (hn : nameB n = true) (hz : n.length ≤ 16000000) (hfs : fs.length < 16000000) {v : List Nat × List Nat} (hv : getF fs n = some v) (hb : v.1.length + v.2.length ≤ 15000000)
    (hk : ∀ l', opL l = some l' → P .non (dm μ d f l' false (putF fs n (v.1 ++ v.2, [])))) (hx : opL l = none → X "DiskCrashed" [] (dm μ d f l true fs)) : f_Disk_sync [.ref d, .str n] (dm μ d f l false fs) P X := by
  rw [f_Disk_sync_eq]; unfold f_Disk_sync_B fDef
  refine ⟨rfl, ?_⟩
  have hd : dm μ d f l false fs d = some (.ins "Disk" [("_files", .ref f), ("_left", l), ("_crashed", .bl false)]) := dm_d h
  have hf : dm μ d f l false fs f = some (.dk (fw fs)) := dm_f
  walk_at "q"
  refine sp_check_file h hn hz hv ?_
  walk_at "q"
  refine sp_operate h hl (fun l' e' => ?_) fun e' => q_ex (hx e')
  have hd : dm μ d f l' false fs d = some (.ins "Disk" [("_files", .ref f), ("_left", l'), ("_crashed", .bl false)]) := dm_d h
  have hf : dm μ d f l' false fs f = some (.dk (fw fs)) := dm_f
  have lfw : (fw fs).length < 16000000 := by
    unfold fw
    rw [List.length_map]
    exact hfs
  have e : valW (fw fs) (Sum.inr n) = some (.tup [.str (S v.1), .str (S v.2)]) := by rw [fw_val, hv]; rfl
  have l1 := S_len v.1
  have l2 := S_len v.2
  walk_at "q"
  rw [S_app]
  have := hk l' e'
  rw [← dm_setf (l := l') (c := false) (fs := fs), ← fw_put] at this
  exact Rt.now this
theorem sp_Dremove (h : f ≠ d) (hl : isLeft l = true) {n : Str} (hn : nameB n = true) (hz : n.length ≤ 16000000) {v : List Nat × List Nat} (hv : getF fs n = some v)
    (hk : ∀ l', opL l = some l' → P .non (dm μ d f l' false (dropF fs n))) (hx : opL l = none → X "DiskCrashed" [] (dm μ d f l true fs)) : f_Disk_remove [.ref d, .str n] (dm μ d f l false fs) P X := by
  rw [f_Disk_remove_eq]; unfold f_Disk_remove_B fDef
  refine ⟨rfl, ?_⟩
  have hd : dm μ d f l false fs d = some (.ins "Disk" [("_files", .ref f), ("_left", l), ("_crashed", .bl false)]) := dm_d h
  have hf : dm μ d f l false fs f = some (.dk (fw fs)) := dm_f
  walk_at "q"
  refine sp_check_file h hn hz hv ?_
  walk_at "q"
  refine sp_operate h hl (fun l' e' => ?_) fun e' => q_ex (hx e')
  have hd : dm μ d f l' false fs d = some (.ins "Disk" [("_files", .ref f), ("_left", l'), ("_crashed", .bl false)]) := dm_d h
  have hf : dm μ d f l' false fs f = some (.dk (fw fs)) := dm_f
  walk_at "q"
  refine ⟨by rw [fw_val, hv]; rfl, ?_⟩
  have := hk l' e'
  rw [← dm_setf (l := l') (c := false) (fs := fs), ← fw_drop] at this
  exact Rt.now this
theorem sp_Drename (h : f ≠ d) (hl : isLeft l = true) {n m : Str} (hn : nameB n = true) (hz : n.length ≤ 16000000) (hm : nameB m = true) (hzm : m.length ≤ 16000000) (hfs : fs.length < 16000000) {v : List Nat × List Nat} (hv : getF fs n = some v)
    (hk : ∀ l', opL l = some l' → P .non (dm μ d f l' false (putF (dropF fs n) m v))) (hx : opL l = none → X "DiskCrashed" [] (dm μ d f l true fs)) : f_Disk_rename [.ref d, .str n, .str m] (dm μ d f l false fs) P X := by
  rw [f_Disk_rename_eq]; unfold f_Disk_rename_B fDef
  refine ⟨rfl, ?_⟩
  have hd : dm μ d f l false fs d = some (.ins "Disk" [("_files", .ref f), ("_left", l), ("_crashed", .bl false)]) := dm_d h
  have hf : dm μ d f l false fs f = some (.dk (fw fs)) := dm_f
  walk_at "q"
  refine sp_check_file h hn hz hv ?_
  walk_at "q"
  refine sp_is_name hzm ?_
  rw [hm]
  walk_at "q"
  refine sp_operate h hl (fun l' e' => ?_) fun e' => q_ex (hx e')
  have hd : dm μ d f l' false fs d = some (.ins "Disk" [("_files", .ref f), ("_left", l'), ("_crashed", .bl false)]) := dm_d h
  have hf : dm μ d f l' false fs f = some (.dk (fw fs)) := dm_f
  have e : valW (fw fs) (Sum.inr n) = some (ent v) := by rw [fw_val, hv]; rfl
  have hd2 : dm μ d f l' false (dropF fs n) d = some (.ins "Disk" [("_files", .ref f), ("_left", l'), ("_crashed", .bl false)]) := dm_d h
  have hf2 : dm μ d f l' false (dropF fs n) f = some (.dk (fw (dropF fs n))) := dm_f
  have ldf : (fw (dropF fs n)).length < 16000000 := by
    unfold fw dropF
    rw [List.length_map]
    exact Nat.lt_of_le_of_lt (List.length_filter_le _ _) hfs
  walk_at "q"
  rw [fw_drop, dm_setf]
  walk_at "q"
  have := hk l' e'
  rw [← dm_setf (l := l') (c := false) (fs := dropF fs n), ← fw_put] at this
  exact Rt.now this
theorem sp_Darm (h : f ≠ d) {c : Bool} {w : W} (hk : P .non (dm μ d f w c fs)) : f_Disk_arm [.ref d, w] (dm μ d f l c fs) P X := by
  rw [f_Disk_arm_eq]; unfold f_Disk_arm_B fDef
  refine ⟨rfl, ?_⟩
  have hd : dm μ d f l c fs d = some (.ins "Disk" [("_files", .ref f), ("_left", l), ("_crashed", .bl c)]) := dm_d h
  walk_at "q"
  rw [← dm_setd (l := l) (c := c) h] at hk
  exact Rt.now hk
end
theorem sp_Dinit {μ : Mu} {d : Addr} {P : Po} {X : Xo} (hd : μ d = none) (hk : ∀ f, μ f = none → f ≠ d → P .non (dm μ d f .non false [])) : f_Disk___init__ [.ref d] (mset μ d (.ins "Disk" [])) P X := by
  rw [f_Disk___init___eq]; unfold f_Disk___init___B fDef
  refine ⟨rfl, ?_⟩
  walk_at "q"
  intro f hf
  obtain ⟨fd, hf0⟩ := new_ne hf
  walk_at "q"
  have := hk f hf0 fd
  unfold dm dskO at this
  have e : pf "_crashed" (.bl false) (pf "_left" .non (pf "_files" (.ref f) [])) = ([("_files", .ref f), ("_left", .non), ("_crashed", .bl false)] : List (Str × W)) := by walk_at "pf"
  rw [mset_mset, mset_mset, mset_comm (Ne.symm fd), mset_mset, e, mset_comm fd]
  exact Rt.now this
/-- a crash: of each file in order of names what is kept of the waiting signs -/
def crashL : List Str → List Int → Dtb → Dtb
  | [], _, fs => fs
  | n :: ns, ks, fs => match getF fs n with
    | some v => if v.2 = [] then crashL ns ks fs else crashL ns ks.tail (putF fs n (v.1 ++ v.2.take (max 0 (ks.headD 0)).toNat, []))
    | none => crashL ns ks fs
theorem crashL_cons {n : Str} {ns : List Str} {ks : List Int} {fs : Dtb} {v : List Nat × List Nat} (h : getF fs n = some v) : crashL (n :: ns) ks fs = if v.2 = [] then crashL ns ks fs else crashL ns ks.tail (putF fs n (v.1 ++ v.2.take (max 0 (ks.headD 0)).toNat, [])) := by
  show (match getF fs n with
    | some v => if v.2 = [] then crashL ns ks fs else crashL ns ks.tail (putF fs n (v.1 ++ v.2.take (max 0 (ks.headD 0)).toNat, []))
    | none => crashL ns ks fs) = _
  rw [h]
theorem cut_toI (t : List Nat) {i : Int} (h : 0 ≤ i) : cutS (S t) none (some i) = S (t.take i.toNat) := by
  obtain ⟨k, rfl⟩ := Int.eq_ofNat_of_zero_le h
  rw [Int.toNat_natCast, cut_to]
theorem S_nil {t : List Nat} : decide (S t = "") = decide (t = []) := by
  refine decide_eq_decide.mpr ?_
  rw [t_em]
  exact ⟨fun h => S_inj h, fun h => by rw [h]⟩
end Q
namespace Q
open PySem L2
local macro_rules | `(tactic| walk_at "mu") => `(tactic| (repeat (first | exact mset_same | assumption | (rw [mset_ne]; rotate_left; (first | assumption | exact Ne.symm (by assumption))))))
local macro_rules | `(tactic| walk_at "lk") => `(tactic| (repeat (first | exact lk_hit | exact lk_nil | refine lk_skip (by decide +kernel) ?_)))
local macro_rules | `(tactic| walk_at "pf") => `(tactic| (repeat (first | rw [pf_nil] | rw [pf_hit] | (rw [pf_skip]; rotate_left; (focus (decide +kernel; done))))))
local macro_rules | `(tactic| walk_at "q") => `(tactic| ((with_reducible conv => whnf); repeat (first
  | (with_reducible refine q_t (by assumption) ?_; with_reducible conv => whnf)
  | (with_reducible refine q_f (by assumption) ?_; with_reducible conv => whnf)
  | (with_reducible refine q_t (by with_reducible rfl) ?_; with_reducible conv => whnf)
  | (with_reducible refine q_f (by with_reducible rfl) ?_; with_reducible conv => whnf)
  | (with_reducible refine q_t (by decide) ?_; with_reducible conv => whnf)
  | (with_reducible refine q_f (by decide) ?_; with_reducible conv => whnf)
  | (with_reducible refine q_t (decide_eq_true (by omega)) ?_; with_reducible conv => whnf)
  | (with_reducible refine q_f (decide_eq_false (by omega)) ?_; with_reducible conv => whnf)
  | (with_reducible refine q_f (q_nn (by omega)) ?_; with_reducible conv => whnf)
  | (with_reducible refine q_t (q_nt (by omega)) ?_; with_reducible conv => whnf)
  | (with_reducible refine q_len (by with_unfolding_all rfl) ?_; with_reducible conv => whnf)
  | (with_reducible refine q_leq (by with_unfolding_all rfl) ?_; with_reducible conv => whnf)
  | (with_reducible refine q_and (by first | assumption | exact True.intro | omega | (simp only [List.length_map, List.length_append, List.length_cons, List.length_nil]; omega) | decide) ?_; with_reducible conv => whnf)
  | (with_reducible refine q_le (by with_unfolding_all rfl) ?_; with_reducible conv => whnf)
  | (with_reducible refine q_and tyL_lst ?_; with_reducible conv => whnf)
  | (with_reducible refine q_and tyL_rol ?_; with_reducible conv => whnf)
  | (with_reducible refine q_and (tyL_ref (by walk_at "mu")) ?_; with_reducible conv => whnf)
  | (with_reducible refine q_and (tyD_ref (by walk_at "mu")) ?_; with_reducible conv => whnf)
  | (with_reducible refine q_and (rdD_ref (by walk_at "mu")) ?_; with_reducible conv => whnf)
  | (rw [pick_c0]; with_reducible conv => whnf)
  | (rw [pick_c1]; with_reducible conv => whnf)
  | (rw [pick_c2]; with_reducible conv => whnf)
  | (rw [pick_c3]; with_reducible conv => whnf)
  | (rw [pick_c4]; with_reducible conv => whnf)
  | (rw [pick_c5]; with_reducible conv => whnf)
  | (rw [mset_same]; with_reducible conv => whnf)
  | (rw [mset_ne (by assumption)]; with_reducible conv => whnf)
  | (rw [mset_ne]; rotate_left; (first | assumption | exact Ne.symm (by assumption)); with_reducible conv => whnf)
  | (rw [rdL_ref]; rotate_left; (focus (walk_at "mu"; done)); with_reducible conv => whnf)
  | (rw [rdL_refD]; rotate_left; (focus (walk_at "mu"; done)); with_reducible conv => whnf)
  | (rw [rdD_refD]; rotate_left; (focus (walk_at "mu"; done)); with_reducible conv => whnf)
  | (rw [rdM_ref]; rotate_left; (focus (walk_at "mu"; done)); with_reducible conv => whnf)
  | (rw [rdL_refK]; rotate_left; (focus (walk_at "mu"; done)); with_reducible conv => whnf)
  | (rw [rdD_refK]; rotate_left; (focus (walk_at "mu"; done)); with_reducible conv => whnf)
  | (rw [tyW_refL]; rotate_left; (focus (walk_at "mu"; done)); with_reducible conv => whnf)
  | (rw [tyW_refD]; rotate_left; (focus (walk_at "mu"; done)); with_reducible conv => whnf)
  | (rw [drf_ref]; rotate_left; (focus (walk_at "mu"; done)); with_reducible conv => whnf)
  | ((conv => (arg 2; tactic' => (walk_at "mu"; done))); with_reducible conv => whnf)
  | (with_reducible refine q_and (Eq.refl _) ?_; with_reducible conv => whnf)
  | (with_reducible refine q_and (MulO.r (by decide)) ?_; with_reducible conv => whnf)
  | (with_reducible refine q_and (MulO.l (by decide)) ?_; with_reducible conv => whnf)
  | (with_reducible refine q_and (MulO.r (by omega)) ?_; with_reducible conv => whnf)
  | (with_reducible refine q_and (MulO.l (by omega)) ?_; with_reducible conv => whnf)
  | (with_reducible refine q_pow (by decide) ?_; with_reducible conv => whnf)
  | (with_reducible refine q_nisT (by first | assumption | with_reducible rfl) ?_; with_reducible conv => whnf)
  | (with_reducible refine q_nisF (by first | assumption | with_reducible rfl) ?_; with_reducible conv => whnf)
  | (with_reducible refine q_eqI ?_; with_reducible conv => whnf)
  | (with_reducible refine q_eqS ?_; with_reducible conv => whnf)
  | (with_reducible refine q_eqB ?_; with_reducible conv => whnf)
  | (with_reducible refine q_neI ?_; with_reducible conv => whnf)
  | (with_reducible refine q_neS ?_; with_reducible conv => whnf)
  | (with_reducible refine q_neB ?_; with_reducible conv => whnf)
  | (with_reducible refine q_memc ?_; with_reducible conv => whnf)
  | (with_reducible refine q_lkn (by walk_at "lk") ?_; with_reducible conv => whnf)
  | (with_reducible refine q_tix (by walk_at "lk"; done) ?_; with_reducible conv => whnf)
  | (with_reducible refine q_tin ?_; with_reducible conv => whnf)
  | (rw [pf_hit]; with_reducible conv => whnf)
  | (rw [pf_skip]; rotate_left; (focus (decide +kernel; done)); with_reducible conv => whnf)
  | (rw [lk_hit]; with_reducible conv => whnf)
  | (rw [lk_skip1]; rotate_left; (focus (decide +kernel; done)); with_reducible conv => whnf))))
/-! the disk, with names that are handed over, and its refusals -/
section
variable {μ : Mu} {P : Po} {X : Xo} {d f : Addr} {l : W} {fs : Dtb}
theorem dm_new {c : Bool} {p : Addr} (h : dm μ d f l c fs p = none) : p ≠ d ∧ p ≠ f ∧ μ p = none := by
  unfold dm at h
  obtain ⟨h1, h2⟩ := new_ne h
  obtain ⟨h3, h4⟩ := new_ne h2
  exact ⟨h3, h1, h4⟩
theorem sp_names2 (h : f ≠ d) {c : Bool} (hk : ∀ p, dm μ d f l c fs p = none → P (.ref p) (dm (mset μ p (.ls ((names fs).map W.str))) d f l c fs)) : f_Disk_names_2 [.ref d] (dm μ d f l c fs) P X := by
  rw [f_Disk_names_2_eq]; unfold f_Disk_names_2_B fDef
  refine ⟨rfl, ?_⟩
  have hd : dm μ d f l c fs d = some (.ins "Disk" [("_files", .ref f), ("_left", l), ("_crashed", .bl c)]) := dm_d h
  have hf : dm μ d f l c fs f = some (.dk (fw fs)) := dm_f
  walk_at "q"
  refine ⟨fs.map (·.1), ?_, fun p hp => ?_⟩
  · unfold fw
    rw [List.map_map, List.map_map]
    rfl
  · obtain ⟨h1, h2, h3⟩ := dm_new hp
    have := hk p hp
    rw [← dm_set h1 h2] at this
    exact Rt.now this
theorem sp_Dcrash2 {μ : Mu} {d f : Addr} {l : W} {c : Bool} {fs : Dtb} {ks : List Int} {P : Po} {X : Xo} (h : f ≠ d) (hl : ks.length ≤ 1000000) (hb : ∀ n v, getF fs n = some v → v.1.length + v.2.length ≤ 15000000) (hfs : fs.length < 1000000)
    (hk : P .non (dm μ d f .non false (crashL (names fs) ks fs))) : f_Disk_crash_2 [.ref d, .lst (ks.map W.int)] (dm μ d f l c fs) P X := by
  rw [f_Disk_crash_2_eq]; unfold f_Disk_crash_2_B fDef
  refine ⟨rfl, ?_⟩
  have hd : dm μ d f l c fs d = some (.ins "Disk" [("_files", .ref f), ("_left", l), ("_crashed", .bl c)]) := dm_d h
  walk_at "q"
  refine sp_names2 h fun p hp => ?_
  obtain ⟨pd, pf', hp⟩ := dm_new hp
  have sub0 : ∀ gs : Dtb, Sub (dm μ d f .non false gs) (dm (mset μ p (.ls ((names fs).map W.str))) d f .non false gs) := fun gs => by
    rw [← dm_set pd pf']
    exact Sub.new (by rw [dm_ne pd pf', hp])
  have hk : Rt P .non (dm (mset μ p (.ls ((names fs).map W.str))) d f .non false (crashL (names fs) ks fs)) := Rt.forget _ (sub0 _) hk
  have hnu : mset μ p (.ls ((names fs).map W.str)) p = some (.ls ((names fs).map W.str)) := mset_same
  revert hk hnu
  generalize mset μ p (.ls ((names fs).map W.str)) = ν
  intro hk hnu
  clear sub0 hd
  have hpp : ∀ gs : Dtb, dm ν d f l c gs p = some (.ls ((names fs).map W.str)) := fun gs => by rw [dm_ne pd pf', hnu]
  have hpq := hpp fs
  walk_at "q"
  refine itS_of W.str (fun done rest ρ μ' => done ++ rest = names fs ∧ ∃ (gs : Dtb) (j : Nat) (x3 x4 x5 x6 : Option W), j ≤ done.length ∧ gs.length = fs.length ∧ (∀ n, (getF gs n).isSome = (getF fs n).isSome) ∧ (∀ n v, getF gs n = some v → v.1.length + v.2.length ≤ 15000000) ∧ crashL (names fs) ks fs = crashL rest (ks.drop j) gs ∧ μ' = dm ν d f l c gs ∧
    ρ = [some (.ref d), some (.lst (ks.map W.int)), some (.int (j : Int)), x3, x4, x5, x6]) (names fs) [] ⟨rfl, fs, 0, none, none, none, none, Nat.le_refl _, rfl, fun _ => rfl, hb, rfl, rfl, rfl⟩ ?_ ?_
  · rintro done n r ρ μ' ⟨hs, gs, j, x3, x4, x5, x6, hj, hgl, hsm, hgb, hcr, rfl, rfl⟩
    refine ⟨by rw [rdL_ref (hpp gs)], fun K hK => ?_⟩
    have hnm : n ∈ names fs := by
      rw [← hs]
      exact List.mem_append_right _ List.mem_cons_self
    have hsome : (getF gs n).isSome = true := by
      rw [hsm]
      exact (names_mem fs n).mp hnm
    obtain ⟨v, hv⟩ := Option.isSome_iff_exists.mp hsome
    have hbv := hgb n v hv
    have hd : dm ν d f l c gs d = some (.ins "Disk" [("_files", .ref f), ("_left", l), ("_crashed", .bl c)]) := dm_d h
    have hf : dm ν d f l c gs f = some (.dk (fw gs)) := dm_f
    have e : valW (fw gs) (Sum.inr n) = some (.tup [.str (S v.1), .str (S v.2)]) := by rw [fw_val, hv]; rfl
    have l1 := S_len v.1
    have l2 := S_len v.2
    have l3 : (S v.2).length ≤ 16000000 := by omega
    rw [crashL_cons hv] at hcr
    have lks : (ks.map W.int).length = ks.length := List.length_map _
    have lgs : (fw gs).length < 16000000 := by
      unfold fw
      rw [List.length_map]
      omega
    walk_at "q"
    rw [S_nil]
    refine q_ifN (fun c1 => ?_) fun c1 => ?_
    · rw [if_pos c1] at hcr
      walk_at "q"
      exact hK _ _ ⟨by simp [hs], gs, j, _, _, _, _, by rw [List.length_append]; omega, hgl, hsm, hgb, hcr, rfl, rfl⟩
    · rw [if_neg c1] at hcr
      walk_at "q"
      refine q_jn (fun ρ' μ' => μ' = dm ν d f l c gs ∧ ρ' = [some (.ref d), some (.lst (ks.map W.int)), some (.int (j : Int)), some (.str n), some (.str (S v.1)), some (.str (S v.2)), some (.int (max 0 ((ks.drop j).headD 0)))]) (fun M hM => ?_) ?_
      · walk_at "q"
        refine q_ifP (fun c2 => ?_) fun c2 => ?_
        · have hj2 : j < ks.length := by omega
          have gp : pick (ks.map W.int) (j : Int) = some (.int ks[j]) := pick_mapN (List.getElem?_eq_getElem hj2)
          walk_at "q"
          refine hM _ _ ⟨rfl, ?_⟩
          have : (ks.drop j).headD 0 = ks[j] := by rw [List.drop_eq_getElem_cons hj2]; rfl
          rw [this]
        · walk_at "q"
          refine hM _ _ ⟨rfl, ?_⟩
          have : ks.drop j = [] := List.drop_eq_nil_of_le (by omega)
          rw [this]
          rfl
      · rintro _ _ ⟨rfl, rfl⟩
        have hm0 : 0 ≤ max 0 ((ks.drop j).headD 0) := by omega
        have cut := cut_toI v.2 hm0
        have l5 : (S (v.2.take (max 0 ((ks.drop j).headD 0)).toNat)).length ≤ v.2.length := by
          rw [S_len, List.length_take]
          omega
        walk_at "q"
        rw [cut]
        walk_at "q"
        rw [S_app, t_em]
        have ep := fw_put gs n (v.1 ++ v.2.take (max 0 ((ks.drop j).headD 0)).toNat, [])
        unfold ent at ep
        simp only at ep
        rw [ep, dm_setf]
        refine hK _ _ ⟨by simp [hs], putF gs n (v.1 ++ v.2.take (max 0 ((ks.drop j).headD 0)).toNat, []), j + 1, _, _, _, _, by rw [List.length_append, List.length_singleton]; omega, ?_, fun m => ?_, fun m w hw => ?_, ?_, rfl, rfl⟩
        · have ha : (gs.any fun x => decide (x.1 = n)) = true := by
            have := (getF_mem gs n).mpr hsome
            obtain ⟨x, hx, ex⟩ := List.mem_map.mp this
            exact List.any_eq_true.mpr ⟨x, hx, decide_eq_true ex⟩
          unfold putF
          rw [if_pos ha, List.length_map, hgl]
        · rw [getF_put, ← hsm m]
          by_cases z : n = m
          · rw [if_pos z, ← z, hv]
            rfl
          · rw [if_neg z]
        · rw [getF_put] at hw
          by_cases z : n = m
          · rw [if_pos z] at hw
            cases hw
            simp only [List.length_append, List.length_take, List.length_nil]
            omega
          · rw [if_neg z] at hw
            exact hgb m w hw
        · rw [List.tail_drop] at hcr
          exact hcr
  · rintro done ρ μ' ⟨hs, gs, j, x3, x4, x5, x6, hj, hgl, hsm, hgb, hcr, rfl, rfl⟩
    refine ⟨by rw [rdL_ref (hpp gs)], ?_⟩
    have hd : dm ν d f l c gs d = some (.ins "Disk" [("_files", .ref f), ("_left", l), ("_crashed", .bl c)]) := dm_d h
    walk_at "q"
    have e : pf "_crashed" (.bl false) (pf "_left" .non ([("_files", .ref f), ("_left", l), ("_crashed", .bl c)] : List (Str × W))) = ([("_files", .ref f), ("_left", .non), ("_crashed", .bl false)] : List (Str × W)) := by walk_at "pf"
    have hcr : crashL (names fs) ks fs = gs := hcr
    rw [hcr, ← dm_setd (l := l) (c := c) h] at hk
    rw [mset_mset]
    exact hk
theorem sp_DreadX (h : f ≠ d) {n : W} (hk : X "DiskCrashed" [] (dm μ d f l true fs)) : f_Disk_read [.ref d, n] (dm μ d f l true fs) P X := by
  rw [f_Disk_read_eq]; unfold f_Disk_read_B fDef
  refine ⟨rfl, ?_⟩
  have hd : dm μ d f l true fs d = some (.ins "Disk" [("_files", .ref f), ("_left", l), ("_crashed", .bl true)]) := dm_d h
  walk_at "q"
  exact sp_check_fileX h (q_ex hk)
theorem sp_DreadE (h : f ≠ d) {n : Str} (hz : n.length ≤ 16000000) (hv : nameB n = false ∨ getF fs n = none) (hk : X "DiskError" [] (dm μ d f l false fs)) : f_Disk_read [.ref d, .str n] (dm μ d f l false fs) P X := by
  rw [f_Disk_read_eq]; unfold f_Disk_read_B fDef
  refine ⟨rfl, ?_⟩
  have hd : dm μ d f l false fs d = some (.ins "Disk" [("_files", .ref f), ("_left", l), ("_crashed", .bl false)]) := dm_d h
  walk_at "q"
  exact sp_check_fileE h hz hv (q_ex hk)
theorem sp_DpendingX (h : f ≠ d) {n : W} (hk : X "DiskCrashed" [] (dm μ d f l true fs)) : f_Disk_pending [.ref d, n] (dm μ d f l true fs) P X := by
  rw [f_Disk_pending_eq]; unfold f_Disk_pending_B fDef
  refine ⟨rfl, ?_⟩
  have hd : dm μ d f l true fs d = some (.ins "Disk" [("_files", .ref f), ("_left", l), ("_crashed", .bl true)]) := dm_d h
  walk_at "q"
  exact sp_check_fileX h (q_ex hk)
theorem sp_DpendingE (h : f ≠ d) {n : Str} (hz : n.length ≤ 16000000) (hv : nameB n = false ∨ getF fs n = none) (hk : X "DiskError" [] (dm μ d f l false fs)) : f_Disk_pending [.ref d, .str n] (dm μ d f l false fs) P X := by
  rw [f_Disk_pending_eq]; unfold f_Disk_pending_B fDef
  refine ⟨rfl, ?_⟩
  have hd : dm μ d f l false fs d = some (.ins "Disk" [("_files", .ref f), ("_left", l), ("_crashed", .bl false)]) := dm_d h
  walk_at "q"
  exact sp_check_fileE h hz hv (q_ex hk)
theorem sp_DsyncX (h : f ≠ d) {n : W} (hk : X "DiskCrashed" [] (dm μ d f l true fs)) : f_Disk_sync [.ref d, n] (dm μ d f l true fs) P X := by
  rw [f_Disk_sync_eq]; unfold f_Disk_sync_B fDef
  refine ⟨rfl, ?_⟩
  have hd : dm μ d f l true fs d = some (.ins "Disk" [("_files", .ref f), ("_left", l), ("_crashed", .bl true)]) := dm_d h
  walk_at "q"
  exact sp_check_fileX h (q_ex hk)
theorem sp_DsyncE (h : f ≠ d) {n : Str} (hz : n.length ≤ 16000000) (hv : nameB n = false ∨ getF fs n = none) (hk : X "DiskError" [] (dm μ d f l false fs)) : f_Disk_sync [.ref d, .str n] (dm μ d f l false fs) P X := by
  rw [f_Disk_sync_eq]; unfold f_Disk_sync_B fDef
  refine ⟨rfl, ?_⟩
  have hd : dm μ d f l false fs d = some (.ins "Disk" [("_files", .ref f), ("_left", l), ("_crashed", .bl false)]) := dm_d h
  walk_at "q"
  exact sp_check_fileE h hz hv (q_ex hk)
theorem sp_DremoveX (h : f ≠ d) {n : W} (hk : X "DiskCrashed" [] (dm μ d f l true fs)) : f_Disk_remove [.ref d, n] (dm μ d f l true fs) P X := by
  rw [f_Disk_remove_eq]; unfold f_Disk_remove_B fDef
  refine ⟨rfl, ?_⟩
  have hd : dm μ d f l true fs d = some (.ins "Disk" [("_files", .ref f), ("_left", l), ("_crashed", .bl true)]) := dm_d h
  walk_at "q"
  exact sp_check_fileX h (q_ex hk)
theorem sp_DremoveE (h : f ≠ d) {n : Str} (hz : n.length ≤ 16000000) (hv : nameB n = false ∨ getF fs n = none) (hk : X "DiskError" [] (dm μ d f l false fs)) : f_Disk_remove [.ref d, .str n] (dm μ d f l false fs) P X := by
  rw [f_Disk_remove_eq]; unfold f_Disk_remove_B fDef
  refine ⟨rfl, ?_⟩
  have hd : dm μ d f l false fs d = some (.ins "Disk" [("_files", .ref f), ("_left", l), ("_crashed", .bl false)]) := dm_d h
  walk_at "q"
  exact sp_check_fileE h hz hv (q_ex hk)
theorem sp_DrenameX (h : f ≠ d) {n m : W} (hk : X "DiskCrashed" [] (dm μ d f l true fs)) : f_Disk_rename [.ref d, n, m] (dm μ d f l true fs) P X := by
  rw [f_Disk_rename_eq]; unfold f_Disk_rename_B fDef
  refine ⟨rfl, ?_⟩
  have hd : dm μ d f l true fs d = some (.ins "Disk" [("_files", .ref f), ("_left", l), ("_crashed", .bl true)]) := dm_d h
  walk_at "q"
  exact sp_check_fileX h (q_ex hk)
theorem sp_DrenameE (h : f ≠ d) {n : Str} {m : W} (hz : n.length ≤ 16000000) (hv : nameB n = false ∨ getF fs n = none) (hk : X "DiskError" [] (dm μ d f l false fs)) : f_Disk_rename [.ref d, .str n, m] (dm μ d f l false fs) P X := by
  rw [f_Disk_rename_eq]; unfold f_Disk_rename_B fDef
  refine ⟨rfl, ?_⟩
  have hd : dm μ d f l false fs d = some (.ins "Disk" [("_files", .ref f), ("_left", l), ("_crashed", .bl false)]) := dm_d h
  walk_at "q"
  exact sp_check_fileE h hz hv (q_ex hk)
theorem sp_DrenameN (h : f ≠ d) {n m : Str} (hz : n.length ≤ 16000000) (hzm : m.length ≤ 16000000) {v : List Nat × List Nat} (hn : nameB n = true) (hv : getF fs n = some v) (hm : nameB m = false) (hk : X "DiskError" [] (dm μ d f l false fs)) : f_Disk_rename [.ref d, .str n, .str m] (dm μ d f l false fs) P X := by
  rw [f_Disk_rename_eq]; unfold f_Disk_rename_B fDef
  refine ⟨rfl, ?_⟩
  have hd : dm μ d f l false fs d = some (.ins "Disk" [("_files", .ref f), ("_left", l), ("_crashed", .bl false)]) := dm_d h
  walk_at "q"
  refine sp_check_file h hn hz hv ?_
  walk_at "q"
  refine sp_is_name hzm ?_
  rw [hm]
  walk_at "q"
  exact q_ex hk
theorem sp_DappendX (h : f ≠ d) {n z : W} (hk : X "DiskCrashed" [] (dm μ d f l true fs)) : f_Disk_append [.ref d, n, z] (dm μ d f l true fs) P X := by
  rw [f_Disk_append_eq]; unfold f_Disk_append_B fDef
  refine ⟨rfl, ?_⟩
  have hd : dm μ d f l true fs d = some (.ins "Disk" [("_files", .ref f), ("_left", l), ("_crashed", .bl true)]) := dm_d h
  walk_at "q"
  exact sp_check_upX h (q_ex hk)
theorem sp_DappendE (h : f ≠ d) {n : Str} {z : W} (hz : n.length ≤ 16000000) (hn : nameB n = false) (hk : X "DiskError" [] (dm μ d f l false fs)) : f_Disk_append [.ref d, .str n, z] (dm μ d f l false fs) P X := by
  rw [f_Disk_append_eq]; unfold f_Disk_append_B fDef
  refine ⟨rfl, ?_⟩
  have hd : dm μ d f l false fs d = some (.ins "Disk" [("_files", .ref f), ("_left", l), ("_crashed", .bl false)]) := dm_d h
  walk_at "q"
  refine sp_check_up h ?_
  walk_at "q"
  refine sp_is_name hz ?_
  rw [hn]
  walk_at "q"
  exact q_ex hk
end
end Q
namespace Q
open PySem L2
local macro_rules | `(tactic| walk_at "mu") => `(tactic| (repeat (first | exact mset_same | assumption | (rw [mset_ne]; rotate_left; (first | assumption | exact Ne.symm (by assumption))))))
local macro_rules | `(tactic| walk_at "lk") => `(tactic| (repeat (first | exact lk_hit | exact lk_nil | refine lk_skip (by decide +kernel) ?_)))
local macro_rules | `(tactic| walk_at "pf") => `(tactic| (repeat (first | rw [pf_nil] | rw [pf_hit] | (rw [pf_skip]; rotate_left; (focus (decide +kernel; done))))))
local macro_rules | `(tactic| walk_at "q") => `(tactic| ((with_reducible conv => whnf); repeat (first
  | (with_reducible refine q_t (by assumption) ?_; with_reducible conv => whnf)
  | (with_reducible refine q_f (by assumption) ?_; with_reducible conv => whnf)
  | (with_reducible refine q_t (by with_reducible rfl) ?_; with_reducible conv => whnf)
  | (with_reducible refine q_f (by with_reducible rfl) ?_; with_reducible conv => whnf)
  | (with_reducible refine q_t (by decide) ?_; with_reducible conv => whnf)
  | (with_reducible refine q_f (by decide) ?_; with_reducible conv => whnf)
  | (with_reducible refine q_t (decide_eq_true (by omega)) ?_; with_reducible conv => whnf)
  | (with_reducible refine q_f (decide_eq_false (by omega)) ?_; with_reducible conv => whnf)
  | (with_reducible refine q_f (q_nn (by omega)) ?_; with_reducible conv => whnf)
  | (with_reducible refine q_t (q_nt (by omega)) ?_; with_reducible conv => whnf)
  | (with_reducible refine q_len (by with_unfolding_all rfl) ?_; with_reducible conv => whnf)
  | (with_reducible refine q_leq (by with_unfolding_all rfl) ?_; with_reducible conv => whnf)
  | (with_reducible refine q_and (by first | assumption | exact True.intro | omega | (simp only [List.length_map, List.length_append, List.length_cons, List.length_nil]; omega) | decide) ?_; with_reducible conv => whnf)
  | (with_reducible refine q_le (by with_unfolding_all rfl) ?_; with_reducible conv => whnf)
  | (with_reducible refine q_and tyL_lst ?_; with_reducible conv => whnf)
  | (with_reducible refine q_and tyL_rol ?_; with_reducible conv => whnf)
  | (with_reducible refine q_and (tyL_ref (by walk_at "mu")) ?_; with_reducible conv => whnf)
  | (with_reducible refine q_and (tyD_ref (by walk_at "mu")) ?_; with_reducible conv => whnf)
  | (with_reducible refine q_and (rdD_ref (by walk_at "mu")) ?_; with_reducible conv => whnf)
  | (rw [pick_c0]; with_reducible conv => whnf)
  | (rw [pick_c1]; with_reducible conv => whnf)
  | (rw [pick_c2]; with_reducible conv => whnf)
  | (rw [pick_c3]; with_reducible conv => whnf)
  | (rw [pick_c4]; with_reducible conv => whnf)
  | (rw [pick_c5]; with_reducible conv => whnf)
  | (rw [mset_same]; with_reducible conv => whnf)
  | (rw [mset_ne (by assumption)]; with_reducible conv => whnf)
  | (rw [mset_ne]; rotate_left; (first | assumption | exact Ne.symm (by assumption)); with_reducible conv => whnf)
  | (rw [rdL_ref]; rotate_left; (focus (walk_at "mu"; done)); with_reducible conv => whnf)
  | (rw [rdL_refD]; rotate_left; (focus (walk_at "mu"; done)); with_reducible conv => whnf)
  | (rw [rdD_refD]; rotate_left; (focus (walk_at "mu"; done)); with_reducible conv => whnf)
  | (rw [rdM_ref]; rotate_left; (focus (walk_at "mu"; done)); with_reducible conv => whnf)
  | (rw [rdL_refK]; rotate_left; (focus (walk_at "mu"; done)); with_reducible conv => whnf)
  | (rw [rdD_refK]; rotate_left; (focus (walk_at "mu"; done)); with_reducible conv => whnf)
  | (rw [tyW_refL]; rotate_left; (focus (walk_at "mu"; done)); with_reducible conv => whnf)
  | (rw [tyW_refD]; rotate_left; (focus (walk_at "mu"; done)); with_reducible conv => whnf)
  | (rw [drf_ref]; rotate_left; (focus (walk_at "mu"; done)); with_reducible conv => whnf)
  | ((conv => (arg 2; tactic' => (walk_at "mu"; done))); with_reducible conv => whnf)
  | (with_reducible refine q_and (Eq.refl _) ?_; with_reducible conv => whnf)
  | (with_reducible refine q_and (MulO.r (by decide)) ?_; with_reducible conv => whnf)
  | (with_reducible refine q_and (MulO.l (by decide)) ?_; with_reducible conv => whnf)
  | (with_reducible refine q_and (MulO.r (by omega)) ?_; with_reducible conv => whnf)
  | (with_reducible refine q_and (MulO.l (by omega)) ?_; with_reducible conv => whnf)
  | (with_reducible refine q_pow (by decide) ?_; with_reducible conv => whnf)
  | (with_reducible refine q_nisT (by first | assumption | with_reducible rfl) ?_; with_reducible conv => whnf)
  | (with_reducible refine q_nisF (by first | assumption | with_reducible rfl) ?_; with_reducible conv => whnf)
  | (with_reducible refine q_eqI ?_; with_reducible conv => whnf)
  | (with_reducible refine q_eqS ?_; with_reducible conv => whnf)
  | (with_reducible refine q_eqB ?_; with_reducible conv => whnf)
  | (with_reducible refine q_neI ?_; with_reducible conv => whnf)
  | (with_reducible refine q_neS ?_; with_reducible conv => whnf)
  | (with_reducible refine q_neB ?_; with_reducible conv => whnf)
  | (with_reducible refine q_memc ?_; with_reducible conv => whnf)
  | (with_reducible refine q_lkn (by walk_at "lk") ?_; with_reducible conv => whnf)
  | (with_reducible refine q_tix (by walk_at "lk"; done) ?_; with_reducible conv => whnf)
  | (with_reducible refine q_tin ?_; with_reducible conv => whnf)
  | (rw [pf_hit]; with_reducible conv => whnf)
  | (rw [pf_skip]; rotate_left; (focus (decide +kernel; done)); with_reducible conv => whnf)
  | (rw [lk_hit]; with_reducible conv => whnf)
  | (rw [lk_skip1]; rotate_left; (focus (decide +kernel; done)); with_reducible conv => whnf))))
/-! the law's own disk: a table -/
def mdl (g : Addr) (l : W) (c : Bool) : List (Key × W) := [(Sum.inr "files", .ref g), (Sum.inr "left", l), (Sum.inr "dead", .bl c)]
theorem mdl_f (g : Addr) (l : W) (c : Bool) : valW (mdl g l c) (Sum.inr "files") = some (.ref g) := by with_unfolding_all rfl
theorem mdl_l (g : Addr) (l : W) (c : Bool) : valW (mdl g l c) (Sum.inr "left") = some l := by with_unfolding_all rfl
theorem mdl_d (g : Addr) (l : W) (c : Bool) : valW (mdl g l c) (Sum.inr "dead") = some (.bl c) := by with_unfolding_all rfl
theorem mdl_pl (g : Addr) (l l' : W) (c : Bool) : putW (mdl g l c) (Sum.inr "left") l' = mdl g l' c := by with_unfolding_all rfl
theorem mdl_pd (g : Addr) (l : W) (c c' : Bool) : putW (mdl g l c) (Sum.inr "dead") (.bl c') = mdl g l c' := by with_unfolding_all rfl
theorem mdl_len (g : Addr) (l : W) (c : Bool) : (mdl g l c).length < 16000000 := by
  show 3 < 16000000
  omega
def mm (μ : Mu) (t g : Addr) (l : W) (c : Bool) (fs : Dtb) : Mu := mset (mset μ t (.dk (mdl g l c))) g (.dk (fw fs))
theorem mm_t {μ : Mu} {t g : Addr} {l : W} {c : Bool} {fs : Dtb} (h : g ≠ t) : mm μ t g l c fs t = some (.dk (mdl g l c)) := by
  unfold mm
  rw [mset_ne (Ne.symm h), mset_same]
theorem mm_g {μ : Mu} {t g : Addr} {l : W} {c : Bool} {fs : Dtb} : mm μ t g l c fs g = some (.dk (fw fs)) := mset_same
theorem mm_ne {μ : Mu} {t g p : Addr} {l : W} {c : Bool} {fs : Dtb} (h1 : p ≠ t) (h2 : p ≠ g) : mm μ t g l c fs p = μ p := by
  unfold mm
  rw [mset_ne h2, mset_ne h1]
theorem mm_sett {μ : Mu} {t g : Addr} {l l' : W} {c c' : Bool} {fs : Dtb} (h : g ≠ t) : mset (mm μ t g l c fs) t (.dk (mdl g l' c')) = mm μ t g l' c' fs := by
  unfold mm
  funext b
  unfold mset
  by_cases h1 : b = g <;> by_cases h2 : b = t <;> simp_all
theorem mm_setg {μ : Mu} {t g : Addr} {l : W} {c : Bool} {fs fs' : Dtb} : mset (mm μ t g l c fs) g (.dk (fw fs')) = mm μ t g l c fs' := by
  unfold mm
  rw [mset_mset]
theorem fw_len (fs : Dtb) : (fw fs).length = fs.length := List.length_map _
inductive Deed where
  | app (n : Str) (z : List Nat) | syn (n m : Str) | rea (n m : Str) | ren (n m : Str) | rem (n m : Str) | pen (n m : Str) | cra (p : Addr) (ks : List Int) | arm (i : Int)
def Deed.w : Deed → W
  | .app n z => .tup [.str "append", .str n, .str (S z)]
  | .syn n m => .tup [.str "sync", .str n, .str m]
  | .rea n m => .tup [.str "read", .str n, .str m]
  | .ren n m => .tup [.str "rename", .str n, .str m]
  | .rem n m => .tup [.str "remove", .str n, .str m]
  | .pen n m => .tup [.str "pending", .str n, .str m]
  | .cra p _ => .tup [.str "crash", .ref p]
  | .arm i => .tup [.str "arm", .int i]
structure Ans where
  k : Str
  v : W
  l : W
  c : Bool
  fs : Dtb
def opA (l : W) (fs fs' : Dtb) : Ans := match opL l with
  | none => ⟨"crashed", .non, l, true, fs⟩
  | some l' => ⟨"done", .non, l', false, fs'⟩
def Deed.res (l : W) (c : Bool) (fs : Dtb) : Deed → Ans
  | .arm i => ⟨"done", .non, .int i, c, fs⟩
  | .cra _ ks => ⟨"done", .non, .non, false, crashL (names fs) ks fs⟩
  | .app n z => if c = true then ⟨"crashed", .non, l, c, fs⟩ else if nameB n = true then opA l fs (putF fs n ((parts fs n).1, (parts fs n).2 ++ z)) else ⟨"error", .non, l, c, fs⟩
  | .syn n _ => if c = true then ⟨"crashed", .non, l, c, fs⟩ else match getF fs n with
    | none => ⟨"error", .non, l, c, fs⟩
    | some v => opA l fs (putF fs n (v.1 ++ v.2, []))
  | .rea n _ => if c = true then ⟨"crashed", .non, l, c, fs⟩ else match getF fs n with
    | none => ⟨"error", .non, l, c, fs⟩
    | some v => ⟨"done", .str (S (v.1 ++ v.2)), l, c, fs⟩
  | .pen n _ => if c = true then ⟨"crashed", .non, l, c, fs⟩ else match getF fs n with
    | none => ⟨"error", .non, l, c, fs⟩
    | some v => ⟨"done", .int (v.2.length : Int), l, c, fs⟩
  | .rem n _ => if c = true then ⟨"crashed", .non, l, c, fs⟩ else match getF fs n with
    | none => ⟨"error", .non, l, c, fs⟩
    | some _ => opA l fs (dropF fs n)
  | .ren n m => if c = true then ⟨"crashed", .non, l, c, fs⟩ else match getF fs n with
    | none => ⟨"error", .non, l, c, fs⟩
    | some v => if nameB m = true then opA l fs (putF (dropF fs n) m v) else ⟨"error", .non, l, c, fs⟩
section
variable {μ : Mu} {P : Po} {X : Xo} {t g : Addr} {l : W} {c : Bool} {fs : Dtb}
def dots : Str := "abcdefghijklmnopqrstuvwxyz."
theorem dots_mem (c : Nat) : decide (c ∈ dots.cps.toList) = nameC c := by
  have key : ∀ c ∈ dots.cps.toList, nameC c = true := by decide +kernel
  have back : ∀ c : Nat, c < 26 → (97 + c) ∈ dots.cps.toList := by decide +kernel
  have dot : 46 ∈ dots.cps.toList := by decide +kernel
  cases e : nameC c with
  | true =>
    refine decide_eq_true ?_
    rcases Bool.or_eq_true_iff.mp e with h | h
    · rw [of_decide_eq_true h]
      exact dot
    · have h := of_decide_eq_true h
      have := back (c - 97) (by omega)
      rwa [show 97 + (c - 97) = c by omega] at this
  | false => exact decide_eq_false fun h => by rw [key c h] at e; cases e
theorem sp_lgood {n : Str} (hz : n.length ≤ 16000000) (h : P (.bl (nameB n)) μ) : f__law_good [.str n] μ P X := by
  rw [f__law_good_eq]; unfold f__law_good_B fDef
  refine ⟨rfl, ?_⟩
  have no : ¬(1 ≤ n.length ∧ n.length ≤ 20) → P (.bl false) μ := fun c => by
    unfold nameB at h
    rw [decide_eq_false c] at h
    exact h
  walk_at "q"
  refine q_ifP (fun c1 => ?_) fun c1 => ?_
  · walk_at "q"
    refine q_ifN (fun c2 => ?_) fun c2 => ?_
    · walk_at "q"
      have e : nameB n = (signs n).all nameW := by
        unfold nameB signs
        rw [decide_eq_true (by omega), Bool.true_and, List.all_map]
        rfl
      rw [e] at h
      refine itS_ret (v := .bl false) nameW (fun ρ => ∃ x, ρ = [some (.str n), x]) trivial _ ⟨none, rfl⟩ (fun w hw ρ hρ K hy hn => ?_) (fun a ρ hρ => ?_) fun a => ?_
      · obtain ⟨x, rfl⟩ := hρ
        obtain ⟨c, _, rfl⟩ := List.mem_map.mp hw
        walk_at "q"
        have hd := dots_mem c
        cases e3 : nameC c with
        | true =>
          rw [e3] at hd
          refine q_f (by rw [show decide (c ∈ ("abcdefghijklmnopqrstuvwxyz." : Str).cps.toList) = true from hd]; rfl) ?_
          walk_at "q"
          exact hy e3 _ ⟨_, rfl⟩
        | false =>
          rw [e3] at hd
          refine q_t (by rw [show decide (c ∈ ("abcdefghijklmnopqrstuvwxyz." : Str).cps.toList) = false from hd]; rfl) ?_
          walk_at "q"
          exact hn e3
      · rw [a] at h
        exact Rt.now h
      · rw [a] at h
        exact Rt.now h
    · walk_at "q"
      exact Rt.now (no fun q => c2 (by omega))
  · walk_at "q"
    exact Rt.now (no fun q => c1 (by omega))
theorem sp_lpass (h : g ≠ t) (hl : isLeft l = true) (hk : ∀ l', opL l = some l' → P (.bl true) (mm μ t g l' false fs)) (hx : opL l = none → P (.bl false) (mm μ t g l true fs)) : f__law_passes [.ref t] (mm μ t g l false fs) P X := by
  rw [f__law_passes_eq]; unfold f__law_passes_B fDef
  refine ⟨rfl, ?_⟩
  have ht : mm μ t g l false fs t = some (.dk (mdl g l false)) := mm_t h
  have v2 := mdl_l g l false
  have lz := mdl_len g l false
  cases l with
  | non =>
    walk_at "q"
    exact Rt.now (hk .non rfl)
  | int i =>
    walk_at "q"
    refine q_ifP (fun c1 => ?_) fun c1 => ?_
    · walk_at "q"
      rw [mdl_pd, mm_sett h]
      exact Rt.now (hx (if_pos c1))
    · walk_at "q"
      rw [mdl_pl, mm_sett h]
      exact Rt.now (hk _ (if_neg c1))
  | _ => cases hl
theorem sp_lvalid_app {n : Str} {z : List Nat} (hz : n.length ≤ 16000000) (hk : P (.bl (nameB n)) μ) : f__law_valid [.ref t, Deed.w (.app n z)] μ P X := by
  rw [f__law_valid_eq]; unfold f__law_valid_B fDef
  refine ⟨rfl, ?_⟩
  unfold Deed.w
  walk_at "q"
  refine sp_lgood hz ?_
  exact Rt.now hk
theorem sp_lvalid {k n m : Str} (h : g ≠ t) (h1 : k ≠ "append") (hz : m.length ≤ 16000000) (hk : P (.bl ((getF fs n).isSome && (!decide (k = "rename") || nameB m))) (mm μ t g l c fs)) : f__law_valid [.ref t, .tup [.str k, .str n, .str m]] (mm μ t g l c fs) P X := by
  rw [f__law_valid_eq]; unfold f__law_valid_B fDef
  refine ⟨rfl, ?_⟩
  have ht : mm μ t g l c fs t = some (.dk (mdl g l c)) := mm_t h
  have hg : mm μ t g l c fs g = some (.dk (fw fs)) := mm_g
  have v1 := mdl_f g l c
  have v4 : (valW (fw fs) (Sum.inr n)).isSome = (getF fs n).isSome := by
    rw [fw_val]
    cases getF fs n <;> rfl
  walk_at "q"
  rw [if_pos rfl, v4]
  cases e : (getF fs n).isSome with
  | false =>
    rw [e] at hk
    walk_at "q"
    exact Rt.now hk
  | true =>
    rw [e, Bool.true_and] at hk
    walk_at "q"
    cases e2 : decide (k = "rename") with
    | false =>
      rw [e2] at hk
      walk_at "q"
      exact Rt.now hk
    | true =>
      rw [e2] at hk
      walk_at "q"
      refine sp_lgood hz ?_
      exact Rt.now hk
theorem sp_lchg_app {n : Str} {z : List Nat} (h : g ≠ t) (hfs : fs.length < 16000000) (hb : (parts fs n).2.length + z.length ≤ 15000000) (hk : P .non (mm μ t g l c (putF fs n ((parts fs n).1, (parts fs n).2 ++ z)))) : f__law_change [.ref t, Deed.w (.app n z)] (mm μ t g l c fs) P X := by
  rw [f__law_change_eq]; unfold f__law_change_B fDef
  refine ⟨rfl, ?_⟩
  have ht : mm μ t g l c fs t = some (.dk (mdl g l c)) := mm_t h
  have hg : mm μ t g l c fs g = some (.dk (fw fs)) := mm_g
  have v1 := mdl_f g l c
  have lfw : (fw fs).length < 16000000 := by
    rw [fw_len]
    exact hfs
  unfold Deed.w
  walk_at "q"
  have ee : (valW (fw fs) (Sum.inr n)).getD (.tup [.str "", .str ""]) = .tup [.str (S (parts fs n).1), .str (S (parts fs n).2)] := by
    rw [fw_val]
    unfold parts
    cases getF fs n with
    | none => rfl
    | some v => rfl
  rw [ee]
  have l1 := S_len (parts fs n).2
  have l2 := S_len z
  walk_at "q"
  rw [S_app]
  rw [← mm_setg (fs := fs), ← fw_put] at hk
  exact Rt.now hk
theorem sp_lchg_syn {n m : Str} {v : List Nat × List Nat} (h : g ≠ t) (hfs : fs.length < 16000000) (hv : getF fs n = some v) (hb : v.1.length + v.2.length ≤ 15000000) (hk : P .non (mm μ t g l c (putF fs n (v.1 ++ v.2, [])))) : f__law_change [.ref t, Deed.w (.syn n m)] (mm μ t g l c fs) P X := by
  rw [f__law_change_eq]; unfold f__law_change_B fDef
  refine ⟨rfl, ?_⟩
  have ht : mm μ t g l c fs t = some (.dk (mdl g l c)) := mm_t h
  have hg : mm μ t g l c fs g = some (.dk (fw fs)) := mm_g
  have v1 := mdl_f g l c
  have lfw : (fw fs).length < 16000000 := by
    rw [fw_len]
    exact hfs
  have e : valW (fw fs) (Sum.inr n) = some (.tup [.str (S v.1), .str (S v.2)]) := by rw [fw_val, hv]; rfl
  have l1 := S_len v.1
  have l2 := S_len v.2
  unfold Deed.w
  walk_at "q"
  rw [S_app, t_em]
  rw [← mm_setg (fs := fs), ← fw_put] at hk
  exact Rt.now hk
theorem sp_lchg_rem {n m : Str} {v : List Nat × List Nat} (h : g ≠ t) (hv : getF fs n = some v) (hk : P .non (mm μ t g l c (dropF fs n))) : f__law_change [.ref t, Deed.w (.rem n m)] (mm μ t g l c fs) P X := by
  rw [f__law_change_eq]; unfold f__law_change_B fDef
  refine ⟨rfl, ?_⟩
  have ht : mm μ t g l c fs t = some (.dk (mdl g l c)) := mm_t h
  have hg : mm μ t g l c fs g = some (.dk (fw fs)) := mm_g
  have v1 := mdl_f g l c
  have e : valW (fw fs) (Sum.inr n) = some (.tup [.str (S v.1), .str (S v.2)]) := by rw [fw_val, hv]; rfl
  unfold Deed.w
  walk_at "q"
  rw [fw_drop, mm_setg]
  exact Rt.now hk
theorem sp_lchg_ren {n m : Str} {v : List Nat × List Nat} (h : g ≠ t) (hfs : fs.length < 16000000) (hv : getF fs n = some v) (hk : P .non (mm μ t g l c (putF (dropF fs n) m v))) : f__law_change [.ref t, Deed.w (.ren n m)] (mm μ t g l c fs) P X := by
  rw [f__law_change_eq]; unfold f__law_change_B fDef
  refine ⟨rfl, ?_⟩
  have ht : mm μ t g l c fs t = some (.dk (mdl g l c)) := mm_t h
  have hg : mm μ t g l c fs g = some (.dk (fw fs)) := mm_g
  have hg2 : mm μ t g l c (dropF fs n) g = some (.dk (fw (dropF fs n))) := mm_g
  have v1 := mdl_f g l c
  have e : valW (fw fs) (Sum.inr n) = some (.tup [.str (S v.1), .str (S v.2)]) := by rw [fw_val, hv]; rfl
  have lfw : (fw (dropF fs n)).length < 16000000 := by
    rw [fw_len]
    have : (dropF fs n).length ≤ fs.length := List.length_filter_le _ _
    omega
  unfold Deed.w
  walk_at "q"
  rw [fw_drop, mm_setg]
  walk_at "q"
  rw [← mm_setg (fs := dropF fs n), ← fw_put] at hk
  exact Rt.now hk
theorem sp_lcrash {p : Addr} {ks : List Int} (h : g ≠ t) (hpt : p ≠ t) (hpg : p ≠ g) (hp : μ p = some (.ls (ks.map W.int))) (hl : ks.length ≤ 1000000) (hb : ∀ n v, getF fs n = some v → v.1.length + v.2.length ≤ 15000000) (hfs : fs.length < 1000000)
    (hk : P .non (mm μ t g .non false (crashL (names fs) ks fs))) : f__law_crash_2 [.ref t, .ref p] (mm μ t g l c fs) P X := by
  rw [f__law_crash_2_eq]; unfold f__law_crash_2_B fDef
  refine ⟨rfl, ?_⟩
  have ht : mm μ t g l c fs t = some (.dk (mdl g l c)) := mm_t h
  have hg : mm μ t g l c fs g = some (.dk (fw fs)) := mm_g
  have v1 := mdl_f g l c
  walk_at "q"
  refine ⟨fs.map (·.1), ?_, ?_⟩
  · unfold fw
    rw [List.map_map, List.map_map]
    rfl
  walk_at "q"
  refine itS_of W.str (fun done rest ρ μ' => done ++ rest = names fs ∧ ∃ (gs : Dtb) (j : Nat) (x3 x4 x5 x6 x7 : Option W), j ≤ done.length ∧ gs.length = fs.length ∧ (∀ n, (getF gs n).isSome = (getF fs n).isSome) ∧ (∀ n v, getF gs n = some v → v.1.length + v.2.length ≤ 15000000) ∧ crashL (names fs) ks fs = crashL rest (ks.drop j) gs ∧ μ' = mm μ t g l c gs ∧
    ρ = [some (.ref t), some (.ref p), some (.int (j : Int)), x3, x4, x5, x6, x7]) (names fs) [] ⟨rfl, fs, 0, none, none, none, none, none, Nat.le_refl _, rfl, fun _ => rfl, hb, rfl, rfl, rfl⟩ ?_ ?_
  · rintro done n r ρ μ' ⟨hs, gs, j, x3, x4, x5, x6, x7, hj, hgl, hsm, hgb, hcr, rfl, rfl⟩
    refine ⟨rfl, fun K hK => ?_⟩
    have hnm : n ∈ names fs := by
      rw [← hs]
      exact List.mem_append_right _ List.mem_cons_self
    have hsome : (getF gs n).isSome = true := by
      rw [hsm]
      exact (names_mem fs n).mp hnm
    obtain ⟨v, hv⟩ := Option.isSome_iff_exists.mp hsome
    have hbv := hgb n v hv
    have ht : mm μ t g l c gs t = some (.dk (mdl g l c)) := mm_t h
    have hg : mm μ t g l c gs g = some (.dk (fw gs)) := mm_g
    have hpp : mm μ t g l c gs p = some (.ls (ks.map W.int)) := by rw [mm_ne hpt hpg, hp]
    have e : valW (fw gs) (Sum.inr n) = some (.tup [.str (S v.1), .str (S v.2)]) := by rw [fw_val, hv]; rfl
    have l1 := S_len v.1
    have l2 := S_len v.2
    have l3 : (S v.2).length ≤ 16000000 := by omega
    rw [crashL_cons hv] at hcr
    have lks : (ks.map W.int).length = ks.length := List.length_map _
    have lgs : (fw gs).length < 16000000 := by
      rw [fw_len]
      omega
    walk_at "q"
    rw [S_nil]
    refine q_ifN (fun c1 => ?_) fun c1 => ?_
    · rw [if_pos c1] at hcr
      walk_at "q"
      exact hK _ _ ⟨by simp [hs], gs, j, _, _, _, _, _, by rw [List.length_append]; omega, hgl, hsm, hgb, hcr, rfl, rfl⟩
    · rw [if_neg c1] at hcr
      walk_at "q"
      refine q_jn (fun ρ' μ' => μ' = mm μ t g l c gs ∧ ρ' = [some (.ref t), some (.ref p), some (.int (j : Int)), some (.str n), some (.ref g), some (.str (S v.1)), some (.str (S v.2)), some (.int (max 0 ((ks.drop j).headD 0)))]) (fun M hM => ?_) ?_
      · walk_at "q"
        refine q_ifP (fun c2 => ?_) fun c2 => ?_
        · have hj2 : j < ks.length := by omega
          have gp : pick (ks.map W.int) (j : Int) = some (.int ks[j]) := pick_mapN (List.getElem?_eq_getElem hj2)
          walk_at "q"
          refine hM _ _ ⟨rfl, ?_⟩
          have : (ks.drop j).headD 0 = ks[j] := by rw [List.drop_eq_getElem_cons hj2]; rfl
          rw [this]
        · walk_at "q"
          refine hM _ _ ⟨rfl, ?_⟩
          have : ks.drop j = [] := List.drop_eq_nil_of_le (by omega)
          rw [this]
          rfl
      · rintro _ _ ⟨rfl, rfl⟩
        have hm0 : 0 ≤ max 0 ((ks.drop j).headD 0) := by omega
        have cut := cut_toI v.2 hm0
        have l5 : (S (v.2.take (max 0 ((ks.drop j).headD 0)).toNat)).length ≤ v.2.length := by
          rw [S_len, List.length_take]
          omega
        walk_at "q"
        rw [cut]
        walk_at "q"
        rw [S_app, t_em]
        have ep := fw_put gs n (v.1 ++ v.2.take (max 0 ((ks.drop j).headD 0)).toNat, [])
        unfold ent at ep
        simp only at ep
        rw [ep, mm_setg]
        refine hK _ _ ⟨by simp [hs], putF gs n (v.1 ++ v.2.take (max 0 ((ks.drop j).headD 0)).toNat, []), j + 1, _, _, _, _, _, by rw [List.length_append, List.length_singleton]; omega, ?_, fun m => ?_, fun m w hw => ?_, ?_, rfl, rfl⟩
        · have ha : (gs.any fun x => decide (x.1 = n)) = true := by
            have := (getF_mem gs n).mpr hsome
            obtain ⟨x, hx, ex⟩ := List.mem_map.mp this
            exact List.any_eq_true.mpr ⟨x, hx, decide_eq_true ex⟩
          unfold putF
          rw [if_pos ha, List.length_map, hgl]
        · rw [getF_put, ← hsm m]
          by_cases z : n = m
          · rw [if_pos z, ← z, hv]
            rfl
          · rw [if_neg z]
        · rw [getF_put] at hw
          by_cases z : n = m
          · rw [if_pos z] at hw
            cases hw
            simp only [List.length_append, List.length_take, List.length_nil]
            omega
          · rw [if_neg z] at hw
            exact hgb m w hw
        · rw [List.tail_drop] at hcr
          exact hcr
  · rintro done ρ μ' ⟨hs, gs, j, x3, x4, x5, x6, x7, hj, hgl, hsm, hgb, hcr, rfl, rfl⟩
    refine ⟨rfl, ?_⟩
    have ht : mm μ t g l c gs t = some (.dk (mdl g l c)) := mm_t h
    have lz := mdl_len g l c
    have lz2 := mdl_len g .non c
    have hcr : crashL (names fs) ks fs = gs := hcr
    walk_at "q"
    rw [mdl_pl, mm_sett h]
    have ht2 : mm μ t g .non c gs t = some (.dk (mdl g .non c)) := mm_t h
    walk_at "q"
    rw [mdl_pd, mm_sett h]
    rw [hcr] at hk
    exact Rt.now hk
end
end Q
namespace Q
open PySem L2
local macro_rules | `(tactic| walk_at "mu") => `(tactic| (repeat (first | exact mset_same | assumption | (rw [mset_ne]; rotate_left; (first | assumption | exact Ne.symm (by assumption))))))
local macro_rules | `(tactic| walk_at "lk") => `(tactic| (repeat (first | exact lk_hit | exact lk_nil | refine lk_skip (by decide +kernel) ?_)))
local macro_rules | `(tactic| walk_at "pf") => `(tactic| (repeat (first | rw [pf_nil] | rw [pf_hit] | (rw [pf_skip]; rotate_left; (focus (decide +kernel; done))))))
local macro_rules | `(tactic| walk_at "q") => `(tactic| ((with_reducible conv => whnf); repeat (first
  | (with_reducible refine q_t (by assumption) ?_; with_reducible conv => whnf)
  | (with_reducible refine q_f (by assumption) ?_; with_reducible conv => whnf)
  | (with_reducible refine q_t (by with_reducible rfl) ?_; with_reducible conv => whnf)
  | (with_reducible refine q_f (by with_reducible rfl) ?_; with_reducible conv => whnf)
  | (with_reducible refine q_t (by decide) ?_; with_reducible conv => whnf)
  | (with_reducible refine q_f (by decide) ?_; with_reducible conv => whnf)
  | (with_reducible refine q_t (decide_eq_true (by omega)) ?_; with_reducible conv => whnf)
  | (with_reducible refine q_f (decide_eq_false (by omega)) ?_; with_reducible conv => whnf)
  | (with_reducible refine q_f (q_nn (by omega)) ?_; with_reducible conv => whnf)
  | (with_reducible refine q_t (q_nt (by omega)) ?_; with_reducible conv => whnf)
  | (with_reducible refine q_len (by with_unfolding_all rfl) ?_; with_reducible conv => whnf)
  | (with_reducible refine q_leq (by with_unfolding_all rfl) ?_; with_reducible conv => whnf)
  | (with_reducible refine q_and (by first | assumption | exact True.intro | omega | (simp only [List.length_map, List.length_append, List.length_cons, List.length_nil]; omega) | decide) ?_; with_reducible conv => whnf)
  | (with_reducible refine q_le (by with_unfolding_all rfl) ?_; with_reducible conv => whnf)
  | (with_reducible refine q_and tyL_lst ?_; with_reducible conv => whnf)
  | (with_reducible refine q_and tyL_rol ?_; with_reducible conv => whnf)
  | (with_reducible refine q_and (tyL_ref (by walk_at "mu")) ?_; with_reducible conv => whnf)
  | (with_reducible refine q_and (tyD_ref (by walk_at "mu")) ?_; with_reducible conv => whnf)
  | (with_reducible refine q_and (rdD_ref (by walk_at "mu")) ?_; with_reducible conv => whnf)
  | (rw [pick_c0]; with_reducible conv => whnf)
  | (rw [pick_c1]; with_reducible conv => whnf)
  | (rw [pick_c2]; with_reducible conv => whnf)
  | (rw [pick_c3]; with_reducible conv => whnf)
  | (rw [pick_c4]; with_reducible conv => whnf)
  | (rw [pick_c5]; with_reducible conv => whnf)
  | (rw [mset_same]; with_reducible conv => whnf)
  | (rw [mset_ne (by assumption)]; with_reducible conv => whnf)
  | (rw [mset_ne]; rotate_left; (first | assumption | exact Ne.symm (by assumption)); with_reducible conv => whnf)
  | (rw [rdL_ref]; rotate_left; (focus (walk_at "mu"; done)); with_reducible conv => whnf)
  | (rw [rdL_refD]; rotate_left; (focus (walk_at "mu"; done)); with_reducible conv => whnf)
  | (rw [rdD_refD]; rotate_left; (focus (walk_at "mu"; done)); with_reducible conv => whnf)
  | (rw [rdM_ref]; rotate_left; (focus (walk_at "mu"; done)); with_reducible conv => whnf)
  | (rw [rdL_refK]; rotate_left; (focus (walk_at "mu"; done)); with_reducible conv => whnf)
  | (rw [rdD_refK]; rotate_left; (focus (walk_at "mu"; done)); with_reducible conv => whnf)
  | (rw [tyW_refL]; rotate_left; (focus (walk_at "mu"; done)); with_reducible conv => whnf)
  | (rw [tyW_refD]; rotate_left; (focus (walk_at "mu"; done)); with_reducible conv => whnf)
  | (rw [drf_ref]; rotate_left; (focus (walk_at "mu"; done)); with_reducible conv => whnf)
  | ((conv => (arg 2; tactic' => (walk_at "mu"; done))); with_reducible conv => whnf)
  | (with_reducible refine q_and (Eq.refl _) ?_; with_reducible conv => whnf)
  | (with_reducible refine q_and (MulO.r (by decide)) ?_; with_reducible conv => whnf)
  | (with_reducible refine q_and (MulO.l (by decide)) ?_; with_reducible conv => whnf)
  | (with_reducible refine q_and (MulO.r (by omega)) ?_; with_reducible conv => whnf)
  | (with_reducible refine q_and (MulO.l (by omega)) ?_; with_reducible conv => whnf)
  | (with_reducible refine q_pow (by decide) ?_; with_reducible conv => whnf)
  | (with_reducible refine q_nisT (by first | assumption | with_reducible rfl) ?_; with_reducible conv => whnf)
  | (with_reducible refine q_nisF (by first | assumption | with_reducible rfl) ?_; with_reducible conv => whnf)
  | (with_reducible refine q_eqI ?_; with_reducible conv => whnf)
  | (with_reducible refine q_eqS ?_; with_reducible conv => whnf)
  | (with_reducible refine q_eqB ?_; with_reducible conv => whnf)
  | (with_reducible refine q_neI ?_; with_reducible conv => whnf)
  | (with_reducible refine q_neS ?_; with_reducible conv => whnf)
  | (with_reducible refine q_neB ?_; with_reducible conv => whnf)
  | (with_reducible refine q_memc ?_; with_reducible conv => whnf)
  | (with_reducible refine q_lkn (by walk_at "lk") ?_; with_reducible conv => whnf)
  | (with_reducible refine q_tix (by walk_at "lk"; done) ?_; with_reducible conv => whnf)
  | (with_reducible refine q_tin ?_; with_reducible conv => whnf)
  | (rw [pf_hit]; with_reducible conv => whnf)
  | (rw [pf_skip]; rotate_left; (focus (decide +kernel; done)); with_reducible conv => whnf)
  | (rw [lk_hit]; with_reducible conv => whnf)
  | (rw [lk_skip1]; rotate_left; (focus (decide +kernel; done)); with_reducible conv => whnf))))
/-! what the law expects of a deed, and what the disk does -/
theorem opA_some {l l' : W} {fs fs' : Dtb} (h : opL l = some l') : opA l fs fs' = ⟨"done", .non, l', false, fs'⟩ := by
  unfold opA
  rw [h]
theorem opA_none {l : W} {fs fs' : Dtb} (h : opL l = none) : opA l fs fs' = ⟨"crashed", .non, l, true, fs⟩ := by
  unfold opA
  rw [h]
theorem sp_lvalidN {μ : Mu} {P : Po} {X : Xo} {t g : Addr} {l : W} {c : Bool} {fs : Dtb} {k n m : Str} (h : g ≠ t) (h1 : k ≠ "append") (hz : m.length ≤ 16000000) (hv : getF fs n = none) (hk : P (.bl false) (mm μ t g l c fs)) : f__law_valid [.ref t, .tup [.str k, .str n, .str m]] (mm μ t g l c fs) P X := sp_lvalid h h1 hz (by rw [hv]; exact hk)
theorem sp_lvalidS {μ : Mu} {P : Po} {X : Xo} {t g : Addr} {l : W} {c : Bool} {fs : Dtb} {k n m : Str} {v : List Nat × List Nat} {b : Bool} (h : g ≠ t) (h1 : k ≠ "append") (hz : m.length ≤ 16000000) (hv : getF fs n = some v) (hb : (!decide (k = "rename") || nameB m) = b) (hk : P (.bl b) (mm μ t g l c fs)) : f__law_valid [.ref t, .tup [.str k, .str n, .str m]] (mm μ t g l c fs) P X := sp_lvalid h h1 hz (by rw [hv, hb]; exact hk)
def Ans.w (a : Ans) : W := .tup [.str a.k, a.v]
structure Fs (fs : Dtb) : Prop where
  len : fs.length ≤ 1000
  sz : ∀ n v, getF fs n = some v → v.1.length + v.2.length ≤ 10000
  nm : ∀ n v, getF fs n = some v → nameB n = true
theorem Fs.part {fs : Dtb} (F : Fs fs) (n : Str) : (parts fs n).2.length ≤ 10000 := by
  unfold parts
  cases e : getF fs n with
  | none => exact Nat.zero_le _
  | some v =>
    have := F.sz n v e
    show v.2.length ≤ 10000
    omega
section
variable {μ : Mu} {P : Po} {X : Xo} {t g : Addr} {l : W} {c : Bool} {fs : Dtb}
theorem res_synC {n m : Str} : (Deed.syn n m).res l true fs = ⟨"crashed", .non, l, true, fs⟩ := rfl
theorem res_synN {n m : Str} (h : getF fs n = none) : (Deed.syn n m).res l false fs = ⟨"error", .non, l, false, fs⟩ := by
  unfold Deed.res
  dsimp only
  rw [if_neg Bool.false_ne_true, h]
theorem res_synS {n m : Str} {v : List Nat × List Nat} (h : getF fs n = some v) : (Deed.syn n m).res l false fs = opA l fs (putF fs n (v.1 ++ v.2, [])) := by
  unfold Deed.res
  dsimp only
  rw [if_neg Bool.false_ne_true, h]
theorem res_reaC {n m : Str} : (Deed.rea n m).res l true fs = ⟨"crashed", .non, l, true, fs⟩ := rfl
theorem res_reaN {n m : Str} (h : getF fs n = none) : (Deed.rea n m).res l false fs = ⟨"error", .non, l, false, fs⟩ := by
  unfold Deed.res
  dsimp only
  rw [if_neg Bool.false_ne_true, h]
theorem res_reaS {n m : Str} {v : List Nat × List Nat} (h : getF fs n = some v) : (Deed.rea n m).res l false fs = ⟨"done", .str (S (v.1 ++ v.2)), l, false, fs⟩ := by
  unfold Deed.res
  dsimp only
  rw [if_neg Bool.false_ne_true, h]
theorem res_renC {n m : Str} : (Deed.ren n m).res l true fs = ⟨"crashed", .non, l, true, fs⟩ := rfl
theorem res_renN {n m : Str} (h : getF fs n = none) : (Deed.ren n m).res l false fs = ⟨"error", .non, l, false, fs⟩ := by
  unfold Deed.res
  dsimp only
  rw [if_neg Bool.false_ne_true, h]
theorem res_renS {n m : Str} {v : List Nat × List Nat} (h : getF fs n = some v) : (Deed.ren n m).res l false fs = if nameB m = true then opA l fs (putF (dropF fs n) m v) else ⟨"error", .non, l, false, fs⟩ := by
  unfold Deed.res
  dsimp only
  rw [if_neg Bool.false_ne_true, h]
theorem res_remC {n m : Str} : (Deed.rem n m).res l true fs = ⟨"crashed", .non, l, true, fs⟩ := rfl
theorem res_remN {n m : Str} (h : getF fs n = none) : (Deed.rem n m).res l false fs = ⟨"error", .non, l, false, fs⟩ := by
  unfold Deed.res
  dsimp only
  rw [if_neg Bool.false_ne_true, h]
theorem res_remS {n m : Str} {v : List Nat × List Nat} (h : getF fs n = some v) : (Deed.rem n m).res l false fs = opA l fs (dropF fs n) := by
  unfold Deed.res
  dsimp only
  rw [if_neg Bool.false_ne_true, h]
theorem res_penC {n m : Str} : (Deed.pen n m).res l true fs = ⟨"crashed", .non, l, true, fs⟩ := rfl
theorem res_penN {n m : Str} (h : getF fs n = none) : (Deed.pen n m).res l false fs = ⟨"error", .non, l, false, fs⟩ := by
  unfold Deed.res
  dsimp only
  rw [if_neg Bool.false_ne_true, h]
theorem res_penS {n m : Str} {v : List Nat × List Nat} (h : getF fs n = some v) : (Deed.pen n m).res l false fs = ⟨"done", .int (v.2.length : Int), l, false, fs⟩ := by
  unfold Deed.res
  dsimp only
  rw [if_neg Bool.false_ne_true, h]
theorem res_appC {n : Str} {z : List Nat} : (Deed.app n z).res l true fs = ⟨"crashed", .non, l, true, fs⟩ := rfl
theorem res_appN {n : Str} {z : List Nat} (h : nameB n = false) : (Deed.app n z).res l false fs = ⟨"error", .non, l, false, fs⟩ := by
  unfold Deed.res
  dsimp only
  rw [if_neg Bool.false_ne_true, h, if_neg Bool.false_ne_true]
theorem res_appS {n : Str} {z : List Nat} (h : nameB n = true) : (Deed.app n z).res l false fs = opA l fs (putF fs n ((parts fs n).1, (parts fs n).2 ++ z)) := by
  unfold Deed.res
  dsimp only
  rw [if_neg Bool.false_ne_true, if_pos h]
theorem sp_lexp_syn {n m : Str} (h : g ≠ t) (hl : isLeft l = true) (F : Fs fs) (hm : m.length ≤ 1000) (hk : P ((Deed.syn n m).res l c fs).w (mm μ t g ((Deed.syn n m).res l c fs).l ((Deed.syn n m).res l c fs).c ((Deed.syn n m).res l c fs).fs)) : f__law_expect [.ref t, Deed.w (.syn n m)] (mm μ t g l c fs) P X := by
  rw [f__law_expect_eq]; unfold f__law_expect_B fDef
  refine ⟨rfl, ?_⟩
  have ht : mm μ t g l c fs t = some (.dk (mdl g l c)) := mm_t h
  have hg : mm μ t g l c fs g = some (.dk (fw fs)) := mm_g
  have v1 := mdl_f g l c
  have v3 := mdl_d g l c
  have F1 := F.len
  unfold Deed.w
  walk_at "q"
  cases c with
  | true =>
    rw [res_synC] at hk
    walk_at "q"
    exact Rt.now hk
  | false =>
    walk_at "q"
    cases hv : getF fs n with
    | none =>
      rw [res_synN hv] at hk
      refine sp_lvalidN h (by decide +kernel) (by omega) hv ?_
      walk_at "q"
      exact Rt.now hk
    | some v =>
      rw [res_synS hv] at hk
      have F2 := F.sz n v hv
      have e : valW (fw fs) (Sum.inr n) = some (.tup [.str (S v.1), .str (S v.2)]) := by rw [fw_val, hv]; rfl
      have l1 := S_len v.1
      have l2 := S_len v.2
      refine sp_lvalidS (b := true) h (by decide +kernel) (by omega) hv (by rw [show decide (("sync" : Str) = "rename") = false by decide +kernel]; rfl) ?_
      walk_at "q"
      refine sp_lpass h hl (fun l' e' => ?_) fun e' => ?_
      · rw [opA_some e'] at hk
        walk_at "q"
        refine sp_lchg_syn h (by omega) hv (by omega) ?_
        walk_at "q"
        exact Rt.now hk
      · rw [opA_none e'] at hk
        walk_at "q"
        exact Rt.now hk
theorem sp_lexp_rea {n m : Str} (h : g ≠ t) (hl : isLeft l = true) (F : Fs fs) (hm : m.length ≤ 1000) (hk : P ((Deed.rea n m).res l c fs).w (mm μ t g ((Deed.rea n m).res l c fs).l ((Deed.rea n m).res l c fs).c ((Deed.rea n m).res l c fs).fs)) : f__law_expect [.ref t, Deed.w (.rea n m)] (mm μ t g l c fs) P X := by
  rw [f__law_expect_eq]; unfold f__law_expect_B fDef
  refine ⟨rfl, ?_⟩
  have ht : mm μ t g l c fs t = some (.dk (mdl g l c)) := mm_t h
  have hg : mm μ t g l c fs g = some (.dk (fw fs)) := mm_g
  have v1 := mdl_f g l c
  have v3 := mdl_d g l c
  have F1 := F.len
  unfold Deed.w
  walk_at "q"
  cases c with
  | true =>
    rw [res_reaC] at hk
    walk_at "q"
    exact Rt.now hk
  | false =>
    walk_at "q"
    cases hv : getF fs n with
    | none =>
      rw [res_reaN hv] at hk
      refine sp_lvalidN h (by decide +kernel) (by omega) hv ?_
      walk_at "q"
      exact Rt.now hk
    | some v =>
      rw [res_reaS hv] at hk
      have F2 := F.sz n v hv
      have e : valW (fw fs) (Sum.inr n) = some (.tup [.str (S v.1), .str (S v.2)]) := by rw [fw_val, hv]; rfl
      have l1 := S_len v.1
      have l2 := S_len v.2
      refine sp_lvalidS (b := true) h (by decide +kernel) (by omega) hv (by rw [show decide (("read" : Str) = "rename") = false by decide +kernel]; rfl) ?_
      walk_at "q"
      rw [S_app]
      exact Rt.now hk
theorem sp_lexp_ren {n m : Str} (h : g ≠ t) (hl : isLeft l = true) (F : Fs fs) (hm : m.length ≤ 1000) (hk : P ((Deed.ren n m).res l c fs).w (mm μ t g ((Deed.ren n m).res l c fs).l ((Deed.ren n m).res l c fs).c ((Deed.ren n m).res l c fs).fs)) : f__law_expect [.ref t, Deed.w (.ren n m)] (mm μ t g l c fs) P X := by
  rw [f__law_expect_eq]; unfold f__law_expect_B fDef
  refine ⟨rfl, ?_⟩
  have ht : mm μ t g l c fs t = some (.dk (mdl g l c)) := mm_t h
  have hg : mm μ t g l c fs g = some (.dk (fw fs)) := mm_g
  have v1 := mdl_f g l c
  have v3 := mdl_d g l c
  have F1 := F.len
  unfold Deed.w
  walk_at "q"
  cases c with
  | true =>
    rw [res_renC] at hk
    walk_at "q"
    exact Rt.now hk
  | false =>
    walk_at "q"
    cases hv : getF fs n with
    | none =>
      rw [res_renN hv] at hk
      refine sp_lvalidN h (by decide +kernel) (by omega) hv ?_
      walk_at "q"
      exact Rt.now hk
    | some v =>
      rw [res_renS hv] at hk
      have F2 := F.sz n v hv
      have e : valW (fw fs) (Sum.inr n) = some (.tup [.str (S v.1), .str (S v.2)]) := by rw [fw_val, hv]; rfl
      have l1 := S_len v.1
      have l2 := S_len v.2
      refine sp_lvalidS (b := nameB m) h (by decide +kernel) (by omega) hv (by rw [show decide (("rename" : Str) = "rename") = true by decide +kernel]; rfl) ?_
      cases hm2 : nameB m with
      | false =>
        rw [hm2, if_neg Bool.false_ne_true] at hk
        walk_at "q"
        exact Rt.now hk
      | true =>
        rw [if_pos hm2] at hk
        walk_at "q"
        refine sp_lpass h hl (fun l' e' => ?_) fun e' => ?_
        · rw [opA_some e'] at hk
          walk_at "q"
          refine sp_lchg_ren h (by omega) hv ?_
          walk_at "q"
          exact Rt.now hk
        · rw [opA_none e'] at hk
          walk_at "q"
          exact Rt.now hk
theorem sp_lexp_rem {n m : Str} (h : g ≠ t) (hl : isLeft l = true) (F : Fs fs) (hm : m.length ≤ 1000) (hk : P ((Deed.rem n m).res l c fs).w (mm μ t g ((Deed.rem n m).res l c fs).l ((Deed.rem n m).res l c fs).c ((Deed.rem n m).res l c fs).fs)) : f__law_expect [.ref t, Deed.w (.rem n m)] (mm μ t g l c fs) P X := by
  rw [f__law_expect_eq]; unfold f__law_expect_B fDef
  refine ⟨rfl, ?_⟩
  have ht : mm μ t g l c fs t = some (.dk (mdl g l c)) := mm_t h
  have hg : mm μ t g l c fs g = some (.dk (fw fs)) := mm_g
  have v1 := mdl_f g l c
  have v3 := mdl_d g l c
  have F1 := F.len
  unfold Deed.w
  walk_at "q"
  cases c with
  | true =>
    rw [res_remC] at hk
    walk_at "q"
    exact Rt.now hk
  | false =>
    walk_at "q"
    cases hv : getF fs n with
    | none =>
      rw [res_remN hv] at hk
      refine sp_lvalidN h (by decide +kernel) (by omega) hv ?_
      walk_at "q"
      exact Rt.now hk
    | some v =>
      rw [res_remS hv] at hk
      have F2 := F.sz n v hv
      have e : valW (fw fs) (Sum.inr n) = some (.tup [.str (S v.1), .str (S v.2)]) := by rw [fw_val, hv]; rfl
      have l1 := S_len v.1
      have l2 := S_len v.2
      refine sp_lvalidS (b := true) h (by decide +kernel) (by omega) hv (by rw [show decide (("remove" : Str) = "rename") = false by decide +kernel]; rfl) ?_
      walk_at "q"
      refine sp_lpass h hl (fun l' e' => ?_) fun e' => ?_
      · rw [opA_some e'] at hk
        walk_at "q"
        refine sp_lchg_rem h hv ?_
        walk_at "q"
        exact Rt.now hk
      · rw [opA_none e'] at hk
        walk_at "q"
        exact Rt.now hk
theorem sp_lexp_pen {n m : Str} (h : g ≠ t) (hl : isLeft l = true) (F : Fs fs) (hm : m.length ≤ 1000) (hk : P ((Deed.pen n m).res l c fs).w (mm μ t g ((Deed.pen n m).res l c fs).l ((Deed.pen n m).res l c fs).c ((Deed.pen n m).res l c fs).fs)) : f__law_expect [.ref t, Deed.w (.pen n m)] (mm μ t g l c fs) P X := by
  rw [f__law_expect_eq]; unfold f__law_expect_B fDef
  refine ⟨rfl, ?_⟩
  have ht : mm μ t g l c fs t = some (.dk (mdl g l c)) := mm_t h
  have hg : mm μ t g l c fs g = some (.dk (fw fs)) := mm_g
  have v1 := mdl_f g l c
  have v3 := mdl_d g l c
  have F1 := F.len
  unfold Deed.w
  walk_at "q"
  cases c with
  | true =>
    rw [res_penC] at hk
    walk_at "q"
    exact Rt.now hk
  | false =>
    walk_at "q"
    cases hv : getF fs n with
    | none =>
      rw [res_penN hv] at hk
      refine sp_lvalidN h (by decide +kernel) (by omega) hv ?_
      walk_at "q"
      exact Rt.now hk
    | some v =>
      rw [res_penS hv] at hk
      have F2 := F.sz n v hv
      have e : valW (fw fs) (Sum.inr n) = some (.tup [.str (S v.1), .str (S v.2)]) := by rw [fw_val, hv]; rfl
      have l1 := S_len v.1
      have l2 := S_len v.2
      refine sp_lvalidS (b := true) h (by decide +kernel) (by omega) hv (by rw [show decide (("pending" : Str) = "rename") = false by decide +kernel]; rfl) ?_
      walk_at "q"
      rw [l2]
      exact Rt.now hk
theorem sp_lexp_app {n : Str} {z : List Nat} (h : g ≠ t) (hl : isLeft l = true) (F : Fs fs) (hn : n.length ≤ 1000) (hz : z.length ≤ 1000) (hk : P ((Deed.app n z).res l c fs).w (mm μ t g ((Deed.app n z).res l c fs).l ((Deed.app n z).res l c fs).c ((Deed.app n z).res l c fs).fs)) : f__law_expect [.ref t, Deed.w (.app n z)] (mm μ t g l c fs) P X := by
  rw [f__law_expect_eq]; unfold f__law_expect_B fDef
  refine ⟨rfl, ?_⟩
  have ht : mm μ t g l c fs t = some (.dk (mdl g l c)) := mm_t h
  have v3 := mdl_d g l c
  have F1 := F.len
  have F2 := F.part n
  have ew : Deed.w (.app n z) = .tup [.str "append", .str n, .str (S z)] := rfl
  rw [ew]
  walk_at "q"
  cases c with
  | true =>
    rw [res_appC] at hk
    walk_at "q"
    exact Rt.now hk
  | false =>
    walk_at "q"
    refine sp_lvalid_app (by omega) ?_
    cases hn2 : nameB n with
    | false =>
      rw [res_appN hn2] at hk
      walk_at "q"
      exact Rt.now hk
    | true =>
      rw [res_appS hn2] at hk
      walk_at "q"
      refine sp_lpass h hl (fun l' e' => ?_) fun e' => ?_
      · rw [opA_some e'] at hk
        walk_at "q"
        refine sp_lchg_app h (by omega) (by omega) ?_
        walk_at "q"
        exact Rt.now hk
      · rw [opA_none e'] at hk
        walk_at "q"
        exact Rt.now hk
theorem sp_lexp_arm {i : Int} (h : g ≠ t) (hk : P ((Deed.arm i).res l c fs).w (mm μ t g (.int i) c fs)) : f__law_expect [.ref t, Deed.w (.arm i)] (mm μ t g l c fs) P X := by
  rw [f__law_expect_eq]; unfold f__law_expect_B fDef
  refine ⟨rfl, ?_⟩
  have ht : mm μ t g l c fs t = some (.dk (mdl g l c)) := mm_t h
  have lz := mdl_len g l c
  unfold Deed.w
  walk_at "q"
  rw [mdl_pl, mm_sett h]
  exact Rt.now hk
theorem sp_lexp_cra {p : Addr} {ks : List Int} (h : g ≠ t) (hpt : p ≠ t) (hpg : p ≠ g) (hp : μ p = some (.ls (ks.map W.int))) (hl : ks.length ≤ 1000) (F : Fs fs) (hk : P ((Deed.cra p ks).res l c fs).w (mm μ t g .non false (crashL (names fs) ks fs))) : f__law_expect [.ref t, Deed.w (.cra p ks)] (mm μ t g l c fs) P X := by
  rw [f__law_expect_eq]; unfold f__law_expect_B fDef
  refine ⟨rfl, ?_⟩
  have ht : mm μ t g l c fs t = some (.dk (mdl g l c)) := mm_t h
  have F1 := F.len
  unfold Deed.w
  walk_at "q"
  refine sp_lcrash h hpt hpg hp (by omega) (fun n v e => by have := F.sz n v e; omega) (by omega) ?_
  walk_at "q"
  exact Rt.now hk
end
end Q
namespace Q
open PySem L2
local macro_rules | `(tactic| walk_at "mu") => `(tactic| (repeat (first | exact mset_same | assumption | (rw [mset_ne]; rotate_left; (first | assumption | exact Ne.symm (by assumption))))))
local macro_rules | `(tactic| walk_at "lk") => `(tactic| (repeat (first | exact lk_hit | exact lk_nil | refine lk_skip (by decide +kernel) ?_)))
local macro_rules | `(tactic| walk_at "pf") => `(tactic| (repeat (first | rw [pf_nil] | rw [pf_hit] | (rw [pf_skip]; rotate_left; (focus (decide +kernel; done))))))
local macro_rules | `(tactic| walk_at "q") => `(tactic| ((with_reducible conv => whnf); repeat (first
  | (with_reducible refine q_t (by assumption) ?_; with_reducible conv => whnf)
  | (with_reducible refine q_f (by assumption) ?_; with_reducible conv => whnf)
  | (with_reducible refine q_t (by with_reducible rfl) ?_; with_reducible conv => whnf)
  | (with_reducible refine q_f (by with_reducible rfl) ?_; with_reducible conv => whnf)
  | (with_reducible refine q_t (by decide) ?_; with_reducible conv => whnf)
  | (with_reducible refine q_f (by decide) ?_; with_reducible conv => whnf)
  | (with_reducible refine q_t (decide_eq_true (by omega)) ?_; with_reducible conv => whnf)
  | (with_reducible refine q_f (decide_eq_false (by omega)) ?_; with_reducible conv => whnf)
  | (with_reducible refine q_f (q_nn (by omega)) ?_; with_reducible conv => whnf)
  | (with_reducible refine q_t (q_nt (by omega)) ?_; with_reducible conv => whnf)
  | (with_reducible refine q_len (by with_unfolding_all rfl) ?_; with_reducible conv => whnf)
  | (with_reducible refine q_leq (by with_unfolding_all rfl) ?_; with_reducible conv => whnf)
  | (with_reducible refine q_and (by first | assumption | exact True.intro | omega | (simp only [List.length_map, List.length_append, List.length_cons, List.length_nil]; omega) | decide) ?_; with_reducible conv => whnf)
  | (with_reducible refine q_le (by with_unfolding_all rfl) ?_; with_reducible conv => whnf)
  | (with_reducible refine q_and tyL_lst ?_; with_reducible conv => whnf)
  | (with_reducible refine q_and tyL_rol ?_; with_reducible conv => whnf)
  | (with_reducible refine q_and (tyL_ref (by walk_at "mu")) ?_; with_reducible conv => whnf)
  | (with_reducible refine q_and (tyD_ref (by walk_at "mu")) ?_; with_reducible conv => whnf)
  | (with_reducible refine q_and (rdD_ref (by walk_at "mu")) ?_; with_reducible conv => whnf)
  | (rw [pick_c0]; with_reducible conv => whnf)
  | (rw [pick_c1]; with_reducible conv => whnf)
  | (rw [pick_c2]; with_reducible conv => whnf)
  | (rw [pick_c3]; with_reducible conv => whnf)
  | (rw [pick_c4]; with_reducible conv => whnf)
  | (rw [pick_c5]; with_reducible conv => whnf)
  | (rw [mset_same]; with_reducible conv => whnf)
  | (rw [mset_ne (by assumption)]; with_reducible conv => whnf)
  | (rw [mset_ne]; rotate_left; (first | assumption | exact Ne.symm (by assumption)); with_reducible conv => whnf)
  | (rw [rdL_ref]; rotate_left; (focus (walk_at "mu"; done)); with_reducible conv => whnf)
  | (rw [rdL_refD]; rotate_left; (focus (walk_at "mu"; done)); with_reducible conv => whnf)
  | (rw [rdD_refD]; rotate_left; (focus (walk_at "mu"; done)); with_reducible conv => whnf)
  | (rw [rdM_ref]; rotate_left; (focus (walk_at "mu"; done)); with_reducible conv => whnf)
  | (rw [rdL_refK]; rotate_left; (focus (walk_at "mu"; done)); with_reducible conv => whnf)
  | (rw [rdD_refK]; rotate_left; (focus (walk_at "mu"; done)); with_reducible conv => whnf)
  | (rw [tyW_refL]; rotate_left; (focus (walk_at "mu"; done)); with_reducible conv => whnf)
  | (rw [tyW_refD]; rotate_left; (focus (walk_at "mu"; done)); with_reducible conv => whnf)
  | (rw [drf_ref]; rotate_left; (focus (walk_at "mu"; done)); with_reducible conv => whnf)
  | ((conv => (arg 2; tactic' => (walk_at "mu"; done))); with_reducible conv => whnf)
  | (with_reducible refine q_and (Eq.refl _) ?_; with_reducible conv => whnf)
  | (with_reducible refine q_and (MulO.r (by decide)) ?_; with_reducible conv => whnf)
  | (with_reducible refine q_and (MulO.l (by decide)) ?_; with_reducible conv => whnf)
  | (with_reducible refine q_and (MulO.r (by omega)) ?_; with_reducible conv => whnf)
  | (with_reducible refine q_and (MulO.l (by omega)) ?_; with_reducible conv => whnf)
  | (with_reducible refine q_pow (by decide) ?_; with_reducible conv => whnf)
  | (with_reducible refine q_nisT (by first | assumption | with_reducible rfl) ?_; with_reducible conv => whnf)
  | (with_reducible refine q_nisF (by first | assumption | with_reducible rfl) ?_; with_reducible conv => whnf)
  | (with_reducible refine q_eqI ?_; with_reducible conv => whnf)
  | (with_reducible refine q_eqS ?_; with_reducible conv => whnf)
  | (with_reducible refine q_eqB ?_; with_reducible conv => whnf)
  | (with_reducible refine q_neI ?_; with_reducible conv => whnf)
  | (with_reducible refine q_neS ?_; with_reducible conv => whnf)
  | (with_reducible refine q_neB ?_; with_reducible conv => whnf)
  | (with_reducible refine q_memc ?_; with_reducible conv => whnf)
  | (with_reducible refine q_lkn (by walk_at "lk") ?_; with_reducible conv => whnf)
  | (with_reducible refine q_tix (by walk_at "lk"; done) ?_; with_reducible conv => whnf)
  | (with_reducible refine q_tin ?_; with_reducible conv => whnf)
  | (rw [pf_hit]; with_reducible conv => whnf)
  | (rw [pf_skip]; rotate_left; (focus (decide +kernel; done)); with_reducible conv => whnf)
  | (rw [lk_hit]; with_reducible conv => whnf)
  | (rw [lk_skip1]; rotate_left; (focus (decide +kernel; done)); with_reducible conv => whnf))))
/-! what the disk does, as the law calls it -/
theorem isf_one : isfOf [("DiskCrashed", false)] "DiskCrashed" = some false := by with_unfolding_all rfl
def hs12 : List HdF := [(["DiskCrashed"], (some 2, fun cx ax dx => sSeq (sIf (cV (eIse ax dx cx [("DiskCrashed", false)] (eV 2))) (sRt (eTup (aCons (eC (.str "both")) (aCons (eC .non) (aNil))))) (sNx)) (sRt (eTup (aCons (eC (.str "crashed")) (aCons (eC .non) (aNil))))))), (["DiskError"], (none, fun cx ax dx => sRt (eTup (aCons (eC (.str "error")) (aCons (eC .non) (aNil))))))]
theorem try_crashed {N : En} {x0 x1 : Option W} {μ : Mu} (h : N.rt (.tup [.str "crashed", .non]) μ) : tryA hs12 N [x0, x1, none] "DiskCrashed" [] μ := by
  refine q_tryA (by decide +kernel) fun a d ha h1 h2 => ?_
  have h2 := h2 rfl
  subst h2
  walk_at "q"
  refine eIse_none ?_
  walk_at "q"
  refine ⟨rfl, rfl, ?_⟩
  rw [isf_one]
  walk_at "q"
  exact h
theorem try_error {N : En} {x0 x1 : Option W} {μ : Mu} (h : N.rt (.tup [.str "error", .non]) μ) : tryA hs12 N [x0, x1, none] "DiskError" [] μ := by
  refine q_tryAn (by decide +kernel) (q_tryA (by decide +kernel) fun a d ha h1 h2 => ?_)
  walk_at "q"
  exact h
section
variable {μ : Mu} {P : Po} {X : Xo} {d f : Addr} {l : W} {c : Bool} {fs : Dtb}
theorem sp_lact_syn {n m : Str} (h : f ≠ d) (hl : isLeft l = true) (F : Fs fs) (hn : n.length ≤ 1000) (hm : m.length ≤ 1000) (hk : P ((Deed.syn n m).res l c fs).w (dm μ d f ((Deed.syn n m).res l c fs).l ((Deed.syn n m).res l c fs).c ((Deed.syn n m).res l c fs).fs)) : f__law_act [.ref d, Deed.w (.syn n m)] (dm μ d f l c fs) P X := by
  rw [f__law_act_eq]; unfold f__law_act_B fDef
  refine ⟨rfl, ?_⟩
  have hd : dm μ d f l c fs d = some (.ins "Disk" [("_files", .ref f), ("_left", l), ("_crashed", .bl c)]) := dm_d h
  have F1 := F.len
  unfold Deed.w
  cases c with
  | true =>
    rw [res_synC] at hk
    walk_at "q"
    refine sp_DsyncX h ⟨by decide +kernel, try_crashed ?_⟩
    exact Rt.now hk
  | false =>
    cases hv : getF fs n with
    | none =>
      rw [res_synN hv] at hk
      walk_at "q"
      refine sp_DsyncE h (by omega) (.inr hv) ⟨by decide +kernel, try_error ?_⟩
      exact Rt.now hk
    | some v =>
      rw [res_synS hv] at hk
      have F2 := F.sz n v hv
      have F3 := F.nm n v hv
      walk_at "q"
      refine sp_Dsync h hl F3 (by omega) (by omega) hv (by omega) (fun l' e' => ?_) fun e' => ⟨by decide +kernel, try_crashed ?_⟩
      · rw [opA_some e'] at hk
        walk_at "q"
        exact Rt.now hk
      · rw [opA_none e'] at hk
        exact Rt.now hk
theorem sp_lact_rea {n m : Str} (h : f ≠ d) (hl : isLeft l = true) (F : Fs fs) (hn : n.length ≤ 1000) (hm : m.length ≤ 1000) (hk : P ((Deed.rea n m).res l c fs).w (dm μ d f ((Deed.rea n m).res l c fs).l ((Deed.rea n m).res l c fs).c ((Deed.rea n m).res l c fs).fs)) : f__law_act [.ref d, Deed.w (.rea n m)] (dm μ d f l c fs) P X := by
  rw [f__law_act_eq]; unfold f__law_act_B fDef
  refine ⟨rfl, ?_⟩
  have hd : dm μ d f l c fs d = some (.ins "Disk" [("_files", .ref f), ("_left", l), ("_crashed", .bl c)]) := dm_d h
  have F1 := F.len
  unfold Deed.w
  cases c with
  | true =>
    rw [res_reaC] at hk
    walk_at "q"
    refine sp_DreadX h ⟨by decide +kernel, try_crashed ?_⟩
    exact Rt.now hk
  | false =>
    cases hv : getF fs n with
    | none =>
      rw [res_reaN hv] at hk
      walk_at "q"
      refine sp_DreadE h (by omega) (.inr hv) ⟨by decide +kernel, try_error ?_⟩
      exact Rt.now hk
    | some v =>
      rw [res_reaS hv] at hk
      have F2 := F.sz n v hv
      have F3 := F.nm n v hv
      walk_at "q"
      refine sp_Dread h F3 (by omega) hv (by omega) ?_
      walk_at "q"
      exact Rt.now hk
theorem sp_lact_ren {n m : Str} (h : f ≠ d) (hl : isLeft l = true) (F : Fs fs) (hn : n.length ≤ 1000) (hm : m.length ≤ 1000) (hk : P ((Deed.ren n m).res l c fs).w (dm μ d f ((Deed.ren n m).res l c fs).l ((Deed.ren n m).res l c fs).c ((Deed.ren n m).res l c fs).fs)) : f__law_act [.ref d, Deed.w (.ren n m)] (dm μ d f l c fs) P X := by
  rw [f__law_act_eq]; unfold f__law_act_B fDef
  refine ⟨rfl, ?_⟩
  have hd : dm μ d f l c fs d = some (.ins "Disk" [("_files", .ref f), ("_left", l), ("_crashed", .bl c)]) := dm_d h
  have F1 := F.len
  unfold Deed.w
  cases c with
  | true =>
    rw [res_renC] at hk
    walk_at "q"
    refine sp_DrenameX h ⟨by decide +kernel, try_crashed ?_⟩
    exact Rt.now hk
  | false =>
    cases hv : getF fs n with
    | none =>
      rw [res_renN hv] at hk
      walk_at "q"
      refine sp_DrenameE h (by omega) (.inr hv) ⟨by decide +kernel, try_error ?_⟩
      exact Rt.now hk
    | some v =>
      rw [res_renS hv] at hk
      have F2 := F.sz n v hv
      have F3 := F.nm n v hv
      cases hm2 : nameB m with
      | false =>
        rw [hm2, if_neg Bool.false_ne_true] at hk
        walk_at "q"
        refine sp_DrenameN h (by omega) (by omega) F3 hv hm2 ⟨by decide +kernel, try_error ?_⟩
        exact Rt.now hk
      | true =>
        rw [if_pos hm2] at hk
        walk_at "q"
        refine sp_Drename h hl F3 (by omega) hm2 (by omega) (by omega) hv (fun l' e' => ?_) fun e' => ⟨by decide +kernel, try_crashed ?_⟩
        · rw [opA_some e'] at hk
          walk_at "q"
          exact Rt.now hk
        · rw [opA_none e'] at hk
          exact Rt.now hk
theorem sp_lact_rem {n m : Str} (h : f ≠ d) (hl : isLeft l = true) (F : Fs fs) (hn : n.length ≤ 1000) (hm : m.length ≤ 1000) (hk : P ((Deed.rem n m).res l c fs).w (dm μ d f ((Deed.rem n m).res l c fs).l ((Deed.rem n m).res l c fs).c ((Deed.rem n m).res l c fs).fs)) : f__law_act [.ref d, Deed.w (.rem n m)] (dm μ d f l c fs) P X := by
  rw [f__law_act_eq]; unfold f__law_act_B fDef
  refine ⟨rfl, ?_⟩
  have hd : dm μ d f l c fs d = some (.ins "Disk" [("_files", .ref f), ("_left", l), ("_crashed", .bl c)]) := dm_d h
  have F1 := F.len
  unfold Deed.w
  cases c with
  | true =>
    rw [res_remC] at hk
    walk_at "q"
    refine sp_DremoveX h ⟨by decide +kernel, try_crashed ?_⟩
    exact Rt.now hk
  | false =>
    cases hv : getF fs n with
    | none =>
      rw [res_remN hv] at hk
      walk_at "q"
      refine sp_DremoveE h (by omega) (.inr hv) ⟨by decide +kernel, try_error ?_⟩
      exact Rt.now hk
    | some v =>
      rw [res_remS hv] at hk
      have F2 := F.sz n v hv
      have F3 := F.nm n v hv
      walk_at "q"
      refine sp_Dremove h hl F3 (by omega) hv (fun l' e' => ?_) fun e' => ⟨by decide +kernel, try_crashed ?_⟩
      · rw [opA_some e'] at hk
        walk_at "q"
        exact Rt.now hk
      · rw [opA_none e'] at hk
        exact Rt.now hk
theorem sp_lact_pen {n m : Str} (h : f ≠ d) (hl : isLeft l = true) (F : Fs fs) (hn : n.length ≤ 1000) (hm : m.length ≤ 1000) (hk : P ((Deed.pen n m).res l c fs).w (dm μ d f ((Deed.pen n m).res l c fs).l ((Deed.pen n m).res l c fs).c ((Deed.pen n m).res l c fs).fs)) : f__law_act [.ref d, Deed.w (.pen n m)] (dm μ d f l c fs) P X := by
  rw [f__law_act_eq]; unfold f__law_act_B fDef
  refine ⟨rfl, ?_⟩
  have hd : dm μ d f l c fs d = some (.ins "Disk" [("_files", .ref f), ("_left", l), ("_crashed", .bl c)]) := dm_d h
  have F1 := F.len
  unfold Deed.w
  cases c with
  | true =>
    rw [res_penC] at hk
    walk_at "q"
    refine sp_DpendingX h ⟨by decide +kernel, try_crashed ?_⟩
    exact Rt.now hk
  | false =>
    cases hv : getF fs n with
    | none =>
      rw [res_penN hv] at hk
      walk_at "q"
      refine sp_DpendingE h (by omega) (.inr hv) ⟨by decide +kernel, try_error ?_⟩
      exact Rt.now hk
    | some v =>
      rw [res_penS hv] at hk
      have F2 := F.sz n v hv
      have F3 := F.nm n v hv
      walk_at "q"
      refine sp_Dpending h F3 (by omega) hv (by omega) ?_
      walk_at "q"
      exact Rt.now hk
theorem sp_lact_app {n : Str} {z : List Nat} (h : f ≠ d) (hl : isLeft l = true) (F : Fs fs) (hn : n.length ≤ 1000) (hz : z.length ≤ 1000) (hk : P ((Deed.app n z).res l c fs).w (dm μ d f ((Deed.app n z).res l c fs).l ((Deed.app n z).res l c fs).c ((Deed.app n z).res l c fs).fs)) : f__law_act [.ref d, Deed.w (.app n z)] (dm μ d f l c fs) P X := by
  rw [f__law_act_eq]; unfold f__law_act_B fDef
  refine ⟨rfl, ?_⟩
  have hd : dm μ d f l c fs d = some (.ins "Disk" [("_files", .ref f), ("_left", l), ("_crashed", .bl c)]) := dm_d h
  have F1 := F.len
  have F2 := F.part n
  have ew : Deed.w (.app n z) = .tup [.str "append", .str n, .str (S z)] := rfl
  rw [ew]
  cases c with
  | true =>
    rw [res_appC] at hk
    walk_at "q"
    refine sp_DappendX h ⟨by decide +kernel, try_crashed ?_⟩
    exact Rt.now hk
  | false =>
    cases hn2 : nameB n with
    | false =>
      rw [res_appN hn2] at hk
      walk_at "q"
      refine sp_DappendE h (by omega) hn2 ⟨by decide +kernel, try_error ?_⟩
      exact Rt.now hk
    | true =>
      rw [res_appS hn2] at hk
      walk_at "q"
      refine sp_Dappend h hl hn2 (by omega) (by omega) (by omega) (fun l' e' => ?_) fun e' => ⟨by decide +kernel, try_crashed ?_⟩
      · rw [opA_some e'] at hk
        walk_at "q"
        exact Rt.now hk
      · rw [opA_none e'] at hk
        exact Rt.now hk
theorem sp_lact_arm {i : Int} (h : f ≠ d) (hk : P ((Deed.arm i).res l c fs).w (dm μ d f (.int i) c fs)) : f__law_act [.ref d, Deed.w (.arm i)] (dm μ d f l c fs) P X := by
  rw [f__law_act_eq]; unfold f__law_act_B fDef
  refine ⟨rfl, ?_⟩
  have hd : dm μ d f l c fs d = some (.ins "Disk" [("_files", .ref f), ("_left", l), ("_crashed", .bl c)]) := dm_d h
  unfold Deed.w
  walk_at "q"
  refine sp_Darm h ?_
  walk_at "q"
  exact Rt.now hk
theorem sp_lact_cra {p : Addr} {ks : List Int} (h : f ≠ d) (hpd : p ≠ d) (hpf : p ≠ f) (hp : μ p = some (.ls (ks.map W.int))) (hl : ks.length ≤ 1000) (F : Fs fs) (hk : P ((Deed.cra p ks).res l c fs).w (dm μ d f .non false (crashL (names fs) ks fs))) : f__law_act [.ref d, Deed.w (.cra p ks)] (dm μ d f l c fs) P X := by
  rw [f__law_act_eq]; unfold f__law_act_B fDef
  refine ⟨rfl, ?_⟩
  have hd : dm μ d f l c fs d = some (.ins "Disk" [("_files", .ref f), ("_left", l), ("_crashed", .bl c)]) := dm_d h
  have hpp : dm μ d f l c fs p = some (.ls (ks.map W.int)) := by rw [dm_ne hpd hpf, hp]
  have ra : rdA (dm μ d f l c fs) (.ref p) = some (ks.map W.int) := rdA_ref hpp
  have F1 := F.len
  unfold Deed.w
  walk_at "q"
  refine sp_Dcrash2 h (by omega) (fun n v e => by have := F.sz n v e; omega) (by omega) ?_
  walk_at "q"
  exact Rt.now hk
end
end Q
namespace Q
open PySem L2
local macro_rules | `(tactic| walk_at "mu") => `(tactic| (repeat (first | exact mset_same | assumption | (rw [mset_ne]; rotate_left; (first | assumption | exact Ne.symm (by assumption))))))
local macro_rules | `(tactic| walk_at "lk") => `(tactic| (repeat (first | exact lk_hit | exact lk_nil | refine lk_skip (by decide +kernel) ?_)))
local macro_rules | `(tactic| walk_at "pf") => `(tactic| (repeat (first | rw [pf_nil] | rw [pf_hit] | (rw [pf_skip]; rotate_left; (focus (decide +kernel; done))))))
local macro_rules | `(tactic| walk_at "q") => `(tactic| ((with_reducible conv => whnf); repeat (first
  | (with_reducible refine q_t (by assumption) ?_; with_reducible conv => whnf)
  | (with_reducible refine q_f (by assumption) ?_; with_reducible conv => whnf)
  | (with_reducible refine q_t (by with_reducible rfl) ?_; with_reducible conv => whnf)
  | (with_reducible refine q_f (by with_reducible rfl) ?_; with_reducible conv => whnf)
  | (with_reducible refine q_t (by decide) ?_; with_reducible conv => whnf)
  | (with_reducible refine q_f (by decide) ?_; with_reducible conv => whnf)
  | (with_reducible refine q_t (decide_eq_true (by omega)) ?_; with_reducible conv => whnf)
  | (with_reducible refine q_f (decide_eq_false (by omega)) ?_; with_reducible conv => whnf)
  | (with_reducible refine q_f (q_nn (by omega)) ?_; with_reducible conv => whnf)
  | (with_reducible refine q_t (q_nt (by omega)) ?_; with_reducible conv => whnf)
  | (with_reducible refine q_len (by with_unfolding_all rfl) ?_; with_reducible conv => whnf)
  | (with_reducible refine q_leq (by with_unfolding_all rfl) ?_; with_reducible conv => whnf)
  | (with_reducible refine q_and (by first | assumption | exact True.intro | omega | (simp only [List.length_map, List.length_append, List.length_cons, List.length_nil]; omega) | decide) ?_; with_reducible conv => whnf)
  | (with_reducible refine q_le (by with_unfolding_all rfl) ?_; with_reducible conv => whnf)
  | (with_reducible refine q_and tyL_lst ?_; with_reducible conv => whnf)
  | (with_reducible refine q_and tyL_rol ?_; with_reducible conv => whnf)
  | (with_reducible refine q_and (tyL_ref (by walk_at "mu")) ?_; with_reducible conv => whnf)
  | (with_reducible refine q_and (tyD_ref (by walk_at "mu")) ?_; with_reducible conv => whnf)
  | (with_reducible refine q_and (rdD_ref (by walk_at "mu")) ?_; with_reducible conv => whnf)
  | (rw [pick_c0]; with_reducible conv => whnf)
  | (rw [pick_c1]; with_reducible conv => whnf)
  | (rw [pick_c2]; with_reducible conv => whnf)
  | (rw [pick_c3]; with_reducible conv => whnf)
  | (rw [pick_c4]; with_reducible conv => whnf)
  | (rw [pick_c5]; with_reducible conv => whnf)
  | (rw [mset_same]; with_reducible conv => whnf)
  | (rw [mset_ne (by assumption)]; with_reducible conv => whnf)
  | (rw [mset_ne]; rotate_left; (first | assumption | exact Ne.symm (by assumption)); with_reducible conv => whnf)
  | (rw [rdL_ref]; rotate_left; (focus (walk_at "mu"; done)); with_reducible conv => whnf)
  | (rw [rdL_refD]; rotate_left; (focus (walk_at "mu"; done)); with_reducible conv => whnf)
  | (rw [rdD_refD]; rotate_left; (focus (walk_at "mu"; done)); with_reducible conv => whnf)
  | (rw [rdM_ref]; rotate_left; (focus (walk_at "mu"; done)); with_reducible conv => whnf)
  | (rw [rdL_refK]; rotate_left; (focus (walk_at "mu"; done)); with_reducible conv => whnf)
  | (rw [rdD_refK]; rotate_left; (focus (walk_at "mu"; done)); with_reducible conv => whnf)
  | (rw [tyW_refL]; rotate_left; (focus (walk_at "mu"; done)); with_reducible conv => whnf)
  | (rw [tyW_refD]; rotate_left; (focus (walk_at "mu"; done)); with_reducible conv => whnf)
  | (rw [drf_ref]; rotate_left; (focus (walk_at "mu"; done)); with_reducible conv => whnf)
  | ((conv => (arg 2; tactic' => (walk_at "mu"; done))); with_reducible conv => whnf)
  | (with_reducible refine q_and (Eq.refl _) ?_; with_reducible conv => whnf)
  | (with_reducible refine q_and (MulO.r (by decide)) ?_; with_reducible conv => whnf)
  | (with_reducible refine q_and (MulO.l (by decide)) ?_; with_reducible conv => whnf)
  | (with_reducible refine q_and (MulO.r (by omega)) ?_; with_reducible conv => whnf)
  | (with_reducible refine q_and (MulO.l (by omega)) ?_; with_reducible conv => whnf)
  | (with_reducible refine q_pow (by decide) ?_; with_reducible conv => whnf)
  | (with_reducible refine q_nisT (by first | assumption | with_reducible rfl) ?_; with_reducible conv => whnf)
  | (with_reducible refine q_nisF (by first | assumption | with_reducible rfl) ?_; with_reducible conv => whnf)
  | (with_reducible refine q_eqI ?_; with_reducible conv => whnf)
  | (with_reducible refine q_eqS ?_; with_reducible conv => whnf)
  | (with_reducible refine q_eqB ?_; with_reducible conv => whnf)
  | (with_reducible refine q_neI ?_; with_reducible conv => whnf)
  | (with_reducible refine q_neS ?_; with_reducible conv => whnf)
  | (with_reducible refine q_neB ?_; with_reducible conv => whnf)
  | (with_reducible refine q_memc ?_; with_reducible conv => whnf)
  | (with_reducible refine q_lkn (by walk_at "lk") ?_; with_reducible conv => whnf)
  | (with_reducible refine q_tix (by walk_at "lk"; done) ?_; with_reducible conv => whnf)
  | (with_reducible refine q_tin ?_; with_reducible conv => whnf)
  | (rw [pf_hit]; with_reducible conv => whnf)
  | (rw [pf_skip]; rotate_left; (focus (decide +kernel; done)); with_reducible conv => whnf)
  | (rw [lk_hit]; with_reducible conv => whnf)
  | (rw [lk_skip1]; rotate_left; (focus (decide +kernel; done)); with_reducible conv => whnf))))
/-! what the law draws; disk and table agree -/
section
variable {μ : Mu} {P : Po} {X : Xo} {d f t g : Addr} {l : W} {c : Bool} {fs : Dtb}
theorem mulA21 : MulOk "a" 21 := ⟨by decide, fun _ _ => by decide +kernel, fun _ _ => by decide +kernel⟩
theorem mulA20 : MulOk "a" 20 := ⟨by decide, fun _ _ => by decide +kernel, fun _ _ => by decide +kernel⟩
theorem S_ofX (x : Str) : S x.cps.toList = x := by
  obtain ⟨a⟩ := x
  show (⟨a.toList.toArray⟩ : Str) = ⟨a⟩
  rw [Array.toArray_toList]
theorem sp_lname {i : Int} (h : ∀ n : Str, n.length ≤ 100 → P (.str n) μ) : f__law_name [.int i] μ P X := by
  rw [f__law_name_eq]; unfold f__law_name_B fDef
  refine ⟨rfl, ?_⟩
  have m1 := mulA21
  have m2 := mulA20
  obtain ⟨z, hj, hz⟩ := pick_in (l := [.str "", .str (Txt.mul "a" 21), .str "Log", .str "a b", .str "a1", .str "log/"]) (i := i / 9 % 6) (by omega) (by show i / 9 % 6 < 6; omega)
  obtain ⟨u, hk, hu⟩ := pick_in (l := [.str "log", .str "log.new", .str (Txt.mul "a" 20)]) (i := i % 3) (by omega) (by show i % 3 < 3; omega)
  have z1 : ∃ n : Str, z = .str n ∧ n.length ≤ 100 := by
    simp only [List.mem_cons, List.not_mem_nil, or_false] at hz
    rcases hz with rfl | rfl | rfl | rfl | rfl | rfl <;> exact ⟨_, rfl, by decide +kernel⟩
  have u1 : ∃ n : Str, u = .str n ∧ n.length ≤ 100 := by
    simp only [List.mem_cons, List.not_mem_nil, or_false] at hu
    rcases hu with rfl | rfl | rfl <;> exact ⟨_, rfl, by decide +kernel⟩
  obtain ⟨n, rfl, hn⟩ := z1
  obtain ⟨m, rfl, hm⟩ := u1
  walk_at "q"
  refine q_ifP (fun c => ?_) fun c => ?_
  · walk_at "q"
    exact Rt.now (h n hn)
  · walk_at "q"
    exact Rt.now (h m hm)
theorem sp_lkeeps {i : Int} (h : ∀ p (ks : List Int), μ p = none → ks.length ≤ 5 → P (.ref p) (mset μ p (.ls (ks.map W.int)))) : f__law_keeps [.int i] μ P X := by
  rw [f__law_keeps_eq]; unfold f__law_keeps_B fDef
  refine ⟨rfl, ?_⟩
  walk_at "q"
  intro p hp
  walk_at "q"
  obtain ⟨n, hn, hn5⟩ : ∃ n : Nat, (i % 5).toNat = n ∧ n < 5 := ⟨_, rfl, by omega⟩
  rw [hn]
  refine itS_nums (fun k ρ μ' => ∃ (ks : List Int) (j : Int) (x2 : Option W), ks.length = k ∧ μ' = mset μ p (.ls (ks.map W.int)) ∧ ρ = [some (.int j), some (.ref p), x2]) ⟨[], i, none, rfl, rfl, rfl⟩ (by intros; trivial) ?_ ?_
  · rintro k hk ρ μ' ⟨ks, j, x2, hl, rfl, rfl⟩ K hK
    have hpp : mset μ p (.ls (ks.map W.int)) p = some (.ls (ks.map W.int)) := mset_same
    have lz : (ks.map W.int).length < 16000000 := by
      rw [List.length_map]
      omega
    walk_at "q"
    rw [mset_mset]
    refine hK _ _ ⟨ks ++ [j / 7 % 9 - 2], j / 7, _, by rw [List.length_append, hl]; rfl, by rw [List.map_append]; rfl, rfl⟩
  · rintro ρ μ' ⟨ks, j, x2, hl, rfl, rfl⟩
    walk_at "q"
    exact Rt.now (h p ks hp (by omega))
def Deed.Sm : Deed → Prop
  | .app n z => n.length ≤ 100 ∧ z.length ≤ 6
  | .syn n m | .rea n m | .ren n m | .rem n m | .pen n m => n.length ≤ 100 ∧ m.length ≤ 100
  | .arm i => True
  | .cra _ _ => False
theorem sp_ldeed {i : Int} (h1 : ∀ D : Deed, D.Sm → P D.w μ) (h2 : ∀ p (ks : List Int), μ p = none → ks.length ≤ 5 → P (Deed.w (.cra p ks)) (mset μ p (.ls (ks.map W.int)))) : f__law_deed_2 [.int i] μ P X := by
  rw [f__law_deed_2_eq]; unfold f__law_deed_2_B fDef
  refine ⟨rfl, ?_⟩
  obtain ⟨z, hz, hj⟩ := pick_str (l := ["append", "append", "append", "sync", "read", "rename", "remove", "pending", "crash", "arm"]) (i := i % 10) (by omega) (by show i % 10 < 10; omega)
  have hz2 : z = "append" ∨ z = "sync" ∨ z = "read" ∨ z = "rename" ∨ z = "remove" ∨ z = "pending" ∨ z = "crash" ∨ z = "arm" := by
    simp only [List.mem_cons, List.not_mem_nil, or_false] at hz
    rcases hz with e | e | e | e | e | e | e | e | e | e <;> simp [e]
  rcases hz2 with rfl | rfl | rfl | rfl | rfl | rfl | rfl | rfl
  · walk_at "q"
    refine sp_lname fun n hn => ?_
    have a1 : ("abcdef" : Str).length ≤ 16000000 := by decide +kernel
    have a2 : (cutS "abcdef" none (some (i / 10 / 81 % 7))).length ≤ 6 := cutS_length "abcdef" _ _
    walk_at "q"
    have := h1 (.app n (cutS "abcdef" none (some (i / 10 / 81 % 7))).cps.toList) ⟨hn, by rw [Array.length_toList]; exact a2⟩
    have e : Deed.w (.app n (cutS "abcdef" none (some (i / 10 / 81 % 7))).cps.toList) = .tup [.str "append", .str n, .str (cutS "abcdef" none (some (i / 10 / 81 % 7)))] := by
      show W.tup [_, _, .str (S _)] = _
      rw [S_ofX]
    rw [e] at this
    exact Rt.now this
  · walk_at "q"
    refine sp_lname fun n hn => ?_
    walk_at "q"
    refine sp_lname fun m hm => ?_
    walk_at "q"
    exact Rt.now (h1 (.syn n m) ⟨hn, hm⟩)
  · walk_at "q"
    refine sp_lname fun n hn => ?_
    walk_at "q"
    refine sp_lname fun m hm => ?_
    walk_at "q"
    exact Rt.now (h1 (.rea n m) ⟨hn, hm⟩)
  · walk_at "q"
    refine sp_lname fun n hn => ?_
    walk_at "q"
    refine sp_lname fun m hm => ?_
    walk_at "q"
    exact Rt.now (h1 (.ren n m) ⟨hn, hm⟩)
  · walk_at "q"
    refine sp_lname fun n hn => ?_
    walk_at "q"
    refine sp_lname fun m hm => ?_
    walk_at "q"
    exact Rt.now (h1 (.rem n m) ⟨hn, hm⟩)
  · walk_at "q"
    refine sp_lname fun n hn => ?_
    walk_at "q"
    refine sp_lname fun m hm => ?_
    walk_at "q"
    exact Rt.now (h1 (.pen n m) ⟨hn, hm⟩)
  · walk_at "q"
    refine sp_lkeeps fun p ks hp hl => ?_
    walk_at "q"
    exact Rt.now (h2 p ks hp hl)
  · walk_at "q"
    exact Rt.now (h1 (.arm (i / 10 % 5)) trivial)
theorem sp_lagree (h : f ≠ d) (hgt : g ≠ t) (n1 : t ≠ d) (n2 : t ≠ f) (n3 : g ≠ d) (n4 : g ≠ f) (ht : μ t = some (.dk (mdl g l c))) (hg : μ g = some (.dk (fw fs))) (F : Fs fs) (k : P (.bl true) (dm μ d f l c fs)) : f__law_agrees [.ref d, .ref t] (dm μ d f l c fs) P X := by
  rw [f__law_agrees_eq]; unfold f__law_agrees_B fDef
  refine ⟨rfl, ?_⟩
  have hd : dm μ d f l c fs d = some (.ins "Disk" [("_files", .ref f), ("_left", l), ("_crashed", .bl c)]) := dm_d h
  have v1 := mdl_f g l c
  have v3 := mdl_d g l c
  have F1 := F.len
  walk_at "q"
  refine sp_names2 h fun p hp => ?_
  obtain ⟨pd, pf', hp⟩ := dm_new hp
  have pt : t ≠ p := fun e => by rw [e, hp] at ht; cases ht
  have pg : g ≠ p := fun e => by rw [e, hp] at hg; cases hg
  have ns : (names fs).length ≤ 1000 := by
    unfold names
    rw [(So.sortS_perm _).length_eq, List.length_map]
    exact F1
  have sub0 : Sub (dm μ d f l c fs) (dm (mset μ p (.ls ((names fs).map W.str ++ [.str "spoilt"]))) d f l c fs) := by
    rw [← dm_set pd pf']
    exact Sub.new (by rw [dm_ne pd pf', hp])
  have hpp : dm (mset μ p (.ls ((names fs).map W.str))) d f l c fs p = some (.ls ((names fs).map W.str)) := by rw [dm_ne pd pf', mset_same]
  have htt : dm (mset μ p (.ls ((names fs).map W.str))) d f l c fs t = some (.dk (mdl g l c)) := by rw [dm_ne n1 n2, mset_ne pt, ht]
  have hgg : dm (mset μ p (.ls ((names fs).map W.str))) d f l c fs g = some (.dk (fw fs)) := by rw [dm_ne n3 n4, mset_ne pg, hg]
  have lz : ((names fs).map W.str).length < 16000000 := by
    rw [List.length_map]
    omega
  walk_at "q"
  refine ⟨fs.map (·.1), ?_, ?_⟩
  · unfold fw
    rw [List.map_map, List.map_map]
    rfl
  refine wNeq_ls (n := 1) (ws := (names fs).map W.str) ?_ drf_lst ?_ (by omega) ?_
  · show (match dm (mset μ p (.ls ((names fs).map W.str))) d f l c fs p with
      | some (.ls ws) => W.lst ws
      | _ => _) = _
    rw [hpp]
  · refine isDs_all (n := 0) fun w hw => ?_
    obtain ⟨x, _, rfl⟩ := List.mem_map.mp hw
    rfl
  walk_at "q"
  rw [dm_set pd pf', mset_mset]
  have hnu : mset μ p (.ls ((names fs).map W.str ++ [.str "spoilt"])) t = some (.dk (mdl g l c)) := by rw [mset_ne pt, ht]
  have hng : mset μ p (.ls ((names fs).map W.str ++ [.str "spoilt"])) g = some (.dk (fw fs)) := by rw [mset_ne pg, hg]
  have hk : Rt P (.bl true) (dm (mset μ p (.ls ((names fs).map W.str ++ [.str "spoilt"]))) d f l c fs) := Rt.forget _ sub0 k
  clear sub0 htt hgg hpp hd k
  revert hnu hng hk
  generalize mset μ p (.ls ((names fs).map W.str ++ [.str "spoilt"])) = ν
  intro hnu hng hk
  have htt : dm ν d f l c fs t = some (.dk (mdl g l c)) := by rw [dm_ne n1 n2, hnu]
  have hgg : dm ν d f l c fs g = some (.dk (fw fs)) := by rw [dm_ne n3 n4, hng]
  cases c with
  | true =>
    walk_at "q"
    exact hk
  | false =>
    walk_at "q"
    refine ⟨g, fw fs, hgg, ?_⟩
    rw [dm_set n3 n4]
    have hnt' : mset ν g (.rk (fw fs)) t = some (.dk (mdl g l false)) := by rw [mset_ne (Ne.symm hgt), hnu]
    have hng' : mset ν g (.rk (fw fs)) g = some (.rk (fw fs)) := mset_same
    have back : mset (dm (mset ν g (.rk (fw fs))) d f l false fs) g (.dk (fw fs)) = dm ν d f l false fs := by
      rw [dm_set n3 n4, mset_mset, mset_self hng]
    revert hnt' hng' back
    generalize mset ν g (.rk (fw fs)) = ν'
    intro hnt' hng' back
    have htt : dm ν' d f l false fs t = some (.dk (mdl g l false)) := by rw [dm_ne n1 n2, hnt']
    have hgg : dm ν' d f l false fs g = some (.rk (fw fs)) := by rw [dm_ne n3 n4, hng']
    have hd : dm ν' d f l false fs d = some (.ins "Disk" [("_files", .ref f), ("_left", l), ("_crashed", .bl false)]) := dm_d h
    have lks : (fw fs).map (fun q => kW q.1) = (fs.map (·.1)).map W.str := by
      unfold fw
      rw [List.map_map, List.map_map]
      rfl
    walk_at "q"
    rw [lks]
    refine itS_of W.str (fun done rest ρ μ' => (∀ n ∈ rest, n ∈ fs.map (·.1)) ∧ μ' = dm ν' d f l false fs ∧ ∃ x3 : Option W, ρ = [some (.ref d), some (.ref t), some (.ref p), x3]) (fs.map (·.1)) [] ⟨fun n hn => hn, rfl, none, rfl⟩ ?_ ?_
    · rintro done n r ρ μ' ⟨hs, rfl, x3, rfl⟩
      refine ⟨trivial, fun K hK => ?_⟩
      obtain ⟨v, hv⟩ := Option.isSome_iff_exists.mp ((getF_mem fs n).mp (hs n List.mem_cons_self))
      have F2 := F.sz n v hv
      have F3 := F.nm n v hv
      have n20 : n.length ≤ 20 := by
        unfold nameB at F3
        exact (of_decide_eq_true (Bool.and_eq_true_iff.mp F3).1).2
      have e : valW (fw fs) (Sum.inr n) = some (.tup [.str (S v.1), .str (S v.2)]) := by rw [fw_val, hv]; rfl
      have l1 := S_len v.1
      have l2 := S_len v.2
      walk_at "q"
      refine sp_Dread h F3 (by omega) hv (by omega) ?_
      walk_at "q"
      rw [S_app]
      refine q_f (by simp) ?_
      walk_at "q"
      refine sp_Dpending h F3 (by omega) hv (by omega) ?_
      walk_at "q"
      exact hK _ _ ⟨fun n hn => hs n (List.mem_cons_of_mem _ hn), rfl, _, rfl⟩
    · rintro done ρ μ' ⟨_, rfl, x3, rfl⟩
      refine ⟨trivial, hgg, ?_⟩
      rw [back]
      walk_at "q"
      exact hk
end
end Q
namespace Q
open PySem L2
local macro_rules | `(tactic| walk_at "mu") => `(tactic| (repeat (first | exact mset_same | assumption | (rw [mset_ne]; rotate_left; (first | assumption | exact Ne.symm (by assumption))))))
local macro_rules | `(tactic| walk_at "lk") => `(tactic| (repeat (first | exact lk_hit | exact lk_nil | refine lk_skip (by decide +kernel) ?_)))
local macro_rules | `(tactic| walk_at "pf") => `(tactic| (repeat (first | rw [pf_nil] | rw [pf_hit] | (rw [pf_skip]; rotate_left; (focus (decide +kernel; done))))))
local macro_rules | `(tactic| walk_at "q") => `(tactic| ((with_reducible conv => whnf); repeat (first
  | (with_reducible refine q_t (by assumption) ?_; with_reducible conv => whnf)
  | (with_reducible refine q_f (by assumption) ?_; with_reducible conv => whnf)
  | (with_reducible refine q_t (by with_reducible rfl) ?_; with_reducible conv => whnf)
  | (with_reducible refine q_f (by with_reducible rfl) ?_; with_reducible conv => whnf)
  | (with_reducible refine q_t (by decide) ?_; with_reducible conv => whnf)
  | (with_reducible refine q_f (by decide) ?_; with_reducible conv => whnf)
  | (with_reducible refine q_t (decide_eq_true (by omega)) ?_; with_reducible conv => whnf)
  | (with_reducible refine q_f (decide_eq_false (by omega)) ?_; with_reducible conv => whnf)
  | (with_reducible refine q_f (q_nn (by omega)) ?_; with_reducible conv => whnf)
  | (with_reducible refine q_t (q_nt (by omega)) ?_; with_reducible conv => whnf)
  | (with_reducible refine q_len (by with_unfolding_all rfl) ?_; with_reducible conv => whnf)
  | (with_reducible refine q_leq (by with_unfolding_all rfl) ?_; with_reducible conv => whnf)
  | (with_reducible refine q_and (by first | assumption | exact True.intro | omega | (simp only [List.length_map, List.length_append, List.length_cons, List.length_nil]; omega) | decide) ?_; with_reducible conv => whnf)
  | (with_reducible refine q_le (by with_unfolding_all rfl) ?_; with_reducible conv => whnf)
  | (with_reducible refine q_and tyL_lst ?_; with_reducible conv => whnf)
  | (with_reducible refine q_and tyL_rol ?_; with_reducible conv => whnf)
  | (with_reducible refine q_and (tyL_ref (by walk_at "mu")) ?_; with_reducible conv => whnf)
  | (with_reducible refine q_and (tyD_ref (by walk_at "mu")) ?_; with_reducible conv => whnf)
  | (with_reducible refine q_and (rdD_ref (by walk_at "mu")) ?_; with_reducible conv => whnf)
  | (rw [pick_c0]; with_reducible conv => whnf)
  | (rw [pick_c1]; with_reducible conv => whnf)
  | (rw [pick_c2]; with_reducible conv => whnf)
  | (rw [pick_c3]; with_reducible conv => whnf)
  | (rw [pick_c4]; with_reducible conv => whnf)
  | (rw [pick_c5]; with_reducible conv => whnf)
  | (rw [mset_same]; with_reducible conv => whnf)
  | (rw [mset_ne (by assumption)]; with_reducible conv => whnf)
  | (rw [mset_ne]; rotate_left; (first | assumption | exact Ne.symm (by assumption)); with_reducible conv => whnf)
  | (rw [rdL_ref]; rotate_left; (focus (walk_at "mu"; done)); with_reducible conv => whnf)
  | (rw [rdL_refD]; rotate_left; (focus (walk_at "mu"; done)); with_reducible conv => whnf)
  | (rw [rdD_refD]; rotate_left; (focus (walk_at "mu"; done)); with_reducible conv => whnf)
  | (rw [rdM_ref]; rotate_left; (focus (walk_at "mu"; done)); with_reducible conv => whnf)
  | (rw [rdL_refK]; rotate_left; (focus (walk_at "mu"; done)); with_reducible conv => whnf)
  | (rw [rdD_refK]; rotate_left; (focus (walk_at "mu"; done)); with_reducible conv => whnf)
  | (rw [tyW_refL]; rotate_left; (focus (walk_at "mu"; done)); with_reducible conv => whnf)
  | (rw [tyW_refD]; rotate_left; (focus (walk_at "mu"; done)); with_reducible conv => whnf)
  | (rw [drf_ref]; rotate_left; (focus (walk_at "mu"; done)); with_reducible conv => whnf)
  | ((conv => (arg 2; tactic' => (walk_at "mu"; done))); with_reducible conv => whnf)
  | (with_reducible refine q_and (Eq.refl _) ?_; with_reducible conv => whnf)
  | (with_reducible refine q_and (MulO.r (by decide)) ?_; with_reducible conv => whnf)
  | (with_reducible refine q_and (MulO.l (by decide)) ?_; with_reducible conv => whnf)
  | (with_reducible refine q_and (MulO.r (by omega)) ?_; with_reducible conv => whnf)
  | (with_reducible refine q_and (MulO.l (by omega)) ?_; with_reducible conv => whnf)
  | (with_reducible refine q_pow (by decide) ?_; with_reducible conv => whnf)
  | (with_reducible refine q_nisT (by first | assumption | with_reducible rfl) ?_; with_reducible conv => whnf)
  | (with_reducible refine q_nisF (by first | assumption | with_reducible rfl) ?_; with_reducible conv => whnf)
  | (with_reducible refine q_eqI ?_; with_reducible conv => whnf)
  | (with_reducible refine q_eqS ?_; with_reducible conv => whnf)
  | (with_reducible refine q_eqB ?_; with_reducible conv => whnf)
  | (with_reducible refine q_neI ?_; with_reducible conv => whnf)
  | (with_reducible refine q_neS ?_; with_reducible conv => whnf)
  | (with_reducible refine q_neB ?_; with_reducible conv => whnf)
  | (with_reducible refine q_memc ?_; with_reducible conv => whnf)
  | (with_reducible refine q_lkn (by walk_at "lk") ?_; with_reducible conv => whnf)
  | (with_reducible refine q_tix (by walk_at "lk"; done) ?_; with_reducible conv => whnf)
  | (with_reducible refine q_tin ?_; with_reducible conv => whnf)
  | (rw [pf_hit]; with_reducible conv => whnf)
  | (rw [pf_skip]; rotate_left; (focus (decide +kernel; done)); with_reducible conv => whnf)
  | (rw [lk_hit]; with_reducible conv => whnf)
  | (rw [lk_skip1]; rotate_left; (focus (decide +kernel; done)); with_reducible conv => whnf))))
theorem mm_self {μ : Mu} {t g : Addr} {l : W} {c : Bool} {fs : Dtb} (h1 : μ t = some (.dk (mdl g l c))) (h2 : μ g = some (.dk (fw fs))) : mm μ t g l c fs = μ := by
  unfold mm
  rw [mset_self h1, mset_self h2]
theorem dm_mm {μ : Mu} {d f t g : Addr} {l l' : W} {c c' : Bool} {fs fs' : Dtb} (n1 : t ≠ d) (n2 : t ≠ f) (n3 : g ≠ d) (n4 : g ≠ f) : mm (dm μ d f l c fs) t g l' c' fs' = dm (mm μ t g l' c' fs') d f l c fs := by
  unfold mm
  rw [dm_set n1 n2, dm_set n3 n4]
structure Fk (fs : Dtb) (k : Nat) : Prop where
  len : fs.length ≤ k
  sz : ∀ n v, getF fs n = some v → v.1.length + v.2.length ≤ 6 * k
  nm : ∀ n v, getF fs n = some v → nameB n = true
theorem Fk.fs {fs : Dtb} {k : Nat} (F : Fk fs k) (h : k ≤ 100) : Fs fs := ⟨by have := F.len; omega, fun n v e => by have := F.sz n v e; omega, F.nm⟩
theorem Fk.mono {fs : Dtb} {k : Nat} (F : Fk fs k) : Fk fs (k + 1) := ⟨Nat.le_succ_of_le F.len, fun n v e => by have := F.sz n v e; omega, F.nm⟩
theorem Fk.put {fs : Dtb} {k : Nat} (F : Fk fs k) {n : Str} {v : List Nat × List Nat} (hn : nameB n = true) (hv : v.1.length + v.2.length ≤ 6 * (k + 1)) : Fk (putF fs n v) (k + 1) := by
  refine ⟨by have := putF_len fs n v; have := F.len; omega, fun m w e => ?_, fun m w e => ?_⟩
  · rw [getF_put] at e
    split at e
    · cases e
      exact hv
    · have := F.sz m w e
      omega
  · rw [getF_put] at e
    split at e
    · rename_i z
      exact z ▸ hn
    · exact F.nm m w e
theorem Fk.drop {fs : Dtb} {k : Nat} (F : Fk fs k) (n : Str) : Fk (dropF fs n) k := by
  refine ⟨Nat.le_trans (List.length_filter_le _ _) F.len, fun m w e => ?_, fun m w e => ?_⟩
  · rw [getF_drop] at e
    split at e
    · cases e
    · exact F.sz m w e
  · rw [getF_drop] at e
    split at e
    · cases e
    · exact F.nm m w e
theorem put_len_eq {fs : Dtb} {n : Str} {v w : List Nat × List Nat} (h : getF fs n = some w) : (putF fs n v).length = fs.length := by
  have ha : (fs.any fun x => decide (x.1 = n)) = true := by
    have := (getF_mem fs n).mpr (by rw [h]; rfl)
    obtain ⟨x, hx, ex⟩ := List.mem_map.mp this
    exact List.any_eq_true.mpr ⟨x, hx, decide_eq_true ex⟩
  unfold putF
  rw [if_pos ha, List.length_map]
theorem Fk.crash {k : Nat} : ∀ (ns : List Str) (ks : List Int) {fs : Dtb}, Fk fs k → Fk (crashL ns ks fs) k
  | [], _, _, F => F
  | n :: ns, ks, fs, F => by
    cases e : getF fs n with
    | none =>
      have : crashL (n :: ns) ks fs = crashL ns ks fs := by
        show (match getF fs n with
          | some v => if v.2 = [] then crashL ns ks fs else crashL ns ks.tail (putF fs n (v.1 ++ v.2.take (max 0 (ks.headD 0)).toNat, []))
          | none => crashL ns ks fs) = _
        rw [e]
      rw [this]
      exact Fk.crash ns ks F
    | some v =>
      rw [crashL_cons e]
      split
      · exact Fk.crash ns ks F
      · refine Fk.crash ns ks.tail ⟨by rw [put_len_eq e]; exact F.len, fun m w h => ?_, fun m w h => ?_⟩
        · rw [getF_put] at h
          split at h
          · cases h
            have := F.sz n v e
            simp only [List.length_append, List.length_take, List.length_nil]
            omega
          · exact F.sz m w h
        · rw [getF_put] at h
          split at h
          · rename_i z
            exact z ▸ F.nm n v e
          · exact F.nm m w h
def Good12 (a : Ans) (k : Nat) : Prop := isLeft a.l = true ∧ Fk a.fs k ∧ (a.v = .non ∨ (∃ z, a.v = .str z) ∨ ∃ i, a.v = .int i)
theorem opL_left {l l' : W} (h : opL l = some l') : isLeft l' = true := by
  cases l with
  | non => cases h; rfl
  | int i =>
    have h : (if i = 0 then none else some (W.int (i - 1))) = some l' := h
    split at h
    · cases h
    · cases h
      rfl
  | _ => cases h
theorem opA_good {l : W} {fs fs' : Dtb} {k : Nat} (hl : isLeft l = true) (F : Fk fs k) (F' : Fk fs' k) : Good12 (opA l fs fs') k := by
  cases e : opL l with
  | none =>
    rw [opA_none e]
    exact ⟨hl, F, .inl rfl⟩
  | some l' =>
    rw [opA_some e]
    exact ⟨opL_left e, F', .inl rfl⟩
theorem Fk.part {fs : Dtb} {k : Nat} (F : Fk fs k) (n : Str) : (parts fs n).1.length + (parts fs n).2.length ≤ 6 * k := by
  unfold parts
  cases e : getF fs n with
  | none => exact Nat.zero_le _
  | some v => exact F.sz n v e
theorem res_good {l : W} {c : Bool} {fs : Dtb} {k : Nat} (hl : isLeft l = true) (F : Fk fs k) {D : Deed} (hD : D.Sm ∨ ∃ p ks, D = .cra p ks) : Good12 (D.res l c fs) (k + 1) := by
  have Fm := F.mono
  cases D with
  | arm i => exact ⟨rfl, Fm, .inl rfl⟩
  | cra p ks => exact ⟨rfl, Fk.crash _ _ Fm, .inl rfl⟩
  | app n z =>
    have hz : z.length ≤ 6 := by
      rcases hD with h | ⟨_, _, h⟩
      · exact h.2
      · cases h
    cases c with
    | true => exact ⟨hl, Fm, .inl rfl⟩
    | false =>
      cases hn : nameB n with
      | false =>
        rw [res_appN hn]
        exact ⟨hl, Fm, .inl rfl⟩
      | true =>
        rw [res_appS hn]
        refine opA_good hl Fm (F.put hn ?_)
        have := F.part n
        simp only [List.length_append]
        omega
  | syn n m =>
    cases c with
    | true => exact ⟨hl, Fm, .inl rfl⟩
    | false =>
      cases hv : getF fs n with
      | none =>
        rw [res_synN hv]
        exact ⟨hl, Fm, .inl rfl⟩
      | some v =>
        rw [res_synS hv]
        refine opA_good hl Fm (F.put (F.nm n v hv) ?_)
        have := F.sz n v hv
        simp only [List.length_append, List.length_nil]
        omega
  | rem n m =>
    cases c with
    | true => exact ⟨hl, Fm, .inl rfl⟩
    | false =>
      cases hv : getF fs n with
      | none =>
        rw [res_remN hv]
        exact ⟨hl, Fm, .inl rfl⟩
      | some v =>
        rw [res_remS hv]
        exact opA_good hl Fm (Fm.drop n)
  | rea n m =>
    cases c with
    | true => exact ⟨hl, Fm, .inl rfl⟩
    | false =>
      cases hv : getF fs n with
      | none =>
        rw [res_reaN hv]
        exact ⟨hl, Fm, .inl rfl⟩
      | some v =>
        rw [res_reaS hv]
        exact ⟨hl, Fm, .inr (.inl ⟨_, rfl⟩)⟩
  | pen n m =>
    cases c with
    | true => exact ⟨hl, Fm, .inl rfl⟩
    | false =>
      cases hv : getF fs n with
      | none =>
        rw [res_penN hv]
        exact ⟨hl, Fm, .inl rfl⟩
      | some v =>
        rw [res_penS hv]
        exact ⟨hl, Fm, .inr (.inr ⟨_, rfl⟩)⟩
  | ren n m =>
    cases c with
    | true => exact ⟨hl, Fm, .inl rfl⟩
    | false =>
      cases hv : getF fs n with
      | none =>
        rw [res_renN hv]
        exact ⟨hl, Fm, .inl rfl⟩
      | some v =>
        rw [res_renS hv]
        split
        · rename_i hm
          refine opA_good hl Fm ((F.drop n).put hm ?_)
          have := F.sz n v hv
          omega
        · exact ⟨hl, Fm, .inl rfl⟩
section
variable {μ : Mu} {P : Po} {X : Xo} {d f t g : Addr} {l : W} {c : Bool} {fs : Dtb}
theorem sp_lexp {D : Deed} (h : g ≠ t) (hl : isLeft l = true) (F : Fs fs) (hD : D.Sm) (hk : P (D.res l c fs).w (mm μ t g (D.res l c fs).l (D.res l c fs).c (D.res l c fs).fs)) : f__law_expect [.ref t, D.w] (mm μ t g l c fs) P X := by
  cases D with
  | arm i => exact sp_lexp_arm h hk
  | cra p ks => exact hD.elim
  | app n z => exact sp_lexp_app h hl F (by have := hD.1; omega) (by have := hD.2; omega) hk
  | syn n m => exact sp_lexp_syn h hl F (by have := hD.2; omega) hk
  | rem n m => exact sp_lexp_rem h hl F (by have := hD.2; omega) hk
  | rea n m => exact sp_lexp_rea h hl F (by have := hD.2; omega) hk
  | pen n m => exact sp_lexp_pen h hl F (by have := hD.2; omega) hk
  | ren n m => exact sp_lexp_ren h hl F (by have := hD.2; omega) hk
theorem sp_lact {D : Deed} (h : f ≠ d) (hl : isLeft l = true) (F : Fs fs) (hD : D.Sm) (hk : P (D.res l c fs).w (dm μ d f (D.res l c fs).l (D.res l c fs).c (D.res l c fs).fs)) : f__law_act [.ref d, D.w] (dm μ d f l c fs) P X := by
  cases D with
  | arm i => exact sp_lact_arm h hk
  | cra p ks => exact hD.elim
  | app n z => exact sp_lact_app h hl F (by have := hD.1; omega) (by have := hD.2; omega) hk
  | syn n m => exact sp_lact_syn h hl F (by have := hD.1; omega) (by have := hD.2; omega) hk
  | rem n m => exact sp_lact_rem h hl F (by have := hD.1; omega) (by have := hD.2; omega) hk
  | rea n m => exact sp_lact_rea h hl F (by have := hD.1; omega) (by have := hD.2; omega) hk
  | pen n m => exact sp_lact_pen h hl F (by have := hD.1; omega) (by have := hD.2; omega) hk
  | ren n m => exact sp_lact_ren h hl F (by have := hD.1; omega) (by have := hD.2; omega) hk
end
theorem law_k12 : LawOk f_law_14 63 := by
  intro ns hl P X hP
  rw [f_law_14_eq]; unfold f_law_14_B fDef
  refine ⟨rfl, ?_⟩
  walk_at "q"
  intro d hd
  refine sp_Dinit hd fun f hf0 hfd => ?_
  walk_at "q"
  intro t ht
  obtain ⟨t1, t2, _⟩ := dm_new ht
  walk_at "q"
  intro g hg
  obtain ⟨gt, hg⟩ := new_ne hg
  obtain ⟨g1, g2, _⟩ := dm_new hg
  walk_at "q"
  have start : ∀ o, o = O.dk (mdl g .non false) → mset (mset (mset (dm (fun _ => none) d f .non false []) t (.dk [])) g (.dk [])) t o = dm (mm (fun _ => none) t g .non false []) d f .non false [] := by
    rintro _ rfl
    rw [mset_comm (Ne.symm gt), mset_mset, mset_comm gt, dm_set t1 t2, dm_set g1 g2]
    rfl
  refine itS_of W.int (fun done rest ρ μ' => done.length + rest.length = ns.length ∧ ∃ (μ : Mu) (l : W) (c : Bool) (fs : Dtb) (x3 x4 x5 x6 : Option W), μ' = dm μ d f l c fs ∧ μ t = some (.dk (mdl g l c)) ∧ μ g = some (.dk (fw fs)) ∧ isLeft l = true ∧ Fk fs done.length ∧ ρ = [some (.rol (ns.map W.int)), some (.ref d), some (.ref t), x3, x4, x5, x6]) ns [] ⟨by simp, mm (fun _ => none) t g .non false [], .non, false, [], none, none, none, none, start _ rfl, mm_t gt, mm_g, rfl, ⟨Nat.le_refl _, fun n v e => (by cases e), fun n v e => (by cases e)⟩, rfl⟩ ?_ ?_
  · rintro done x rest ρ μ' ⟨hlen, μ, l, c, fs, x3, x4, x5, x6, rfl, ht', hg', hl', F, rfl⟩
    refine ⟨rfl, fun K hK => ?_⟩
    rw [List.length_cons] at hlen
    have Fs0 := F.fs (by omega)
    have tail : ∀ (Dw : W) (ak : Str) (av al : W) (ac : Bool) (afs : Dtb) (ν : Mu) (N : En), N.nx = K → isLeft al = true → Fk afs (done.length + 1) → (av = .non ∨ (∃ z, av = .str z) ∨ ∃ i, av = .int i) → ν t = some (.dk (mdl g al ac)) → ν g = some (.dk (fw afs)) →
        sSeq (sIf (cOr (cV (eOp wNeq (eOp wIx (eV 6) (eC (.int 0))) (eOp wIx (eV 5) (eC (.int 0))))) (cV (eIsi .bl (eOp wIx (eV 6) (eC (.int 1)))))) (sRt (eC (.bl false))) (sNx)) (sIf (cOr (cV (eOp wNeq (eOp wIs (eOp wIx (eV 6) (eC (.int 1))) (eC .non)) (eOp wIs (eOp wIx (eV 5) (eC (.int 1))) (eC .non)))) (cOr (cV (eOp wNeq (eOp wIx (eV 6) (eC (.int 1))) (eOp wIx (eV 5) (eC (.int 1))))) (cNot (cV (eCall f__law_agrees (aCons (eV 1) (aCons (eV 2) (aNil)))))))) (sRt (eC (.bl false))) (sNx))
          [some (.rol (ns.map W.int)), some (.ref d), some (.ref t), some (.int x), some Dw, some (.tup [.str ak, av]), some (.tup [.str ak, av])] (dm ν d f al ac afs) N := by
      rintro Dw ak av al ac afs ν N rfl r1 r2 r3 hνt hνg
      have Fs1 := r2.fs (by omega)
      have fin : ∀ x6, N.nx [some (.rol (ns.map W.int)), some (.ref d), some (.ref t), some (.int x), some Dw, x6, x6] (dm ν d f al ac afs) := fun x6 => hK _ _ ⟨by rw [List.length_append, List.length_singleton]; omega, ν, al, ac, afs, _, _, _, _, rfl, hνt, hνg, r1, by rw [List.length_append]; exact r2, rfl⟩
      rcases r3 with rfl | ⟨z, rfl⟩ | ⟨i, rfl⟩
      all_goals walk_at "q"
      all_goals (repeat (refine q_f (by simp; done) ?_; walk_at "q"))
      all_goals (try (refine wNeq_same (n := 1) (w := .non) rfl (by omega) ?_; walk_at "q"))
      all_goals refine sp_lagree hfd gt t1 t2 g1 g2 hνt hνg Fs1 ?_
      all_goals walk_at "q"
      all_goals exact fin _
    walk_at "q"
    refine sp_ldeed (fun D hD => ?_) fun p ks hp hks => ?_
    · walk_at "q"
      have e1 : f__law_expect [.ref t, D.w] (dm μ d f l c fs) = f__law_expect [.ref t, D.w] (mm (dm μ d f l c fs) t g l c fs) := by
        rw [mm_self]
        · rw [dm_ne t1 t2, ht']
        · rw [dm_ne g1 g2, hg']
      rw [e1]
      refine sp_lexp gt hl' Fs0 hD ?_
      rw [dm_mm t1 t2 g1 g2]
      walk_at "q"
      refine sp_lact hfd hl' Fs0 hD ?_
      obtain ⟨r1, r2, r3⟩ := res_good (c := c) hl' F (.inl hD)
      exact tail D.w _ _ _ _ _ _ _ rfl r1 r2 r3 (mm_t gt) mm_g
    · obtain ⟨pd, pf', hp⟩ := dm_new hp
      have pt : p ≠ t := fun e => by rw [e, ht'] at hp; cases hp
      have pg : p ≠ g := fun e => by rw [e, hg'] at hp; cases hp
      rw [dm_set pd pf']
      have hpp : mset μ p (.ls (ks.map W.int)) p = some (.ls (ks.map W.int)) := mset_same
      have ht2 : mset μ p (.ls (ks.map W.int)) t = some (.dk (mdl g l c)) := by rw [mset_ne (Ne.symm pt), ht']
      have hg2 : mset μ p (.ls (ks.map W.int)) g = some (.dk (fw fs)) := by rw [mset_ne (Ne.symm pg), hg']
      revert hpp ht2 hg2
      generalize mset μ p (.ls (ks.map W.int)) = ν
      intro hpp ht2 hg2
      walk_at "q"
      have e1 : f__law_expect [.ref t, Deed.w (.cra p ks)] (dm ν d f l c fs) = f__law_expect [.ref t, Deed.w (.cra p ks)] (mm (dm ν d f l c fs) t g l c fs) := by
        rw [mm_self]
        · rw [dm_ne t1 t2, ht2]
        · rw [dm_ne g1 g2, hg2]
      rw [e1]
      refine sp_lexp_cra gt pt pg (by rw [dm_ne pd pf', hpp]) (by omega) Fs0 ?_
      rw [dm_mm t1 t2 g1 g2]
      walk_at "q"
      refine sp_lact_cra hfd pd pf' (by rw [mm_ne pt pg, hpp]) (by omega) Fs0 ?_
      obtain ⟨r1, r2, r3⟩ := res_good (c := c) hl' F (.inr ⟨p, ks, rfl⟩)
      exact tail (Deed.w (.cra p ks)) _ _ _ _ _ _ _ rfl r1 r2 r3 (mm_t gt) mm_g
  · rintro done ρ μ' ⟨hlen, μ, l, c, fs, x3, x4, x5, x6, rfl, ht', hg', hl', F, rfl⟩
    refine ⟨rfl, ?_⟩
    have hd2 : dm μ d f l c fs d = some (.ins "Disk" [("_files", .ref f), ("_left", l), ("_crashed", .bl c)]) := dm_d hfd
    walk_at "q"
    refine sp_names2 hfd fun p hp => ?_
    obtain ⟨pd, pf', hp⟩ := dm_new hp
    have hpp : dm (mset μ p (.ls ((names fs).map W.str))) d f l c fs p = some (.ls ((names fs).map W.str)) := by rw [dm_ne pd pf', mset_same]
    walk_at "q"
    exact Rt.now (hP _)
end Q
namespace K12
open PySem PySem.Spec PyProof.Rows L2 Evl Q
/-! ### the head -/
theorem facts {P : Program} {w : World} {K : Frag} {h : Heap} {mg : Str → Option Value} {f : Addr} (X : K.In h) (G : h.Ns mainGlobals mg) (hfa : mg ("law" : Str) = some (.ref f)) (y : He.SaysX fa fn ts [] ex w h K) :
    ∃ fd : FuncData, (∀ (s : Shared) (v : Value), BindsTo s fd ⟨[v], []⟩ [("script", v)]) ∧ ∀ base : Heap, K.In base → base.Ns mainGlobals mg → FnOk P w K mg base CX0 5 f fd ["script"] (spL K f_law_14) := by
  have c := y.t.d
  obtain ⟨fd_is_name, F_is_name⟩ := c.def_ 0 (d := d_is_name) rfl
  obtain ⟨fd__law_cell, F__law_cell⟩ := c.def_ 1 (d := d__law_cell) rfl
  obtain ⟨fd__law_name, F__law_name⟩ := c.def_ 2 (d := d__law_name) rfl
  obtain ⟨fd__law_keeps, F__law_keeps⟩ := c.def_ 3 (d := d__law_keeps) rfl
  obtain ⟨fd__law_act, F__law_act⟩ := c.def_ 4 (d := d__law_act) rfl
  obtain ⟨fd__law_good, F__law_good⟩ := c.def_ 5 (d := d__law_good) rfl
  obtain ⟨fd__law_crash, F__law_crash⟩ := c.def_ 6 (d := d__law_crash) rfl
  obtain ⟨fd__law_passes, F__law_passes⟩ := c.def_ 7 (d := d__law_passes) rfl
  obtain ⟨fd__law_valid, F__law_valid⟩ := c.def_ 8 (d := d__law_valid) rfl
  obtain ⟨fd__law_change, F__law_change⟩ := c.def_ 9 (d := d__law_change) rfl
  obtain ⟨fd__law_expect, F__law_expect⟩ := c.def_ 10 (d := d__law_expect) rfl
  obtain ⟨fd__law_deed, F__law_deed⟩ := c.def_ 11 (d := d__law_deed) rfl
  obtain ⟨fd__law_agrees, F__law_agrees⟩ := c.def_ 12 (d := d__law_agrees) rfl
  obtain ⟨fd_law, F_law⟩ := c.def_ 13 (d := d_law) rfl
  obtain ⟨fd_Disk___init__, F_Disk___init__⟩ := c.def_ 14 (d := d_Disk___init__) rfl
  obtain ⟨fd_Disk_names, F_Disk_names⟩ := c.def_ 15 (d := d_Disk_names) rfl
  obtain ⟨fd_Disk__check_up, F_Disk__check_up⟩ := c.def_ 16 (d := d_Disk__check_up) rfl
  obtain ⟨fd_Disk__check_file, F_Disk__check_file⟩ := c.def_ 17 (d := d_Disk__check_file) rfl
  obtain ⟨fd_Disk_read, F_Disk_read⟩ := c.def_ 18 (d := d_Disk_read) rfl
  obtain ⟨fd_Disk__operate, F_Disk__operate⟩ := c.def_ 19 (d := d_Disk__operate) rfl
  obtain ⟨fd_Disk_append, F_Disk_append⟩ := c.def_ 20 (d := d_Disk_append) rfl
  obtain ⟨fd_Disk_sync, F_Disk_sync⟩ := c.def_ 21 (d := d_Disk_sync) rfl
  obtain ⟨fd_Disk_remove, F_Disk_remove⟩ := c.def_ 22 (d := d_Disk_remove) rfl
  obtain ⟨fd_Disk_rename, F_Disk_rename⟩ := c.def_ 23 (d := d_Disk_rename) rfl
  obtain ⟨fd_Disk_pending, F_Disk_pending⟩ := c.def_ 24 (d := d_Disk_pending) rfl
  obtain ⟨fd_Disk_arm, F_Disk_arm⟩ := c.def_ 25 (d := d_Disk_arm) rfl
  obtain ⟨fd_Disk_crash, F_Disk_crash⟩ := c.def_ 26 (d := d_Disk_crash) rfl
  have g_is_name := He.glo_ok X G (c.fact 0 (f := .glo "is_name") rfl)
  have g__law_cell := He.glo_ok X G (c.fact 1 (f := .glo "_law_cell") rfl)
  have g__law_name := He.glo_ok X G (c.fact 2 (f := .glo "_law_name") rfl)
  have g__law_keeps := He.glo_ok X G (c.fact 3 (f := .glo "_law_keeps") rfl)
  have g__law_act := He.glo_ok X G (c.fact 4 (f := .glo "_law_act") rfl)
  have g__law_good := He.glo_ok X G (c.fact 5 (f := .glo "_law_good") rfl)
  have g__law_crash := He.glo_ok X G (c.fact 6 (f := .glo "_law_crash") rfl)
  have g__law_passes := He.glo_ok X G (c.fact 7 (f := .glo "_law_passes") rfl)
  have g__law_valid := He.glo_ok X G (c.fact 8 (f := .glo "_law_valid") rfl)
  have g__law_change := He.glo_ok X G (c.fact 9 (f := .glo "_law_change") rfl)
  have g__law_expect := He.glo_ok X G (c.fact 10 (f := .glo "_law_expect") rfl)
  have g__law_deed := He.glo_ok X G (c.fact 11 (f := .glo "_law_deed") rfl)
  have g__law_agrees := He.glo_ok X G (c.fact 12 (f := .glo "_law_agrees") rfl)
  have g_law := He.glo_ok X G (c.fact 13 (f := .glo "law") rfl)
  have g_Disk := He.glo_ok X G (c.fact 14 (f := .glo "Disk") rfl)
  have g_TableError := He.glo_ok X G (c.fact 15 (f := .glo "TableError") rfl)
  have g_DiskError := He.glo_ok X G (c.fact 16 (f := .glo "DiskError") rfl)
  have g_DiskCrashed := He.glo_ok X G (c.fact 17 (f := .glo "DiskCrashed") rfl)
  have z_len := He.free_ok X G (c.fact 18 (f := .free "len") rfl)
  have z_isinstance := He.free_ok X G (c.fact 19 (f := .free "isinstance") rfl)
  have z_str := He.free_ok X G (c.fact 20 (f := .free "str") rfl)
  have z_sorted := He.free_ok X G (c.fact 21 (f := .free "sorted") rfl)
  have z_max := He.free_ok X G (c.fact 22 (f := .free "max") rfl)
  have z_int := He.free_ok X G (c.fact 23 (f := .free "int") rfl)
  have z_range := He.free_ok X G (c.fact 24 (f := .free "range") rfl)
  have z_list := He.free_ok X G (c.fact 25 (f := .free "list") rfl)
  have z_bool := He.free_ok X G (c.fact 26 (f := .free "bool") rfl)
  have c_MOST_NAME := He.int_ok X G (c.fact 27 (f := .int "MOST_NAME" 20) rfl)
  have mo : ex K = true := y.more
  obtain ⟨mo, wi_DiskCrashed_DiskError⟩ := Bool.and_eq_true_iff.mp mo
  have I_DiskError_DiskCrashed : IsfL K "DiskError" [("DiskCrashed", false)] := (isfl_cons (isfB_ok wi_DiskCrashed_DiskError) isfl_nil)
  have x_DiskCrashed : ExcQ K mg "DiskCrashed" := exq_of g_DiskCrashed (c.fact 28 (f := .exc "DiskCrashed") rfl)
  have x_DiskError : ExcQ K mg "DiskError" := exq_of g_DiskError (c.fact 29 (f := .exc "DiskError") rfl)
  have em_DiskError : ExmQ K ["TableError", "DiskError", "DiskCrashed"] (.ref (He.ga K "DiskError")) ["DiskError"] := fun x hx => by
    simp only [List.mem_cons, List.not_mem_nil, or_false] at hx
    rcases hx with rfl | rfl | rfl
    · exact He.exm_ok (c.fact 30 (f := .exm "TableError" "DiskError" false) rfl)
    · exact He.exm_ok (c.fact 31 (f := .exm "DiskError" "DiskError" true) rfl)
    · exact He.exm_ok (c.fact 32 (f := .exm "DiskCrashed" "DiskError" false) rfl)
  have em_DiskCrashed : ExmQ K ["TableError", "DiskError", "DiskCrashed"] (.ref (He.ga K "DiskCrashed")) ["DiskCrashed"] := fun x hx => by
    simp only [List.mem_cons, List.not_mem_nil, or_false] at hx
    rcases hx with rfl | rfl | rfl
    · exact He.exm_ok (c.fact 33 (f := .exm "TableError" "DiskCrashed" false) rfl)
    · exact He.exm_ok (c.fact 34 (f := .exm "DiskError" "DiskCrashed" false) rfl)
    · exact He.exm_ok (c.fact 35 (f := .exm "DiskCrashed" "DiskCrashed" true) rfl)
  have e := hfa.symm.trans g_law
  cases e
  have b := L2.FunD.bindsA (ps := ["script"]) F_law fun _ _ _ _ _ _ us hl => match us, hl with | [_], _ => rfl
  refine ⟨fd_law, fun s v => b s [v] rfl, fun base _ _ => ?_⟩
  have l_Disk := He.cls_ok (c.fact 36 (f := .cls "Disk") rfl)
  have n_Disk__files := He.noat_ok (c.fact 37 (f := .noat "Disk" "_files") rfl)
  have n_Disk__left := He.noat_ok (c.fact 38 (f := .noat "Disk" "_left") rfl)
  have n_Disk__crashed := He.noat_ok (c.fact 39 (f := .noat "Disk" "_crashed") rfl)
  have D_is_name : DefQ P w K mg base _ _ _ _ := dq_mk (st := s_is_name) F_is_name g_is_name (F_is_name.bindsN fun _ _ _ _ _ _ us hl => match us, hl with | [_], _ => rfl) (ok_is_name F_is_name z_len c_MOST_NAME z_isinstance z_str)
  have K_Disk : MakQ P w K mg base _ "Disk" _ _ := ⟨g_Disk, _, _, ok_Disk___init__ F_Disk___init__ l_Disk n_Disk__files n_Disk__left n_Disk__crashed, He.mkr_ok (c.fact 52 (f := .mkr "Disk") rfl), F_Disk___init__.bindsN fun _ _ _ _ _ _ us hl => match us, hl with | [_], _ => rfl⟩
  have M_Disk_names : MetQ P w K mg base _ "Disk" "names" _ _ := ⟨l_Disk, _, _, ok_Disk_names F_Disk_names z_sorted l_Disk n_Disk__files, He.meth_ok (c.fact 40 (f := .meth "Disk" "names") rfl), F_Disk_names.bindsN fun _ _ _ _ _ _ us hl => match us, hl with | [_], _ => rfl⟩
  have M_Disk__check_up : MetQ P w K mg base _ "Disk" "_check_up" _ _ := ⟨l_Disk, _, _, ok_Disk__check_up F_Disk__check_up l_Disk n_Disk__crashed x_DiskCrashed, He.meth_ok (c.fact 41 (f := .meth "Disk" "_check_up") rfl), F_Disk__check_up.bindsN fun _ _ _ _ _ _ us hl => match us, hl with | [_], _ => rfl⟩
  have M_Disk__check_file : MetQ P w K mg base _ "Disk" "_check_file" _ _ := ⟨l_Disk, _, _, ok_Disk__check_file F_Disk__check_file M_Disk__check_up l_Disk n_Disk__files D_is_name x_DiskError, He.meth_ok (c.fact 42 (f := .meth "Disk" "_check_file") rfl), F_Disk__check_file.bindsN fun _ _ _ _ _ _ us hl => match us, hl with | [_, _], _ => rfl⟩
  have M_Disk_read : MetQ P w K mg base _ "Disk" "read" _ _ := ⟨l_Disk, _, _, ok_Disk_read F_Disk_read M_Disk__check_file l_Disk n_Disk__files, He.meth_ok (c.fact 43 (f := .meth "Disk" "read") rfl), F_Disk_read.bindsN fun _ _ _ _ _ _ us hl => match us, hl with | [_, _], _ => rfl⟩
  have M_Disk__operate : MetQ P w K mg base _ "Disk" "_operate" _ _ := ⟨l_Disk, _, _, ok_Disk__operate F_Disk__operate l_Disk n_Disk__left n_Disk__crashed x_DiskCrashed, He.meth_ok (c.fact 44 (f := .meth "Disk" "_operate") rfl), F_Disk__operate.bindsN fun _ _ _ _ _ _ us hl => match us, hl with | [_], _ => rfl⟩
  have M_Disk_append : MetQ P w K mg base _ "Disk" "append" _ _ := ⟨l_Disk, _, _, ok_Disk_append F_Disk_append M_Disk__check_up z_isinstance z_str D_is_name x_DiskError M_Disk__operate l_Disk n_Disk__files, He.meth_ok (c.fact 45 (f := .meth "Disk" "append") rfl), F_Disk_append.bindsN fun _ _ _ _ _ _ us hl => match us, hl with | [_, _, _], _ => rfl⟩
  have M_Disk_sync : MetQ P w K mg base _ "Disk" "sync" _ _ := ⟨l_Disk, _, _, ok_Disk_sync F_Disk_sync M_Disk__check_file M_Disk__operate l_Disk n_Disk__files, He.meth_ok (c.fact 46 (f := .meth "Disk" "sync") rfl), F_Disk_sync.bindsN fun _ _ _ _ _ _ us hl => match us, hl with | [_, _], _ => rfl⟩
  have M_Disk_remove : MetQ P w K mg base _ "Disk" "remove" _ _ := ⟨l_Disk, _, _, ok_Disk_remove F_Disk_remove M_Disk__check_file M_Disk__operate l_Disk n_Disk__files, He.meth_ok (c.fact 47 (f := .meth "Disk" "remove") rfl), F_Disk_remove.bindsN fun _ _ _ _ _ _ us hl => match us, hl with | [_, _], _ => rfl⟩
  have M_Disk_rename : MetQ P w K mg base _ "Disk" "rename" _ _ := ⟨l_Disk, _, _, ok_Disk_rename F_Disk_rename M_Disk__check_file D_is_name x_DiskError M_Disk__operate l_Disk n_Disk__files, He.meth_ok (c.fact 48 (f := .meth "Disk" "rename") rfl), F_Disk_rename.bindsN fun _ _ _ _ _ _ us hl => match us, hl with | [_, _, _], _ => rfl⟩
  have M_Disk_pending : MetQ P w K mg base _ "Disk" "pending" _ _ := ⟨l_Disk, _, _, ok_Disk_pending F_Disk_pending M_Disk__check_file z_len l_Disk n_Disk__files, He.meth_ok (c.fact 49 (f := .meth "Disk" "pending") rfl), F_Disk_pending.bindsN fun _ _ _ _ _ _ us hl => match us, hl with | [_, _], _ => rfl⟩
  have M_Disk_arm : MetQ P w K mg base _ "Disk" "arm" _ _ := ⟨l_Disk, _, _, ok_Disk_arm F_Disk_arm l_Disk n_Disk__left, He.meth_ok (c.fact 50 (f := .meth "Disk" "arm") rfl), F_Disk_arm.bindsN fun _ _ _ _ _ _ us hl => match us, hl with | [_, _], _ => rfl⟩
  have M_Disk_crash : MetQ P w K mg base _ "Disk" "crash" _ _ := ⟨l_Disk, _, _, ok_Disk_crash F_Disk_crash M_Disk_names l_Disk n_Disk__files z_len z_max n_Disk__left n_Disk__crashed, He.meth_ok (c.fact 51 (f := .meth "Disk" "crash") rfl), F_Disk_crash.bindsN fun _ _ _ _ _ _ us hl => match us, hl with | [_, _], _ => rfl⟩
  have D__law_cell : DefQ P w K mg base _ _ _ _ := dq_mk (st := s__law_cell) F__law_cell g__law_cell (F__law_cell.bindsN fun _ _ _ _ _ _ us hl => match us, hl with | [_, _], _ => rfl) (ok__law_cell F__law_cell z_len)
  have D__law_name : DefQ P w K mg base _ _ _ _ := dq_mk (st := s__law_name) F__law_name g__law_name (F__law_name.bindsN fun _ _ _ _ _ _ us hl => match us, hl with | [_], _ => rfl) (ok__law_name F__law_name z_int)
  have D__law_keeps : DefQ P w K mg base _ _ _ _ := dq_mk (st := s__law_keeps) F__law_keeps g__law_keeps (F__law_keeps.bindsN fun _ _ _ _ _ _ us hl => match us, hl with | [_], _ => rfl) (ok__law_keeps F__law_keeps z_range z_int)
  have D__law_act : DefQ P w K mg base _ _ _ _ := dq_mk (st := s__law_act) F__law_act g__law_act (F__law_act.bindsN fun _ _ _ _ _ _ us hl => match us, hl with | [_, _], _ => rfl) (ok__law_act F__law_act M_Disk_append M_Disk_sync M_Disk_read M_Disk_rename M_Disk_remove M_Disk_pending M_Disk_arm z_list M_Disk_crash x_DiskError em_DiskError x_DiskCrashed em_DiskCrashed z_isinstance I_DiskError_DiskCrashed)
  have D__law_good : DefQ P w K mg base _ _ _ _ := dq_mk (st := s__law_good) F__law_good g__law_good (F__law_good.bindsN fun _ _ _ _ _ _ us hl => match us, hl with | [_], _ => rfl) (ok__law_good F__law_good z_len)
  have D__law_crash : DefQ P w K mg base _ _ _ _ := dq_mk (st := s__law_crash) F__law_crash g__law_crash (F__law_crash.bindsN fun _ _ _ _ _ _ us hl => match us, hl with | [_, _], _ => rfl) (ok__law_crash F__law_crash z_sorted z_len z_max)
  have D__law_passes : DefQ P w K mg base _ _ _ _ := dq_mk (st := s__law_passes) F__law_passes g__law_passes (F__law_passes.bindsN fun _ _ _ _ _ _ us hl => match us, hl with | [_], _ => rfl) (ok__law_passes F__law_passes )
  have D__law_valid : DefQ P w K mg base _ _ _ _ := dq_mk (st := s__law_valid) F__law_valid g__law_valid (F__law_valid.bindsN fun _ _ _ _ _ _ us hl => match us, hl with | [_, _], _ => rfl) (ok__law_valid F__law_valid D__law_good)
  have D__law_change : DefQ P w K mg base _ _ _ _ := dq_mk (st := s__law_change) F__law_change g__law_change (F__law_change.bindsN fun _ _ _ _ _ _ us hl => match us, hl with | [_, _], _ => rfl) (ok__law_change F__law_change )
  have D__law_expect : DefQ P w K mg base _ _ _ _ := dq_mk (st := s__law_expect) F__law_expect g__law_expect (F__law_expect.bindsN fun _ _ _ _ _ _ us hl => match us, hl with | [_, _], _ => rfl) (ok__law_expect F__law_expect D__law_crash D__law_valid z_len D__law_passes D__law_change)
  have D__law_deed : DefQ P w K mg base _ _ _ _ := dq_mk (st := s__law_deed) F__law_deed g__law_deed (F__law_deed.bindsN fun _ _ _ _ _ _ us hl => match us, hl with | [_], _ => rfl) (ok__law_deed F__law_deed z_int D__law_keeps D__law_name)
  have D__law_agrees : DefQ P w K mg base _ _ _ _ := dq_mk (st := s__law_agrees) F__law_agrees g__law_agrees (F__law_agrees.bindsN fun _ _ _ _ _ _ us hl => match us, hl with | [_, _], _ => rfl) (ok__law_agrees F__law_agrees M_Disk_names z_sorted z_isinstance z_list M_Disk_read M_Disk_pending z_len)
  exact ok_law F_law K_Disk D__law_deed D__law_expect D__law_act z_isinstance z_bool D__law_agrees M_Disk_names z_list c_MOST_NAME
end K12
open PySem PySem.W PySem.Calls PyProof.Rows
theorem PySem.Challenge.cw_boundstone_k12_disk_of_files_holds : PySem.Challenge.rw_boundstone_k12_disk_of_files.Holds := by
  w_on; o_law
  refine HandSHeadRun.head_any (r := OpenLaw.row PySem.Challenge.rw_boundstone_k12_disk_of_files) (q := view (OpenLaw.row PySem.Challenge.rw_boundstone_k12_disk_of_files).prog [21]) (H := K12.hk) (ob := K12.ob) (M := 8000) (loose := K12.loose) (d := HandSHeadRun.topDef (OpenLaw.row PySem.Challenge.rw_boundstone_k12_disk_of_files).prog 21) (kwd := []) K12.ob_eq
    (by kernel_rfl) (fun s => by kernel_rfl) K12.run (by kernel_rfl) (by kernel_rfl) (by kernel_rfl) (by rfl) (by first | assumption | decide +kernel) (by decide +kernel) ⟨rfl, rfl, rfl, rfl, rfl, by decide +kernel⟩ ?hw ?hc
  case hw => w_witness2
  case hc =>
    refine L2.walk_ofE (l := PySem.Challenge.rw_boundstone_k12_disk_of_files) (n := 63) (k := 5) (x := "script") (CX := L2.CX0) rfl (by decide) (by kernel_rfl) ⟨rfl, by decide, by decide⟩ ?F (fun _ _ _ _ z => z)
    intro w mg fa h Y G hmg0
    obtain ⟨K, KX, c⟩ := Y
    have hmg : mg ("law" : PySem.Str) = some (.ref fa) := by
      have e : (HandSHeadRun.topDef (OpenLaw.row PySem.Challenge.rw_boundstone_k12_disk_of_files).prog 21).name = ("law" : PySem.Str) := by kernel_rfl
      rw [← e]
      exact hmg0
    obtain ⟨fd, hb, hF⟩ := K12.facts (P := (PySem.Challenge.rw_boundstone_k12_disk_of_files).prog) (w := w) KX G hmg c
    have hn : Q.noLst K = true := by
      have mo : K12.ex K = true := c.more
      have mo := (Bool.and_eq_true_iff.mp mo).1
      exact mo
    exact ⟨K, fd, Q.spL K Q.f_law_14, KX, hb, fun H a ns hl _ hS => Q.law_end hn hl hS Q.law_k12, hF⟩
