import PyProof.Rows.All
import Wide.All
import OpenK.AllK
import Wide.FinOn
import HandS.ForMost
import HandS.ForExc
import HandS.IsInst
import HandS.Evl
import HandS.Walk
import HandS.Deep
import HandS.HeadHook4
import HandS.Head2
import HandS.HeadEnd
import HandS.HeadWalk
import HandS.Wide
import HandS.CallLocal
import HandS.ExcCtx
import HandS.HotCalls
import HandS.SuiteRaise
import HandS.ExcInitHot
import HandS.ExcField
import HandS.Lambda
import KE.KIsAll
import HandS.TupAny
import HandS.Style
import HandS.Strs
import HandS.CallSlots
import HandS.Zip
import HandS.Comp
import HandS.DictComp
import PyProof.CompUse
import HandS.SortKw
import HandS.SortInts
import HandS.WordsDict
import PyProof.Rows.SortShellAny
import HandS.More
import HandS.Conv
import HandS.Flow
import HandS.Small
import HandS.StrMore
import HandS.StrSplit
import HandS.ExcIs
import HandS.Words
import HandS.ExcInit
import KE.SortKeyHeap
import HandS.NestedK
import HandS.ReplaceLit
import HandS.ReplaceList
import HandS.Text
import PyProof.DictUpdate
import PyProof.DictDisplay
import HandS.TryOnly
import PySem.Challenge.RW_boundstone_k50_whole_plans_come_to_rest
set_option Elab.async false
set_option linter.all false
set_option maxRecDepth 100000
set_option maxHeartbeats 8000000
/-! Q0: what the head asks of a text -/
namespace Q
open PySem L2 Evl
abbrev Frag := PySem.W.Frag
/-- values: lists that nobody changes are values (lst; rol: the script); exc: a caught exception -/
inductive W where
  | non | bl (b : Bool) | int (i : Int) | str (x : Str) | tup (ws : List W) | lst (ws : List W) | rol (ws : List W) | ref (a : Addr) | fn (x : Str) | exc (a : Addr) (d : Option Addr) (c : Str) (fs : List (Str × W))
def noLst (K : Frag) : Bool := K.all fun q => match q.2.cls with
  | .type c => !decide (c = "list")
  | _ => true
end Q
namespace Q
open PySem PySem.Spec PyProof.Rows L2 Evl
end Q
namespace K50
open PySem PySem.Spec PyProof.Rows L2 Evl Q
def top (i : Nat) : Stmt := PySem.Challenge.pw_boundstone_k50_whole_plans_come_to_rest.main.body.getD i (.Pass ⟨0, 0, 0, 0⟩)
abbrev s_is_key : Stmt := top 2
abbrev s_below : Stmt := top 3
abbrev s_is_whole : Stmt := top 5
abbrev s__is_large : Stmt := top 10
abbrev s__split : Stmt := top 11
abbrev s__belong_together : Stmt := top 13
abbrev s__join : Stmt := top 14
abbrev s__join_neighbours : Stmt := top 12
abbrev s__load : Stmt := top 15
abbrev s__even_out : Stmt := top 16
abbrev s_plan : Stmt := top 9
abbrev s__law_cell : Stmt := top 18
abbrev s__law_key : Stmt := top 19
abbrev s__law_table : Stmt := top 20
abbrev s__law_pieces : Stmt := top 21
abbrev s__law_at : Stmt := top 22
abbrev s__law_carried : Stmt := top 23
abbrev s__law_named : Stmt := top 24
abbrev s__law_rests : Stmt := top 25
abbrev s_law : Stmt := top 26
/-! ### the head: the top runs -/
def d_is_key : He.DefD := ⟨("is_key", none), "is_key", "is_key", defArgs s_is_key, defBody s_is_key, defScope s_is_key, [], []⟩
def d_below : He.DefD := ⟨("below", none), "below", "below", defArgs s_below, defBody s_below, defScope s_below, [], []⟩
def d_is_whole : He.DefD := ⟨("is_whole", none), "is_whole", "is_whole", defArgs s_is_whole, defBody s_is_whole, defScope s_is_whole, [], []⟩
def d__is_large : He.DefD := ⟨("_is_large", none), "_is_large", "_is_large", defArgs s__is_large, defBody s__is_large, defScope s__is_large, [], []⟩
def d__split : He.DefD := ⟨("_split", none), "_split", "_split", defArgs s__split, defBody s__split, defScope s__split, [], []⟩
def d__belong_together : He.DefD := ⟨("_belong_together", none), "_belong_together", "_belong_together", defArgs s__belong_together, defBody s__belong_together, defScope s__belong_together, [], []⟩
def d__join : He.DefD := ⟨("_join", none), "_join", "_join", defArgs s__join, defBody s__join, defScope s__join, [], []⟩
def d__join_neighbours : He.DefD := ⟨("_join_neighbours", none), "_join_neighbours", "_join_neighbours", defArgs s__join_neighbours, defBody s__join_neighbours, defScope s__join_neighbours, [], []⟩
def d__load : He.DefD := ⟨("_load", none), "_load", "_load", defArgs s__load, defBody s__load, defScope s__load, [], []⟩
def d__even_out : He.DefD := ⟨("_even_out", none), "_even_out", "_even_out", defArgs s__even_out, defBody s__even_out, defScope s__even_out, [], []⟩
def d_plan : He.DefD := ⟨("plan", none), "plan", "plan", defArgs s_plan, defBody s_plan, defScope s_plan, [], []⟩
def d__law_cell : He.DefD := ⟨("_law_cell", none), "_law_cell", "_law_cell", defArgs s__law_cell, defBody s__law_cell, defScope s__law_cell, [], []⟩
def d__law_key : He.DefD := ⟨("_law_key", none), "_law_key", "_law_key", defArgs s__law_key, defBody s__law_key, defScope s__law_key, [], []⟩
def d__law_table : He.DefD := ⟨("_law_table", none), "_law_table", "_law_table", defArgs s__law_table, defBody s__law_table, defScope s__law_table, [], []⟩
def d__law_pieces : He.DefD := ⟨("_law_pieces", none), "_law_pieces", "_law_pieces", defArgs s__law_pieces, defBody s__law_pieces, defScope s__law_pieces, [], []⟩
def d__law_at : He.DefD := ⟨("_law_at", none), "_law_at", "_law_at", defArgs s__law_at, defBody s__law_at, defScope s__law_at, [], []⟩
def d__law_carried : He.DefD := ⟨("_law_carried", none), "_law_carried", "_law_carried", defArgs s__law_carried, defBody s__law_carried, defScope s__law_carried, [], []⟩
def d__law_named : He.DefD := ⟨("_law_named", none), "_law_named", "_law_named", defArgs s__law_named, defBody s__law_named, defScope s__law_named, [], []⟩
def d__law_rests : He.DefD := ⟨("_law_rests", none), "_law_rests", "_law_rests", defArgs s__law_rests, defBody s__law_rests, defScope s__law_rests, [], []⟩
def d_law : He.DefD := ⟨("law", none), "law", "law", defArgs s_law, defBody s_law, defScope s_law, [], []⟩
def fn : List He.DefD := [d_is_key, d_below, d_is_whole, d__is_large, d__split, d__belong_together, d__join, d__join_neighbours, d__load, d__even_out, d_plan, d__law_cell, d__law_key, d__law_table, d__law_pieces, d__law_at, d__law_carried, d__law_named, d__law_rests, d_law]
def fa : List He.Fa := [.glo "is_key", .glo "below", .glo "is_whole", .glo "_is_large", .glo "_split", .glo "_belong_together", .glo "_join", .glo "_join_neighbours", .glo "_load", .glo "_even_out", .glo "plan", .glo "_law_cell", .glo "_law_key", .glo "_law_table", .glo "_law_pieces", .glo "_law_at", .glo "_law_carried", .glo "_law_named", .glo "_law_rests", .glo "law", .free "len", .free "isinstance", .free "str", .free "range", .free "max", .free "min", .free "sorted", .free "int", .int "MOST_KEY" 8, .int "MOST_ITEMS" 8, .int "FEW_ITEMS" 4]
def ts : List He.Tab := []
def ex (K : Frag) : Bool := noLst K
abbrev R : PySem.W.OpenRow := PySem.W.OpenLaw.row PySem.Challenge.rw_boundstone_k50_whole_plans_come_to_rest
abbrev hk : PySem.W.Hook := He.hookX 5 fa fn ts [] ex
def ob (s : PySem.W.SharedT) : He.AlX := He.obsX 5 fa fn ts [] ex (HandSHeadRun.getT s)
theorem ob_eq (s : PySem.W.SharedT) : ob s = hk.obs s.abs := He.obsX_eq (HandSHeadRun.getT_eq s)
def loose : List PySem.Str := (["is_key", "below", "is_whole", "plan", "_is_large", "_split", "_join_neighbours", "_belong_together", "_join", "_load", "_even_out", "_law_cell", "_law_key", "_law_table", "_law_pieces", "_law_at", "_law_carried", "_law_named", "_law_rests", "MOST_KEY"] : List PySem.Str) ++ (["MOST_ITEMS", "FEW_ITEMS"] : List PySem.Str)
theorem run (w : World) : HandSHeadRun.RunEq R (PySem.W.view R.prog [26]) hk ob 8000 loose w := by
  intro os
  kernel_rfl
end K50
/-! Q: programs as functions over values and a store; what is tracked may change, all else stands. -/
namespace Q
open PySem L2 Evl
abbrev Rho := List (Option W)
/-- what is tracked: lists, dicts (int and text keys; rk, rt: while they are walked), dicts with tuple keys, instances -/
inductive O where
  | ls (ws : List W) | dk (kvs : List (Key × W)) | rk (kvs : List (Key × W)) | dt (kvs : List (List Key × W)) | ins (x : Str) (fs : List (Str × W)) | tb (p : Str × Option Str) (q : Str)
abbrev Mu := Addr → Option O
/-- a tuple of the text -/
def WrT (K : Frag) (a : Addr) (xs : List V) : Prop := ∃ (o : Obj) (its : Array Value) (n : Nat), K.lookup a = some o ∧ o.cls = .type "tuple" ∧ o.data = .seq its n ∧ its.size ≤ sizeLine ∧ Vals xs its.toList
def TupAt (K : Frag) (H : Hp) (μ : Mu) (a : Addr) (vs : List V) : Prop := (H a = some (.tup vs) ∧ μ a = none) ∨ WrT K a vs
def LstAt (H : Hp) (μ : Mu) (a : Addr) (vs : List V) : Prop := H a = some (.lst vs) ∧ μ a = none
def RolAt (H : Hp) (μ : Mu) (a : Addr) (vs : List V) : Prop := Rd H a (.lst vs) ∧ μ a = none
mutual
inductive Rw (K : Frag) (H : Hp) (μ : Mu) : V → W → Prop
  | non : Rw K H μ .non .non
  | bl (b : Bool) : Rw K H μ (.bl b) (.bl b)
  | int (i : Int) : Rw K H μ (.int i) (.int i)
  | str (x : Str) : Rw K H μ (.str x) (.str x)
  | ref (a : Addr) : Rw K H μ (.ref a) (.ref a)
  | fn (x : Str) : Rw K H μ (.ref (He.ga K x)) (.fn x)
  | tup {a : Addr} {vs : List V} {ws : List W} : TupAt K H μ a vs → RwAll K H μ vs ws → Rw K H μ (.ref a) (.tup ws)
  | lst {a : Addr} {vs : List V} {ws : List W} : LstAt H μ a vs → RwAll K H μ vs ws → Rw K H μ (.ref a) (.lst ws)
  | rol {a : Addr} {vs : List V} {ws : List W} : RolAt H μ a vs → RwAll K H μ vs ws → Rw K H μ (.ref a) (.rol ws)
  | exc {a : Addr} {c : Str} : Rw K H μ (.ref a) (.exc a none c [])
  | excf {a d : Addr} {c : Str} {fv : List (Str × V)} {fs : List (Str × W)} : H d = some (.xd fv) → μ d = none → RwF K H μ fv fs → Rw K H μ (.ref a) (.exc a (some d) c fs)
inductive RwAll (K : Frag) (H : Hp) (μ : Mu) : List V → List W → Prop
  | nil : RwAll K H μ [] []
  | cons {v : V} {vs : List V} {w : W} {ws : List W} : Rw K H μ v w → RwAll K H μ vs ws → RwAll K H μ (v :: vs) (w :: ws)
inductive RwF (K : Frag) (H : Hp) (μ : Mu) : List (Str × V) → List (Str × W) → Prop
  | nil : RwF K H μ [] []
  | cons {f : Str} {v : V} {vs : List (Str × V)} {w : W} {ws : List (Str × W)} : Rw K H μ v w → RwF K H μ vs ws → RwF K H μ ((f, v) :: vs) ((f, w) :: ws)
end
/-- from (μ, H) to (μ', H'): what was there and not tracked stands and is not tracked -/
structure Stp (μ : Mu) (H : Hp) (μ' : Mu) (H' : Hp) : Prop where
  st : ∀ a o, H a = some o → μ a = none → H' a = some o ∧ μ' a = none
  fz : ∀ a o u, H a = some (.frz o u) → H' a = some (.frz o u)
theorem Stp.refl (μ : Mu) (H : Hp) : Stp μ H μ H := ⟨fun _ _ h q => ⟨h, q⟩, fun _ _ _ h => h⟩
theorem Stp.trans {μ μ1 μ2 : Mu} {H H1 H2 : Hp} (a : Stp μ H μ1 H1) (b : Stp μ1 H1 μ2 H2) : Stp μ H μ2 H2 := ⟨fun c o h q => b.st c o (a.st c o h q).1 (a.st c o h q).2, fun c o u h => b.fz c o u (a.fz c o u h)⟩
/-- what is not tracked stands -/
abbrev Sto (μ : Mu) (H : Hp) (μ' : Mu) (H' : Hp) : Prop := ∀ a o, H a = some o → μ a = none → H' a = some o ∧ μ' a = none
theorem sto_rd {μ μ' : Mu} {H H' : Hp} (e : Sto μ H μ' H') {a : Addr} {u : HO} (h : Rd H a u) (q : μ a = none) : Rd H' a u ∧ μ' a = none := by
  rcases h with h | ⟨o, h⟩
  · exact ⟨.inl (e a _ h q).1, (e a _ h q).2⟩
  · exact ⟨.inr ⟨o, (e a _ h q).1⟩, (e a _ h q).2⟩
mutual
theorem Rw.sto {K : Frag} {μ μ' : Mu} {H H' : Hp} (e : Sto μ H μ' H') : ∀ {v : V} {w : W}, Rw K H μ v w → Rw K H' μ' v w
  | _, _, .non => .non
  | _, _, .bl b => .bl b
  | _, _, .int i => .int i
  | _, _, .str x => .str x
  | _, _, .ref a => .ref a
  | _, _, .fn x => .fn x
  | _, _, .tup (.inl h) hs => .tup (.inl (e _ _ h.1 h.2)) (RwAll.sto e hs)
  | _, _, .tup (.inr h) hs => .tup (.inr h) (RwAll.sto e hs)
  | _, _, .lst h hs => .lst (e _ _ h.1 h.2) (RwAll.sto e hs)
  | _, _, .rol h hs => .rol (sto_rd e h.1 h.2) (RwAll.sto e hs)
  | _, _, .exc => .exc
  | _, _, .excf h q hs => .excf (e _ _ h q).1 (e _ _ h q).2 (RwF.sto e hs)
theorem RwAll.sto {K : Frag} {μ μ' : Mu} {H H' : Hp} (e : Sto μ H μ' H') : ∀ {vs : List V} {ws : List W}, RwAll K H μ vs ws → RwAll K H' μ' vs ws
  | _, _, .nil => .nil
  | _, _, .cons h hs => .cons (Rw.sto e h) (RwAll.sto e hs)
theorem RwF.sto {K : Frag} {μ μ' : Mu} {H H' : Hp} (e : Sto μ H μ' H') : ∀ {vs : List (Str × V)} {ws : List (Str × W)}, RwF K H μ vs ws → RwF K H' μ' vs ws
  | _, _, .nil => .nil
  | _, _, .cons h hs => .cons (Rw.sto e h) (RwF.sto e hs)
end
theorem Rw.stp {K : Frag} {μ μ' : Mu} {H H' : Hp} (e : Stp μ H μ' H') {v : V} {w : W} (h : Rw K H μ v w) : Rw K H' μ' v w := h.sto e.st
theorem RwAll.stp {K : Frag} {μ μ' : Mu} {H H' : Hp} (e : Stp μ H μ' H') {v : List V} {w : List W} (h : RwAll K H μ v w) : RwAll K H' μ' v w := h.sto e.st
theorem RwF.stp {K : Frag} {μ μ' : Mu} {H H' : Hp} (e : Stp μ H μ' H') {v : List (Str × V)} {w : List (Str × W)} (h : RwF K H μ v w) : RwF K H' μ' v w := h.sto e.st
theorem RwAll.len {K : Frag} {H : Hp} {μ : Mu} : ∀ {vs : List V} {ws : List W}, RwAll K H μ vs ws → vs.length = ws.length
  | _, _, .nil => rfl
  | _, _, .cons _ hs => congrArg Nat.succ hs.len
theorem RwAll.at {K : Frag} {H : Hp} {μ : Mu} : ∀ {vs : List V} {ws : List W} (i : Nat) {w : W}, RwAll K H μ vs ws → ws[i]? = some w → ∃ v, vs[i]? = some v ∧ Rw K H μ v w
  | _, _, i, w, .nil, e => by simp at e
  | _, _, 0, w, .cons h _, e => by
    cases e
    exact ⟨_, rfl, h⟩
  | _, _, i + 1, w, .cons _ hs, e => RwAll.at i hs e
theorem RwAll.app {K : Frag} {H : Hp} {μ : Mu} : ∀ {vs us : List V} {ws xs : List W}, RwAll K H μ vs ws → RwAll K H μ us xs → RwAll K H μ (vs ++ us) (ws ++ xs)
  | _, _, _, _, .nil, g => g
  | _, _, _, _, .cons h hs, g => .cons h (RwAll.app hs g)
theorem RwAll.take {K : Frag} {H : Hp} {μ : Mu} : ∀ {vs : List V} {ws : List W} (n : Nat), RwAll K H μ vs ws → RwAll K H μ (vs.take n) (ws.take n)
  | _, _, 0, _ => .nil
  | _, _, _ + 1, .nil => .nil
  | _, _, n + 1, .cons h hs => .cons h (RwAll.take n hs)
theorem RwAll.drop {K : Frag} {H : Hp} {μ : Mu} : ∀ {vs : List V} {ws : List W} (n : Nat), RwAll K H μ vs ws → RwAll K H μ (vs.drop n) (ws.drop n)
  | _, _, 0, h => h
  | _, _, _ + 1, .nil => .nil
  | _, _, n + 1, .cons _ hs => RwAll.drop n hs
theorem RwAll.set {K : Frag} {H : Hp} {μ : Mu} {x : V} {y : W} (h : Rw K H μ x y) : ∀ {vs : List V} {ws : List W} (i : Nat), RwAll K H μ vs ws → RwAll K H μ (vs.set i x) (ws.set i y)
  | _, _, _, .nil => .nil
  | _, _, 0, .cons _ hs => .cons h hs
  | _, _, i + 1, .cons g hs => .cons g (RwAll.set h i hs)
theorem RwAll.erase {K : Frag} {H : Hp} {μ : Mu} : ∀ {vs : List V} {ws : List W} (i : Nat), RwAll K H μ vs ws → RwAll K H μ (vs.eraseIdx i) (ws.eraseIdx i)
  | _, _, _, .nil => .nil
  | _, _, 0, .cons _ hs => hs
  | _, _, i + 1, .cons g hs => .cons g (RwAll.erase i hs)
theorem RwAll.ins {K : Frag} {H : Hp} {μ : Mu} {x : V} {y : W} (h : Rw K H μ x y) : ∀ {vs : List V} {ws : List W} (i : Nat), RwAll K H μ vs ws → RwAll K H μ (vs.take i ++ x :: vs.drop i) (ws.take i ++ y :: ws.drop i) :=
  fun i r => (r.take i).app (.cons h (r.drop i))
theorem RwAll.one {K : Frag} {H : Hp} {μ : Mu} {vs : List V} {x : W} (h : RwAll K H μ vs [x]) : ∃ v, vs = [v] ∧ Rw K H μ v x := by
  cases h with
  | cons a b =>
    cases b
    exact ⟨_, rfl, a⟩
theorem RwAll.two {K : Frag} {H : Hp} {μ : Mu} {vs : List V} {x y : W} (h : RwAll K H μ vs [x, y]) : ∃ v w, vs = [v, w] ∧ Rw K H μ v x ∧ Rw K H μ w y := by
  cases h with
  | cons a b =>
    obtain ⟨w, rfl, c⟩ := RwAll.one b
    exact ⟨_, w, rfl, a, c⟩
theorem rw_ints {K : Frag} {H : Hp} {μ : Mu} : ∀ ns : List Int, RwAll K H μ (ns.map V.int) (ns.map W.int)
  | [] => .nil
  | i :: r => .cons (.int i) (rw_ints r)
theorem rw_strs {K : Frag} {H : Hp} {μ : Mu} : ∀ ns : List Str, RwAll K H μ (ns.map V.str) (ns.map W.str)
  | [] => .nil
  | i :: r => .cons (.str i) (rw_strs r)
theorem ints_of {K : Frag} {H : Hp} {μ : Mu} : ∀ {vs : List V} {ns : List Int}, RwAll K H μ vs (ns.map W.int) → vs = ns.map V.int
  | _, [], h => by
    cases h
    rfl
  | _, n :: r, h => by
    cases h with
    | cons a b =>
      cases a
      rw [ints_of b]
      rfl
theorem strs_of {K : Frag} {H : Hp} {μ : Mu} : ∀ {vs : List V} {ns : List Str}, RwAll K H μ vs (ns.map W.str) → vs = ns.map V.str
  | _, [], h => by
    cases h
    rfl
  | _, n :: r, h => by
    cases h with
    | cons a b =>
      cases a
      rw [strs_of b]
      rfl
/-- pairs with keys of any kind -/
inductive RwP (K : Frag) (H : Hp) (μ : Mu) {κ : Type} : List (κ × V) → List (κ × W) → Prop
  | nil : RwP K H μ [] []
  | cons {k : κ} {v : V} {vs : List (κ × V)} {w : W} {ws : List (κ × W)} : Rw K H μ v w → RwP K H μ vs ws → RwP K H μ ((k, v) :: vs) ((k, w) :: ws)
theorem RwP.sto {K : Frag} {μ μ' : Mu} {H H' : Hp} {κ : Type} (e : Sto μ H μ' H') : ∀ {vs : List (κ × V)} {ws : List (κ × W)}, RwP K H μ vs ws → RwP K H' μ' vs ws
  | _, _, .nil => .nil
  | _, _, .cons h hs => .cons (h.sto e) (RwP.sto e hs)
theorem RwP.stp {K : Frag} {μ μ' : Mu} {H H' : Hp} {κ : Type} (e : Stp μ H μ' H') {vs : List (κ × V)} {ws : List (κ × W)} (h : RwP K H μ vs ws) : RwP K H' μ' vs ws := h.sto e.st
theorem RwP.len {K : Frag} {H : Hp} {μ : Mu} {κ : Type} : ∀ {vs : List (κ × V)} {ws : List (κ × W)}, RwP K H μ vs ws → vs.length = ws.length
  | _, _, .nil => rfl
  | _, _, .cons _ hs => congrArg Nat.succ hs.len
theorem RwP.keys {K : Frag} {H : Hp} {μ : Mu} {κ : Type} : ∀ {vs : List (κ × V)} {ws : List (κ × W)}, RwP K H μ vs ws → vs.map (·.1) = ws.map (·.1)
  | _, _, .nil => rfl
  | _, _, .cons _ hs => congrArg _ hs.keys
def RelO (K : Frag) (H : Hp) (μ : Mu) (a : Addr) : O → Prop
  | .ls ws => ∃ vs, H a = some (.lst vs) ∧ RwAll K H μ vs ws
  | .dk kvs => ∃ kv, H a = some (.dK kv) ∧ RwP K H μ kv kvs
  | .rk kvs => ∃ o kv, H a = some (.frz o (.dK kv)) ∧ RwP K H μ kv kvs
  | .dt kvs => ∃ kv, H a = some (.dT kv) ∧ RwP K H μ kv kvs
  | .ins x fs => ∃ dx fv, H a = some (.ins (He.ga K x) dx fv) ∧ RwP K H μ fv fs
  | .tb p q => a = (He.cT K p).2 ∧ ∃ ps : Array Value, H a = some (.tbl ps) ∧ TriplesOk ps.toList ∧ ∀ (pos : Pos) (cv : Value), codeAmong pos ps.toList = some cv → ∃ c, cv = .ref c ∧ H c = some (LamX.CodeO c q) ∧ μ c = none
theorem RelO.sto {K : Frag} {μ μ' : Mu} {H H' : Hp} (e : Sto μ H μ' H') {a : Addr} {o : O} (q : H' a = H a) (h : RelO K H μ a o) : RelO K H' μ' a o := by
  cases o with
  | ls ws => exact h.imp fun vs h => ⟨q.trans h.1, h.2.sto e⟩
  | dk kvs => exact h.imp fun vs h => ⟨q.trans h.1, h.2.sto e⟩
  | rk kvs => exact h.imp fun o h => h.imp fun vs h => ⟨q.trans h.1, h.2.sto e⟩
  | dt kvs => exact h.imp fun vs h => ⟨q.trans h.1, h.2.sto e⟩
  | ins x fs => exact h.imp fun dx h => h.imp fun fv h => ⟨q.trans h.1, h.2.sto e⟩
  | tb p y =>
    obtain ⟨ea, ps, h1, h2, h3⟩ := h
    refine ⟨ea, ps, q.trans h1, h2, fun pos cv hc => ?_⟩
    obtain ⟨c, e1, e2, e3⟩ := h3 pos cv hc
    exact ⟨c, e1, e c _ e2 e3⟩
theorem RelO.stp {K : Frag} {μ μ' : Mu} {H H' : Hp} (e : Stp μ H μ' H') {a : Addr} {o : O} (q : H' a = H a) (h : RelO K H μ a o) : RelO K H' μ' a o := h.sto e.st q
theorem RelO.there {K : Frag} {H : Hp} {μ : Mu} {a : Addr} {o : O} (h : RelO K H μ a o) : ∃ u, H a = some u := by
  cases o with
  | ls ws => exact h.elim fun vs h => ⟨_, h.1⟩
  | dk kvs => exact h.elim fun vs h => ⟨_, h.1⟩
  | rk kvs => exact h.elim fun o h => h.elim fun vs h => ⟨_, h.1⟩
  | dt kvs => exact h.elim fun vs h => ⟨_, h.1⟩
  | ins x fs => exact h.elim fun dx h => h.elim fun vs h => ⟨_, h.1⟩
  | tb p y => exact h.elim fun ea h => h.elim fun ps h => ⟨_, h.1⟩
def Mem (K : Frag) (H : Hp) (μ : Mu) : Prop := ∀ a o, μ a = some o → RelO K H μ a o
theorem Mem.free {K : Frag} {H : Hp} {μ : Mu} (m : Mem K H μ) {p : Addr} (h : H p = none) : μ p = none := by
  cases q : μ p with
  | none => rfl
  | some o =>
    obtain ⟨u, hu⟩ := (m p o q).there
    rw [h] at hu
    cases hu
def mset (μ : Mu) (a : Addr) (o : O) : Mu := fun b => if b = a then some o else μ b
theorem mset_same {μ : Mu} {a : Addr} {o : O} : mset μ a o a = some o := if_pos rfl
theorem mset_ne {μ : Mu} {a b : Addr} {o : O} (h : b ≠ a) : mset μ a o b = μ b := if_neg h
theorem mset_mset {μ : Mu} {a : Addr} {o u : O} : mset (mset μ a o) a u = mset μ a u := by
  funext b
  unfold mset
  split <;> rfl
theorem mset_comm {μ : Mu} {a b : Addr} {o u : O} (h : a ≠ b) : mset (mset μ a o) b u = mset (mset μ b u) a o := by
  funext c
  unfold mset
  by_cases h1 : c = a
  · by_cases h2 : c = b
    · exact absurd (h1.symm.trans h2) h
    · rw [if_neg h2, if_pos h1, if_pos h1]
  · by_cases h2 : c = b
    · rw [if_pos h2, if_neg h1, if_pos h2]
    · rw [if_neg h2, if_neg h1, if_neg h1, if_neg h2]
/-- a new object that is not tracked -/
theorem Stp.new {μ : Mu} {H : Hp} {p : Addr} {u : HO} (h : H p = none) : Stp μ H μ (upd H p u) := ⟨fun a o q n => ⟨by rw [upd_ne (ne_of_none q h)]; exact q, n⟩, fun a o v q => by rw [upd_ne (ne_of_none q h)]; exact q⟩
theorem Stp.newT {μ : Mu} {H : Hp} {p : Addr} {u : HO} {o : O} (h : H p = none) : Stp μ H (mset μ p o) (upd H p u) := ⟨fun a x q n => ⟨by rw [upd_ne (ne_of_none q h)]; exact q, by rw [mset_ne (ne_of_none q h)]; exact n⟩, fun a o v q => by rw [upd_ne (ne_of_none q h)]; exact q⟩
/-- a tracked object is changed -/
def noFz (H : Hp) (a : Addr) : Prop := ∀ o u, H a ≠ some (.frz o u)
theorem Stp.put {μ : Mu} {H : Hp} {a : Addr} {u : HO} {o o' : O} (h : μ a = some o) (nf : noFz H a) : Stp μ H (mset μ a o') (upd H a u) := ⟨fun b x q n => by
  have ne : b ≠ a := fun e => by
    rw [e, h] at n
    cases n
  exact ⟨by rw [upd_ne ne]; exact q, by rw [mset_ne ne]; exact n⟩, fun b x v q => by
  have ne : b ≠ a := fun e => nf x v (by rw [← e]; exact q)
  rw [upd_ne ne]
  exact q⟩
theorem nf_lst {H : Hp} {a : Addr} {vs : List V} (h : H a = some (.lst vs)) : noFz H a := fun o u q => by
  rw [h] at q
  cases q
theorem nf_dk {H : Hp} {a : Addr} {vs : List (Key × V)} (h : H a = some (.dK vs)) : noFz H a := fun o u q => by
  rw [h] at q
  cases q
theorem Mem.sto {K : Frag} {H H' : Hp} {μ μ' : Mu} (m : Mem K H μ) (e : Sto μ H μ' H') (k : ∀ b o, μ' b = some o → (μ b = some o ∧ H' b = H b) ∨ RelO K H' μ' b o) : Mem K H' μ' := fun b o q => by
  rcases k b o q with ⟨q1, q2⟩ | r
  · exact (m b o q1).sto e q2
  · exact r
theorem Mem.step {K : Frag} {H H' : Hp} {μ μ' : Mu} (m : Mem K H μ) (e : Stp μ H μ' H') (k : ∀ b o, μ' b = some o → (μ b = some o ∧ H' b = H b) ∨ RelO K H' μ' b o) : Mem K H' μ' := m.sto e.st k
theorem Mem.new {K : Frag} {H : Hp} {μ : Mu} {p : Addr} {u : HO} (m : Mem K H μ) (h : H p = none) : Mem K (upd H p u) μ := m.step (Stp.new h) fun b o q => .inl ⟨q, upd_ne fun e => by
  rw [e, m.free h] at q
  cases q⟩
theorem Mem.put {K : Frag} {H : Hp} {μ : Mu} {a : Addr} {u : HO} {o : O} (m : Mem K H μ) (e : Stp μ H (mset μ a o) (upd H a u)) (r : RelO K (upd H a u) (mset μ a o) a o) : Mem K (upd H a u) (mset μ a o) := m.step e fun b x q => by
  by_cases hb : b = a
  · subst hb
    rw [mset_same] at q
    cases q
    exact .inr r
  · rw [mset_ne hb] at q
    exact .inl ⟨q, upd_ne hb⟩
/-! slots -/
def Holds (K : Frag) (H : Hp) (μ : Mu) (σ : L2.St) (ρ : Rho) : Prop := σ.length = ρ.length ∧ ∀ (i : Nat) (d : W), ρ[i]? = some (some d) → ∃ v, σ[i]? = some (some v) ∧ Rw K H μ v d
theorem Holds.sto {K : Frag} {H H' : Hp} {μ μ' : Mu} {σ : L2.St} {ρ : Rho} (e : Sto μ H μ' H') (h : Holds K H μ σ ρ) : Holds K H' μ' σ ρ :=
  ⟨h.1, fun i d q => (h.2 i d q).imp fun _ z => ⟨z.1, z.2.sto e⟩⟩
theorem Holds.stp {K : Frag} {H H' : Hp} {μ μ' : Mu} {σ : L2.St} {ρ : Rho} (e : Stp μ H μ' H') (h : Holds K H μ σ ρ) : Holds K H' μ' σ ρ := h.sto e.st
theorem Holds.put {K : Frag} {H : Hp} {μ : Mu} {σ : L2.St} {ρ : Rho} {v : V} {d : W} (i : Nat) (h : Holds K H μ σ ρ) (hv : Rw K H μ v d) : Holds K H μ (σ.set i (some v)) (ρ.set i (some d)) := by
  refine ⟨by rw [List.length_set, List.length_set, h.1], fun j e q => ?_⟩
  rw [List.getElem?_set] at q ⊢
  by_cases hij : i = j
  · subst hij
    rw [if_pos rfl] at q ⊢
    rw [h.1]
    by_cases hl : i < ρ.length
    · rw [if_pos hl] at q ⊢
      cases q
      exact ⟨v, rfl, hv⟩
    · rw [if_neg hl] at q
      cases q
  · rw [if_neg hij] at q ⊢
    exact h.2 j e q
theorem Holds.hide {K : Frag} {H : Hp} {μ : Mu} {σ : L2.St} {ρ : Rho} {v : Option V} (i : Nat) (h : Holds K H μ σ ρ) : Holds K H μ (σ.set i v) (ρ.set i none) := by
  refine ⟨by rw [List.length_set, List.length_set, h.1], fun j e q => ?_⟩
  rw [List.getElem?_set] at q ⊢
  by_cases hij : i = j
  · subst hij
    rw [if_pos rfl] at q
    split at q <;> cases q
  · rw [if_neg hij] at q ⊢
    exact h.2 j e q
theorem Holds.start {K : Frag} {H : Hp} {μ : Mu} {N : List Str} {vs : List V} {ds : List W} (h : RwAll K H μ vs ds) : Holds K H μ (L2.start N vs) (ds.map some ++ List.replicate (N.length - ds.length) none) := by
  have hl := h.len
  refine ⟨by unfold L2.start; simp [hl], fun i d q => ?_⟩
  unfold L2.start
  by_cases hi : i < ds.length
  · rw [List.getElem?_append_left (by simpa using hi), List.getElem?_map] at q
    rw [List.getElem?_append_left (by simpa [hl] using hi), List.getElem?_map]
    cases e : ds[i]? with
    | none =>
      rw [e] at q
      cases q
    | some d' =>
      rw [e] at q
      cases q
      obtain ⟨v, e1, e2⟩ := RwAll.at i h e
      exact ⟨v, by rw [e1]; rfl, e2⟩
  · rw [List.getElem?_append_right (by simpa using hi)] at q
    rw [List.getElem?_replicate] at q
    split at q <;> cases q
/-! forgetting, and lists that become values -/
mutual
inductive Fz (μ μ' : Mu) : W → W → Prop
  | same (w : W) : Fz μ μ' w w
  | lst {p : Addr} {ws us : List W} : μ p = some (.ls ws) → μ' p = none → FzAll μ μ' ws us → Fz μ μ' (.ref p) (.lst us)
  | tup {ws us : List W} : FzAll μ μ' ws us → Fz μ μ' (.tup ws) (.tup us)
  | inl {ws us : List W} : FzAll μ μ' ws us → Fz μ μ' (.lst ws) (.lst us)
inductive FzAll (μ μ' : Mu) : List W → List W → Prop
  | same (ws : List W) : FzAll μ μ' ws ws
  | cons {w u : W} {ws us : List W} : Fz μ μ' w u → FzAll μ μ' ws us → FzAll μ μ' (w :: ws) (u :: us)
end
/-- μ' holds less than μ -/
def Sub (μ' μ : Mu) : Prop := ∀ a o, μ' a = some o → μ a = some o
theorem Sub.refl (μ : Mu) : Sub μ μ := fun _ _ h => h
theorem Sub.trans {μ μ1 μ2 : Mu} (a : Sub μ2 μ1) (b : Sub μ1 μ) : Sub μ2 μ := fun c o h => b c o (a c o h)
theorem Sub.new {μ : Mu} {p : Addr} {o : O} (h : μ p = none) : Sub μ (mset μ p o) := fun a u e => by
  rw [mset_ne fun z => by
    rw [z, h] at e
    cases e]
  exact e
theorem Sub.none {μ μ' : Mu} (s : Sub μ' μ) {a : Addr} (h : μ a = none) : μ' a = none := by
  cases e : μ' a with
  | none => rfl
  | some o =>
    rw [s a o e] at h
    cases h
theorem Sub.stp {μ μ' : Mu} (s : Sub μ' μ) (H : Hp) : Stp μ H μ' H := ⟨fun _ _ h q => ⟨h, s.none q⟩, fun _ _ _ h => h⟩
theorem Sub.mem {K : Frag} {H : Hp} {μ μ' : Mu} (s : Sub μ' μ) (m : Mem K H μ) : Mem K H μ' := m.step (s.stp H) fun b o q => .inl ⟨s b o q, rfl⟩
mutual
theorem Fz.rw {K : Frag} {H : Hp} {μ μ' : Mu} (s : Sub μ' μ) (m : Mem K H μ) : ∀ {w u : W} {v : V}, Fz μ μ' w u → Rw K H μ v w → Rw K H μ' v u
  | _, _, _, .same _, h => h.stp (s.stp H)
  | _, _, _, .lst e n z, h => by
    cases h
    obtain ⟨vs, e1, e2⟩ := m _ _ e
    exact .lst ⟨e1, n⟩ (FzAll.rw s m z e2)
  | _, _, _, .tup z, h => by
    cases h with
    | tup h hs =>
      refine .tup ?_ (FzAll.rw s m z hs)
      rcases h with h | h
      · exact .inl ⟨h.1, s.none h.2⟩
      · exact .inr h
  | _, _, _, .inl z, h => by
    cases h with
    | lst h hs => exact .lst ⟨h.1, s.none h.2⟩ (FzAll.rw s m z hs)
theorem FzAll.rw {K : Frag} {H : Hp} {μ μ' : Mu} (s : Sub μ' μ) (m : Mem K H μ) : ∀ {ws us : List W} {vs : List V}, FzAll μ μ' ws us → RwAll K H μ vs ws → RwAll K H μ' vs us
  | _, _, _, .same _, h => h.stp (s.stp H)
  | _, _, _, .cons z zs, h => by
    cases h with
    | cons h hs => exact .cons (Fz.rw s m z h) (FzAll.rw s m zs hs)
end
end Q
namespace Q
open PySem L2 Evl
/-! what is asked of a value and a store; of what is raised: the class, its fields -/
abbrev Po := W → Mu → Prop
abbrev Xo := Str → List (Str × W) → Mu → Prop
abbrev FE := Rho → Mu → Po → Xo → Prop
abbrev FA := Rho → Mu → (List W → Mu → Prop) → Xo → Prop
abbrev FT := Rho → Mu → (Bool → Mu → Prop) → Xo → Prop
structure En where
  nx : Rho → Mu → Prop
  rt : Po
  bk : Rho → Mu → Prop
  ct : Rho → Mu → Prop
  ex : Rho → Xo
abbrev FS := Rho → Mu → En → Prop
inductive Pay (K : Frag) (H : Hp) (μ : Mu) : Option Addr → List (Str × W) → Prop
  | none : Pay K H μ none []
  | some {d : Addr} {fv : List (Str × V)} {fs : List (Str × W)} : H d = Option.some (.xd fv) → μ d = Option.none → RwF K H μ fv fs → fs ≠ [] → Pay K H μ (Option.some d) fs
/-- the wish of what is raised is kept -/
def XL (K : Frag) (E : XK) (μ : Mu) (H : Hp) (X : Xo) : Prop := ∀ c fs μ' d H', X c fs μ' → Stp μ H μ' H' → Mem K H' μ' → Pay K H' μ' d fs → E (.ref (He.ga K c)) d H'
theorem XL.stp {K : Frag} {E : XK} {μ μ1 : Mu} {H H1 : Hp} {X : Xo} (e : Stp μ H μ1 H1) (h : XL K E μ H X) : XL K E μ1 H1 X := fun c fs μ' d H' x e2 => h c fs μ' d H' x (e.trans e2)
def VL (K : Frag) (Q : VK) (μ : Mu) (H : Hp) (P : Po) : Prop := ∀ w μ' v H', P w μ' → Stp μ H μ' H' → Mem K H' μ' → Rw K H' μ' v w → Q v H'
def tE (K : Frag) (E : L2.St → XK) (f : FE) : TE := fun σ H Q => ∃ ρ μ P X, Holds K H μ σ ρ ∧ Mem K H μ ∧ f ρ μ P X ∧ VL K Q μ H P ∧ XL K (E σ) μ H X
def tA (K : Frag) (E : L2.St → XK) (f : FA) : TA := fun σ H Q => ∃ ρ μ P X, Holds K H μ σ ρ ∧ Mem K H μ ∧ f ρ μ P X ∧ (∀ ws μ' vs H', P ws μ' → Stp μ H μ' H' → Mem K H' μ' → RwAll K H' μ' vs ws → Q vs H') ∧ XL K (E σ) μ H X
def tT (K : Frag) (E : L2.St → XK) (f : FT) : TT := fun σ H Q => ∃ ρ μ P X, Holds K H μ σ ρ ∧ Mem K H μ ∧ f ρ μ P X ∧ (∀ b μ' H', P b μ' → Stp μ H μ' H' → Mem K H' μ' → Q b H') ∧ XL K (E σ) μ H X
structure EL (K : Frag) (E : L2.St → XK) (D : Ends) (μ : Mu) (H : Hp) (N : En) : Prop where
  nx : ∀ ρ' μ' σ' H', N.nx ρ' μ' → Stp μ H μ' H' → Mem K H' μ' → Holds K H' μ' σ' ρ' → D.nx σ' H'
  rt : VL K D.rt μ H N.rt
  bk : ∀ ρ' μ' σ' H', N.bk ρ' μ' → Stp μ H μ' H' → Mem K H' μ' → Holds K H' μ' σ' ρ' → D.bk σ' H'
  ct : ∀ ρ' μ' σ' H', N.ct ρ' μ' → Stp μ H μ' H' → Mem K H' μ' → Holds K H' μ' σ' ρ' → D.ct σ' H'
  ex : ∀ ρ' c fs μ' d σ' H', N.ex ρ' c fs μ' → Stp μ H μ' H' → Mem K H' μ' → Holds K H' μ' σ' ρ' → Pay K H' μ' d fs → E σ' (.ref (He.ga K c)) d H'
theorem EL.stp {K : Frag} {E : L2.St → XK} {D : Ends} {μ μ1 : Mu} {H H1 : Hp} {N : En} (e : Stp μ H μ1 H1) (h : EL K E D μ H N) : EL K E D μ1 H1 N :=
  ⟨fun ρ' μ' σ' H' n e2 => h.nx ρ' μ' σ' H' n (e.trans e2), fun w μ' v H' n e2 => h.rt w μ' v H' n (e.trans e2), fun ρ' μ' σ' H' n e2 => h.bk ρ' μ' σ' H' n (e.trans e2), fun ρ' μ' σ' H' n e2 => h.ct ρ' μ' σ' H' n (e.trans e2), fun ρ' c fs μ' d σ' H' n e2 => h.ex ρ' c fs μ' d σ' H' n (e.trans e2)⟩
/-- an expression at (ρ, σ) raises into the statement's wish -/
theorem EL.xl {K : Frag} {E : L2.St → XK} {D : Ends} {μ : Mu} {H : Hp} {N : En} {ρ : Rho} {σ : L2.St} (h : EL K E D μ H N) (hh : Holds K H μ σ ρ) : XL K (E σ) μ H (N.ex ρ) := fun c fs μ' d H' x e m p => h.ex ρ c fs μ' d σ H' x e m (hh.stp e) p
def tS (K : Frag) (E : L2.St → XK) (f : FS) : TS := fun D σ H => ∃ ρ μ N, Holds K H μ σ ρ ∧ Mem K H μ ∧ f ρ μ N ∧ EL K E D μ H N
/-! the judgements -/
structure QE (X : Cx) (E : L2.St → XK) (e : Expr) (f : FE) : Prop where
  pe : PE X e (tE X.K E f)
structure QA (X : Cx) (E : L2.St → XK) (es : List Expr) (f : FA) : Prop where
  pa : PA X es (tA X.K E f)
structure QT (X : Cx) (E : L2.St → XK) (e : Expr) (f : FT) : Prop where
  pt : PT X e (tT X.K E f)
structure QW (X : Cx) (E : L2.St → XK) (e : Expr) (f : FT) : Prop where
  pw : PW X e (tT X.K E f)
structure QS (X : Cx) (E : L2.St → XK) (st : Stmt) (f : FS) : Prop where
  ps : PS X st (tS X.K E f)
structure QSs (X : Cx) (E : L2.St → XK) (st : List Stmt) (f : FS) : Prop where
  pss : PSs X st (tS X.K E f)
theorem _root_.L2.PE.qimp {X : Cx} {e : Expr} {t t' : TE} (h : PE X e t) (k : ∀ σ H Q, t' σ H Q → t σ H Q) : PE X e t' := ⟨fun pins s σ H Q I q => h.run pins s σ H Q I (k σ H Q q)⟩
theorem _root_.L2.PA.qimp {X : Cx} {e : List Expr} {t t' : TA} (h : PA X e t) (k : ∀ σ H Q, t' σ H Q → t σ H Q) : PA X e t' := ⟨fun pos pins s σ H Q I q => h.run pos pins s σ H Q I (k σ H Q q)⟩
theorem _root_.L2.PT.qimp {X : Cx} {e : Expr} {t t' : TT} (h : PT X e t) (k : ∀ σ H Q, t' σ H Q → t σ H Q) : PT X e t' := ⟨fun pins s σ H Q I q => h.run pins s σ H Q I (k σ H Q q)⟩
theorem _root_.L2.PW.qimp {X : Cx} {e : Expr} {t t' : TT} (h : PW X e t) (k : ∀ σ H Q, t' σ H Q → t σ H Q) : PW X e t' := ⟨fun wh pins s σ H Q I q => h.run wh pins s σ H Q I (k σ H Q q)⟩
theorem _root_.L2.PS.qimp {X : Cx} {e : Stmt} {t t' : TS} (h : PS X e t) (k : ∀ D σ H, t' D σ H → t D σ H) : PS X e t' := ⟨fun pins s σ H D I q => h.run pins s σ H D I (k D σ H q)⟩
theorem _root_.L2.PSs.qimp {X : Cx} {e : List Stmt} {t t' : TS} (h : PSs X e t) (k : ∀ D σ H, t' D σ H → t D σ H) : PSs X e t' := ⟨fun pins s σ H D I q => h.run pins s σ H D I (k D σ H q)⟩
/-! ### names, constants -/
@[reducible] def gv : Rho → Nat → Option W
  | [], _ => none
  | x :: _, 0 => x
  | _ :: r, n + 1 => gv r n
theorem gv_get : ∀ {ρ : Rho} {i : Nat} {w : W}, gv ρ i = some w → ρ[i]? = some (some w)
  | [], _, _, h => by cases h
  | x :: r, 0, w, h => by
    have h : x = some w := h
    rw [h]
    rfl
  | x :: r, n + 1, w, h => gv_get (ρ := r) (i := n) h
@[reducible] def sv : Rho → Nat → W → Rho
  | [], _, _ => []
  | _ :: r, 0, w => some w :: r
  | x :: r, n + 1, w => x :: sv r n w
theorem sv_set : ∀ (ρ : Rho) (i : Nat) (w : W), sv ρ i w = ρ.set i (some w)
  | [], _, _ => rfl
  | x :: r, 0, w => rfl
  | x :: r, n + 1, w => congrArg (x :: ·) (sv_set r n w)
@[reducible] def hv : Rho → Nat → Rho
  | [], _ => []
  | _ :: r, 0 => none :: r
  | x :: r, n + 1 => x :: hv r n
theorem hv_set : ∀ (ρ : Rho) (i : Nat), hv ρ i = ρ.set i none
  | [], _ => rfl
  | x :: r, 0 => rfl
  | x :: r, n + 1 => congrArg (x :: ·) (hv_set r n)
theorem Holds.sv {K : Frag} {H : Hp} {μ : Mu} {σ : L2.St} {ρ : Rho} {v : V} {d : W} (i : Nat) (h : Holds K H μ σ ρ) (hv : Rw K H μ v d) : Holds K H μ (σ.set i (some v)) (Q.sv ρ i d) := by
  rw [sv_set]
  exact h.put i hv
@[reducible] def eV (i : Nat) : FE := fun ρ μ P _ => match gv ρ i with
  | some w => P w μ
  | none => False
@[reducible] def eC (w : W) : FE := fun _ μ P _ => P w μ
section
variable {X : Cx} {E : L2.St → XK}
theorem qe_var {i : Nat} {x : Str} {pos : Pos} (hN : X.N[i]? = some x) (hv : Vis X.env.scope x) (hd : (x == ("__debug__" : Str)) = false := by decide) (hcd : (x == ("__classdict__" : Str)) = false := by decide) : QE X E (.Name x pos) (eV i) := ⟨(pe_var hN hv hd hcd).qimp fun σ H Q h => by
  obtain ⟨ρ, μ, P, XX, hh, hm, hf, hv, hx⟩ := h
  unfold eV at hf
  split at hf
  · rename_i w e
    obtain ⟨v, e1, e2⟩ := hh.2 i w (gv_get e)
    exact ⟨v, e1, hv w μ v H hf (Stp.refl μ H) hm e2⟩
  · exact hf.elim⟩
theorem qe_of {e : Expr} {v : V} {w : W} (h : PE X e (tC v)) (r : ∀ H μ, Rw X.K H μ v w) : QE X E e (eC w) := ⟨h.qimp fun σ H Q h => by
  obtain ⟨ρ, μ, P, XX, hh, hm, hf, hv, hx⟩ := h
  exact hv w μ v H hf (Stp.refl μ H) hm (r H μ)⟩
theorem qe_int {i j pos} : QE X E (.Constant (.int i) j pos) (eC (.int i)) := qe_of pe_int fun _ _ => .int i
theorem qe_bl {i j pos} : QE X E (.Constant (.bool i) j pos) (eC (.bl i)) := qe_of pe_bl fun _ _ => .bl i
theorem qe_non {j pos} : QE X E (.Constant .none j pos) (eC .non) := qe_of pe_non fun _ _ => .non
theorem qe_str {x j pos} : QE X E (.Constant (.str x) j pos) (eC (.str x)) := qe_of pe_str fun _ _ => .str x
/-- a number that the module names -/
theorem qe_gint {i : Int} {x : Str} {pos : Pos} (hg : Gl X x) (h : ∃ t, X.mg x = some (.int i t)) (hdb : (x == ("__debug__" : Str)) = false := by decide) : QE X E (.Name x pos) (eC (.int i)) := qe_of (v := .int i) (pe_glob hg h.choose_spec ⟨_, rfl⟩ hdb) fun _ _ => .int i
/-! ### operations -/
abbrev F2 := W → W → Mu → Po → Prop
abbrev F1 := W → Mu → Po → Prop
@[reducible] def eOp (o : F2) (a b : FE) : FE := fun ρ μ P X => a ρ μ (fun x μ1 => b ρ μ1 (fun y μ2 => o x y μ2 P) X) X
@[reducible] def eUn (o : F1) (a : FE) : FE := fun ρ μ P X => a ρ μ (fun x μ1 => o x μ1 P) X
def rW (K : Frag) (o : F2) : R2 := fun x y H Q => ∃ wx wy μ P, Rw K H μ x wx ∧ Rw K H μ y wy ∧ Mem K H μ ∧ o wx wy μ P ∧ VL K Q μ H P
def rW1 (K : Frag) (o : F1) : V → Hp → VK → Prop := fun x H Q => ∃ wx μ P, Rw K H μ x wx ∧ Mem K H μ ∧ o wx μ P ∧ VL K Q μ H P
theorem opR_imp {X : Cx} {f : Value → Value → Sem Value} {r r' : R2} (h : OpR X f r) (k : ∀ x y H Q, r' x y H Q → r x y H Q) : OpR X f r' := fun pins s σ H x y v u Q I rx ry q => h pins s σ H x y v u Q I rx ry (k x y H Q q)
theorem unR_imp {X : Cx} {f : Value → Sem Value} {r r' : V → Hp → VK → Prop} (h : UnR X f r) (k : ∀ x H Q, r' x H Q → r x H Q) : UnR X f r' := fun pins s σ H x v Q I rx q => h pins s σ H x v Q I rx (k x H Q q)
theorem tE_two {K : Frag} {r : R2} {o : F2} {fa fb : FE} (hr : ∀ x y H Q, rW K o x y H Q → r x y H Q) {σ : L2.St} {H : Hp} {Q : VK} (h : tE K E (eOp o fa fb) σ H Q) : tOp r (tE K E fa) (tE K E fb) σ H Q := by
  obtain ⟨ρ, μ, P, XX, hh, hm, hf, hv, hx⟩ := h
  exact ⟨ρ, μ, _, XX, hh, hm, hf, fun x μ1 v H1 p1 e1 m1 r1 => ⟨ρ, μ1, _, XX, hh.stp e1, m1, p1, fun y μ2 u H2 p2 e2 m2 r2 => hr v u H2 Q ⟨x, y, μ2, P, r1.stp e2, r2, m2, p2, fun w μ' v' H' p e => hv w μ' v' H' p ((e1.trans e2).trans e)⟩, hx.stp e1⟩, hx⟩
theorem qe_op {op : Operator} {o : F2} {a b : Expr} {fa fb : FE} {pos : Pos} (ho : OpR X (binaryOp op) (rW X.K o)) (ha : QE X E a fa) (hb : QE X E b fb) : QE X E (.BinOp a op b pos) (eOp o fa fb) :=
  ⟨(pe_op ho ha.pe hb.pe).qimp fun σ H Q h => tE_two (fun _ _ _ _ h => h) h⟩
theorem qe_un {op : UnaryOp} {o : F1} {a : Expr} {fa : FE} {pos : Pos} (ho : UnR X (unaryOp op) (rW1 X.K o)) (ha : QE X E a fa) : QE X E (.UnaryOp op a pos) (eUn o fa) := ⟨(pe_un ho ha.pe).qimp fun σ H Q h => by
  obtain ⟨ρ, μ, P, XX, hh, hm, hf, hv, hx⟩ := h
  exact ⟨ρ, μ, _, XX, hh, hm, hf, fun x μ1 v H1 p1 e1 m1 r1 => ⟨x, μ1, P, r1, m1, p1, fun w μ' v' H' p e => hv w μ' v' H' p (e1.trans e)⟩, hx⟩⟩
theorem qe_cmp {op : CmpOp} {o : F2} {a b : Expr} {fa fb : FE} {pos : Pos} (ho : OpR X (compareOp op) (rW X.K o)) (ha : QE X E a fa) (hb : QE X E b fb) (hm : behindInMarks op b = false) : QE X E (.Compare a [op] [b] pos) (eOp o fa fb) :=
  ⟨(pe_cmpR ho ha.pe hb.pe hm).qimp fun σ H Q h => tE_two (fun _ _ _ _ h => h) h⟩
/-! tests -/
@[reducible] def wT (w : W) (k : Bool → Prop) : Prop := match w with
  | .bl b => k b
  | _ => False
@[reducible] def cV (a : FE) : FT := fun ρ μ P X => a ρ μ (fun w μ1 => wT w fun b => P b μ1) X
@[reducible] def cAnd (a b : FT) : FT := fun ρ μ P X => a ρ μ (fun c μ1 => if c = true then b ρ μ1 P X else P false μ1) X
@[reducible] def cOr (a b : FT) : FT := fun ρ μ P X => a ρ μ (fun c μ1 => if c = true then P true μ1 else b ρ μ1 P X) X
@[reducible] def cNot (a : FT) : FT := fun ρ μ P X => a ρ μ (fun c μ1 => P (!c) μ1) X
theorem wT_ok {w : W} {k : Bool → Prop} (h : wT w k) : ∃ b, w = .bl b ∧ k b := by
  cases w <;> first | exact h.elim | exact ⟨_, rfl, h⟩
theorem rw_bl {K : Frag} {H : Hp} {μ : Mu} {v : V} {b : Bool} (h : Rw K H μ v (.bl b)) : v = .bl b := by
  cases h
  rfl
theorem tT_of {K : Frag} {fa : FE} {σ : L2.St} {H : Hp} {Q : Bool → Hp → Prop} (h : tT K E (cV fa) σ H Q) : tE K E fa σ H (fun x H1 => ∃ k, x = .bl k ∧ Q k H1) := by
  obtain ⟨ρ, μ, P, XX, hh, hm, hf, hv, hx⟩ := h
  exact ⟨ρ, μ, _, XX, hh, hm, hf, fun x μ1 v H1 p1 e1 m1 r1 => by
    obtain ⟨b, rfl, p⟩ := wT_ok p1
    exact ⟨b, rw_bl r1, hv b μ1 H1 p e1 m1⟩, hx⟩
theorem qt_val {e : Expr} {f : FE} (h : QE X E e f) (he : ∀ whole, isTrue e X.env whole = (do let v ← whole; standAt e.pos; holding [v] (truthy v)) := by intro _; rfl) : QT X E e (cV f) := ⟨(pt_val h.pe he).qimp fun σ H Q h => tT_of h⟩
theorem qt_cmp {op : CmpOp} {o : F2} {a b : Expr} {fa fb : FE} {pos : Pos} (ho : OpR X (compareOp op) (rW X.K o)) (ha : QE X E a fa) (hb : QE X E b fb) (hm : behindInMarks op b = false) : QT X E (.Compare a [op] [b] pos) (cV (eOp o fa fb)) :=
  ⟨(pt_cmpR ho ha.pe hb.pe hm).qimp fun σ H Q h => by
    have h2 := tT_of h
    exact tE_two (fun _ _ _ _ h => h) h2⟩
theorem QW.qt {e : Expr} {f : FT} (h : QW X E e f) : QT X E e f := ⟨h.pw.pt⟩
theorem qw_and1 {a : Expr} {f : FT} {pos : Pos} (h : QT X E a f) : QW X E (.BoolOp .And [a] pos) f := ⟨pw_and1 h.pt⟩
theorem qw_or1 {a : Expr} {f : FT} {pos : Pos} (h : QT X E a f) : QW X E (.BoolOp .Or [a] pos) f := ⟨pw_or1 h.pt⟩
theorem qw_and {a b : Expr} {rest : List Expr} {fa fb : FT} {pos : Pos} (ha : QT X E a fa) (hb : QW X E (.BoolOp .And (b :: rest) pos) fb) : QW X E (.BoolOp .And (a :: b :: rest) pos) (cAnd fa fb) := ⟨(pw_and ha.pt hb.pw).qimp fun σ H Q h => by
  obtain ⟨ρ, μ, P, XX, hh, hm, hf, hv, hx⟩ := h
  refine ⟨ρ, μ, _, XX, hh, hm, hf, fun c μ1 H1 p1 e1 m1 => ?_, hx⟩
  cases c with
  | true => exact iteT ⟨ρ, μ1, P, XX, hh.stp e1, m1, (if_pos rfl).mp p1, fun b μ' H' p e => hv b μ' H' p (e1.trans e), hx.stp e1⟩
  | false => exact iteF (hv false μ1 H1 ((if_neg (by decide)).mp p1) e1 m1)⟩
theorem qw_or {a b : Expr} {rest : List Expr} {fa fb : FT} {pos : Pos} (ha : QT X E a fa) (hb : QW X E (.BoolOp .Or (b :: rest) pos) fb) : QW X E (.BoolOp .Or (a :: b :: rest) pos) (cOr fa fb) := ⟨(pw_or ha.pt hb.pw).qimp fun σ H Q h => by
  obtain ⟨ρ, μ, P, XX, hh, hm, hf, hv, hx⟩ := h
  refine ⟨ρ, μ, _, XX, hh, hm, hf, fun c μ1 H1 p1 e1 m1 => ?_, hx⟩
  cases c with
  | true => exact iteT (hv true μ1 H1 ((if_pos rfl).mp p1) e1 m1)
  | false => exact iteF ⟨ρ, μ1, P, XX, hh.stp e1, m1, (if_neg (by decide)).mp p1, fun b μ' H' p e => hv b μ' H' p (e1.trans e), hx.stp e1⟩⟩
theorem qt_not {a : Expr} {fa : FT} {pos : Pos} (ha : QT X E a fa) : QT X E (.UnaryOp .Not a pos) (cNot fa) := ⟨(pt_not ha.pt).qimp fun σ H Q h => by
  obtain ⟨ρ, μ, P, XX, hh, hm, hf, hv, hx⟩ := h
  exact ⟨ρ, μ, _, XX, hh, hm, hf, fun c μ1 H1 p1 e1 m1 => hv (!c) μ1 H1 p1 e1 m1, hx⟩⟩
/-! and, or, not as values -/
@[reducible] def eAnd (a b : FE) : FE := fun ρ μ P X => a ρ μ (fun w μ1 => wT w fun c => if c = true then b ρ μ1 P X else P (.bl false) μ1) X
@[reducible] def eOr (a b : FE) : FE := fun ρ μ P X => a ρ μ (fun w μ1 => wT w fun c => if c = true then P (.bl true) μ1 else b ρ μ1 P X) X
theorem qe_one {op : BoolOp} {a : Expr} {f : FE} {pos : Pos} (h : QE X E a f) : QE X E (.BoolOp op [a] pos) f := ⟨pe_one h.pe⟩
theorem qe_and {a b : Expr} {rest : List Expr} {fa fb : FE} {pos : Pos} (ha : QE X E a fa) (hb : QE X E (.BoolOp .And (b :: rest) pos) fb) : QE X E (.BoolOp .And (a :: b :: rest) pos) (eAnd fa fb) := ⟨(pe_and ha.pe hb.pe).qimp fun σ H Q h => by
  obtain ⟨ρ, μ, P, XX, hh, hm, hf, hv, hx⟩ := h
  refine ⟨ρ, μ, _, XX, hh, hm, hf, fun c μ1 v H1 p1 e1 m1 r1 => ?_, hx⟩
  obtain ⟨b, rfl, p⟩ := wT_ok p1
  refine ⟨b, rw_bl r1, ?_⟩
  cases b with
  | true => exact iteT ⟨ρ, μ1, P, XX, hh.stp e1, m1, (if_pos rfl).mp p, fun w μ' v H' p e => hv w μ' v H' p (e1.trans e), hx.stp e1⟩
  | false => exact iteF (hv _ μ1 _ H1 ((if_neg (by decide)).mp p) e1 m1 (.bl _))⟩
theorem qe_or {a b : Expr} {rest : List Expr} {fa fb : FE} {pos : Pos} (ha : QE X E a fa) (hb : QE X E (.BoolOp .Or (b :: rest) pos) fb) : QE X E (.BoolOp .Or (a :: b :: rest) pos) (eOr fa fb) := ⟨(pe_or ha.pe hb.pe).qimp fun σ H Q h => by
  obtain ⟨ρ, μ, P, XX, hh, hm, hf, hv, hx⟩ := h
  refine ⟨ρ, μ, _, XX, hh, hm, hf, fun c μ1 v H1 p1 e1 m1 r1 => ?_, hx⟩
  obtain ⟨b, rfl, p⟩ := wT_ok p1
  refine ⟨b, rw_bl r1, ?_⟩
  cases b with
  | true => exact iteT (hv _ μ1 _ H1 ((if_pos rfl).mp p) e1 m1 (.bl _))
  | false => exact iteF ⟨ρ, μ1, P, XX, hh.stp e1, m1, (if_neg (by decide)).mp p, fun w μ' v H' p e => hv w μ' v H' p (e1.trans e), hx.stp e1⟩⟩
/-- a < b < c -/
@[reducible] def eChain (o o' : F2) (a b c : FE) : FE := fun ρ μ P X => a ρ μ (fun x μ1 => b ρ μ1 (fun y μ2 => o x y μ2 (fun z μ3 => wT z fun k => if k = true then c ρ μ3 (fun u μ4 => o' y u μ4 P) X else P (.bl false) μ3)) X) X
theorem tE_chain {K : Frag} {o o' : F2} {fa fb fc : FE} {σ : L2.St} {H : Hp} {Q : VK} (h : tE K E (eChain o o' fa fb fc) σ H Q) : tChain (rW K o) (rW K o') (tE K E fa) (tE K E fb) (tE K E fc) σ H Q := by
  obtain ⟨ρ, μ, P, XX, hh, hm, hf, hv, hx⟩ := h
  refine ⟨ρ, μ, _, XX, hh, hm, hf, fun x μ1 v H1 p1 e1 m1 r1 => ⟨ρ, μ1, _, XX, hh.stp e1, m1, p1, fun y μ2 u H2 p2 e2 m2 r2 => ⟨x, y, μ2, _, r1.stp e2, r2, m2, p2, fun z μ3 v3 H3 p3 e3 m3 r3 => ?_⟩, hx.stp e1⟩, hx⟩
  obtain ⟨b, rfl, p⟩ := wT_ok p3
  refine ⟨b, rw_bl r3, ?_⟩
  have e13 := (e1.trans e2).trans e3
  cases b with
  | true => exact iteT ⟨ρ, μ3, _, XX, hh.stp e13, m3, (if_pos rfl).mp p, fun w μ4 v4 H4 p4 e4 m4 r4 => ⟨y, w, μ4, P, r2.stp (e3.trans e4), r4, m4, p4, fun w μ' v' H' p e => hv w μ' v' H' p ((e13.trans e4).trans e)⟩, hx.stp e13⟩
  | false => exact iteF (hv _ μ3 _ H3 ((if_neg (by decide)).mp p) e13 m3 (.bl _))
/-! ### arguments, tuples, lists -/
@[reducible] def aNil : FA := fun _ μ P _ => P [] μ
@[reducible] def aCons (a : FE) (r : FA) : FA := fun ρ μ P X => a ρ μ (fun w μ1 => r ρ μ1 (fun ws μ2 => P (w :: ws) μ2) X) X
theorem qa_nil : QA X E [] aNil := ⟨(pa_nil (X := X)).qimp fun σ H Q h => by
  obtain ⟨ρ, μ, P, XX, hh, hm, hf, hv, hx⟩ := h
  exact hv [] μ [] H hf (Stp.refl μ H) hm .nil⟩
theorem qa_cons {e : Expr} {es : List Expr} {fa : FE} {fr : FA} (ha : QE X E e fa) (hr : QA X E es fr) (hs : starEach (e :: es) X.env = (false, eval e X.env) :: starEach es X.env := by rfl) : QA X E (e :: es) (aCons fa fr) := ⟨(pa_cons ha.pe hr.pa hs).qimp fun σ H Q h => by
  obtain ⟨ρ, μ, P, XX, hh, hm, hf, hv, hx⟩ := h
  exact ⟨ρ, μ, _, XX, hh, hm, hf, fun x μ1 v H1 p1 e1 m1 r1 => ⟨ρ, μ1, _, XX, hh.stp e1, m1, p1, fun ws μ2 vs H2 p2 e2 m2 r2 => hv _ μ2 _ H2 p2 (e1.trans e2) m2 (.cons (r1.stp e2) r2), hx.stp e1⟩, hx⟩⟩
@[reducible] def eTup (a : FA) : FE := fun ρ μ P X => a ρ μ (fun ws μ1 => ws.length ≤ 100000 ∧ P (.tup ws) μ1) X
/-- [a, b]: a value (V), or tracked (R) -/
@[reducible] def eLV (a : FA) : FE := fun ρ μ P X => a ρ μ (fun ws μ1 => ws.length ≤ 100000 ∧ P (.lst ws) μ1) X
@[reducible] def eLR (a : FA) : FE := fun ρ μ P X => a ρ μ (fun ws μ1 => ws.length ≤ 100000 ∧ ∀ p, μ1 p = none → P (.ref p) (mset μ1 p (.ls ws))) X
theorem sz_of2 {n m : Nat} (h : n ≤ 100000) (e : m = n) : m ≤ sizeLine := by
  rw [e]
  exact sz_of h
theorem new_tup {K : Frag} {H : Hp} {μ : Mu} {p : Addr} {vs : List V} {ws : List W} (m : Mem K H μ) (hp : H p = none) (r : RwAll K H μ vs ws) : Rw K (upd H p (.tup vs)) μ (.ref p) (.tup ws) := .tup (.inl ⟨upd_same, m.free hp⟩) (r.stp (Stp.new hp))
theorem new_lst {K : Frag} {H : Hp} {μ : Mu} {p : Addr} {vs : List V} {ws : List W} (m : Mem K H μ) (hp : H p = none) (r : RwAll K H μ vs ws) : Rw K (upd H p (.lst vs)) μ (.ref p) (.lst ws) := .lst ⟨upd_same, m.free hp⟩ (r.stp (Stp.new hp))
theorem new_ls {K : Frag} {H : Hp} {μ : Mu} {p : Addr} {vs : List V} {ws : List W} (m : Mem K H μ) (hp : H p = none) (r : RwAll K H μ vs ws) : Mem K (upd H p (.lst vs)) (mset μ p (.ls ws)) := m.put (Stp.newT hp) ⟨vs, upd_same, r.stp (Stp.newT hp)⟩
theorem qe_tup {es : List Expr} {f : FA} {x1} {pos : Pos} (h : QA X E es f) : QE X E (.Tuple es x1 pos) (eTup f) := ⟨(pe_tup h.pa).qimp fun σ H Q h => by
  obtain ⟨ρ, μ, P, XX, hh, hm, hf, hv, hx⟩ := h
  exact ⟨ρ, μ, _, XX, hh, hm, hf, fun ws μ1 vs H1 p1 e1 m1 r1 => ⟨sz_of2 p1.1 r1.len, fun p hp => hv _ μ1 _ _ p1.2 (e1.trans (Stp.new hp)) (m1.new hp) (new_tup m1 hp r1)⟩, hx⟩⟩
theorem qe_lV {es : List Expr} {f : FA} {pos : Pos} (h : QA X E es f) : QE X E (.List es pos) (eLV f) := ⟨(pe_lst h.pa).qimp fun σ H Q h => by
  obtain ⟨ρ, μ, P, XX, hh, hm, hf, hv, hx⟩ := h
  exact ⟨ρ, μ, _, XX, hh, hm, hf, fun ws μ1 vs H1 p1 e1 m1 r1 => ⟨sz_of2 p1.1 r1.len, fun p hp => hv _ μ1 _ _ p1.2 (e1.trans (Stp.new hp)) (m1.new hp) (new_lst m1 hp r1)⟩, hx⟩⟩
theorem qe_lR {es : List Expr} {f : FA} {pos : Pos} (h : QA X E es f) : QE X E (.List es pos) (eLR f) := ⟨(pe_lst h.pa).qimp fun σ H Q h => by
  obtain ⟨ρ, μ, P, XX, hh, hm, hf, hv, hx⟩ := h
  exact ⟨ρ, μ, _, XX, hh, hm, hf, fun ws μ1 vs H1 p1 e1 m1 r1 => ⟨sz_of2 p1.1 r1.len, fun p hp => hv _ _ _ _ (p1.2 p (m1.free hp)) (e1.trans (Stp.newT hp)) (new_ls m1 hp r1) (.ref p)⟩, hx⟩⟩
end
/-! ### statements -/
@[reducible] def sNx : FS := fun ρ μ N => N.nx ρ μ
@[reducible] def sSeq (a b : FS) : FS := fun ρ μ N => a ρ μ { N with nx := fun ρ' μ' => b ρ' μ' N }
@[reducible] def sEx (e : FE) : FS := fun ρ μ N => e ρ μ (fun _ μ1 => N.nx ρ μ1) (N.ex ρ)
@[reducible] def sRt (e : FE) : FS := fun ρ μ N => e ρ μ (fun w μ1 => N.rt w μ1) (N.ex ρ)
@[reducible] def sIf (c : FT) (a b : FS) : FS := fun ρ μ N => c ρ μ (fun d μ1 => if d = true then a ρ μ1 N else b ρ μ1 N) (N.ex ρ)
@[reducible] def sSet (i : Nat) (e : FE) : FS := fun ρ μ N => e ρ μ (fun w μ1 => N.nx (sv ρ i w) μ1) (N.ex ρ)
section
variable {X : Cx} {E : L2.St → XK}
theorem qss_nil : QSs X E [] sNx := ⟨(pss_nil (X := X)).qimp fun D σ H h => by
  obtain ⟨ρ, μ, N, hh, hm, hf, l⟩ := h
  exact l.nx ρ μ σ H hf (Stp.refl μ H) hm hh⟩
theorem qss_one {st : Stmt} {f : FS} (h : QS X E st f) : QSs X E [st] f := ⟨pss_one h.ps⟩
theorem EL.seq {K : Frag} {D : Ends} {μ : Mu} {H : Hp} {N : En} {t : FS} {nx : Rho → Mu → Prop} (l : EL K E D μ H N) (h : ∀ ρ' μ', nx ρ' μ' → t ρ' μ' N) : EL K E { D with nx := tS K E t D } μ H { N with nx := nx } :=
  ⟨fun ρ' μ' σ' H' n e m hh => ⟨ρ', μ', N, hh, m, h ρ' μ' n, l.stp e⟩, l.rt, l.bk, l.ct, l.ex⟩
theorem qss_cons {st : Stmt} {r : List Stmt} {f g : FS} (h : QS X E st f) (hr : QSs X E r g) : QSs X E (st :: r) (sSeq f g) := ⟨(pss_cons h.ps hr.pss).qimp fun D σ H h => by
  obtain ⟨ρ, μ, N, hh, hm, hf, l⟩ := h
  exact ⟨ρ, μ, _, hh, hm, hf, l.seq fun _ _ n => n⟩⟩
theorem qs_expr {e : Expr} {f : FE} {pos : Pos} (h : QE X E e f) (hs : swapsWith e none pos.line X.env = pure false := by rfl) : QS X E (.Expr e pos) (sEx f) := ⟨(ps_expr h.pe hs).qimp fun D σ H h => by
  obtain ⟨ρ, μ, N, hh, hm, hf, l⟩ := h
  exact ⟨ρ, μ, _, _, hh, hm, hf, fun w μ1 v H1 p1 e1 m1 r1 => l.nx ρ μ1 σ H1 p1 e1 m1 (hh.stp e1), l.xl hh⟩⟩
theorem qs_ret {e : Expr} {f : FE} {pos : Pos} (h : QE X E e f) : QS X E (.Return (some e) pos) (sRt f) := ⟨(ps_ret h.pe).qimp fun D σ H h => by
  obtain ⟨ρ, μ, N, hh, hm, hf, l⟩ := h
  exact ⟨ρ, μ, _, _, hh, hm, hf, fun w μ1 v H1 p1 e1 m1 r1 => l.rt w μ1 v H1 p1 e1 m1 r1, l.xl hh⟩⟩
theorem qs_if {c : Expr} {a b : List Stmt} {fc : FT} {fa fb : FS} {pos : Pos} (hc : QT X E c fc) (ha : QSs X E a fa) (hb : QSs X E b fb) : QS X E (.If c a b pos) (sIf fc fa fb) := ⟨(ps_if hc.pt ha.pss hb.pss).qimp fun D σ H h => by
  obtain ⟨ρ, μ, N, hh, hm, hf, l⟩ := h
  refine ⟨ρ, μ, _, _, hh, hm, hf, fun d μ1 H1 p1 e1 m1 => ?_, l.xl hh⟩
  cases d with
  | true => exact iteT ⟨ρ, μ1, N, hh.stp e1, m1, (if_pos rfl).mp p1, l.stp e1⟩
  | false => exact iteF ⟨ρ, μ1, N, hh.stp e1, m1, (if_neg (by decide)).mp p1, l.stp e1⟩⟩
theorem qs_set {i : Nat} {x : Str} {e : Expr} {f : FE} {pos pos' : Pos} (hN : X.N.Nodup) (hi : X.N[i]? = some x) (hx : Loc X.env.scope x) (h : QE X E e f) (hs : swapsWith e (some (.Name x pos')) pos.line X.env = pure false := by rfl) (hf : X.fn x = true ∨ X.env.scope.names.lookup x = some .local := by first | exact .inl rfl | exact .inr rfl | assumption) :
    QS X E (.Assign [.Name x pos'] e pos) (sSet i f) := ⟨(ps_set hN hi hx h.pe hs hf).qimp fun D σ H h => by
  obtain ⟨ρ, μ, N, hh, hm, hf, l⟩ := h
  exact ⟨ρ, μ, _, _, hh, hm, hf, fun w μ1 v H1 p1 e1 m1 r1 => l.nx _ μ1 _ H1 p1 e1 m1 ((hh.stp e1).sv i r1), l.xl hh⟩⟩
/-! targets -/
abbrev FG := W → Rho → Mu → (Rho → Mu → Prop) → Prop
abbrev FGs := List W → Rho → Mu → (Rho → Mu → Prop) → Prop
def tGt (K : Frag) (g : FG) : TG := fun v σ H Q => ∃ w ρ μ P, Rw K H μ v w ∧ Holds K H μ σ ρ ∧ Mem K H μ ∧ g w ρ μ P ∧ ∀ ρ' μ' σ' H', P ρ' μ' → Stp μ H μ' H' → Mem K H' μ' → Holds K H' μ' σ' ρ' → Q σ' H'
def tGts (K : Frag) (g : FGs) : TGs := fun vs σ H Q => ∃ ws ρ μ P, RwAll K H μ vs ws ∧ Holds K H μ σ ρ ∧ Mem K H μ ∧ g ws ρ μ P ∧ ∀ ρ' μ' σ' H', P ρ' μ' → Stp μ H μ' H' → Mem K H' μ' → Holds K H' μ' σ' ρ' → Q σ' H'
structure QG (X : Cx) (e : Expr) (g : FG) : Prop where
  pg : PG X e (tGt X.K g)
structure QGs (X : Cx) (es : List Expr) (g : FGs) : Prop where
  pgs : PGs X es (tGts X.K g)
@[reducible] def gN (i : Nat) : FG := fun w ρ μ P => P (sv ρ i w) μ
@[reducible] def gsNil : FGs := fun ws ρ μ P => match ws with
  | [] => P ρ μ
  | _ => False
@[reducible] def gsCons (g : FG) (r : FGs) : FGs := fun ws ρ μ P => match ws with
  | w :: us => g w ρ μ fun ρ' μ' => r us ρ' μ' P
  | [] => False
@[reducible] def gT (n : Nat) (r : FGs) : FG := fun w ρ μ P => match w with
  | .tup ws => ws.length = n ∧ r ws ρ μ P
  | _ => False
theorem _root_.L2.PG.qimp {X : Cx} {e : Expr} {t t' : TG} (h : PG X e t) (k : ∀ v σ H Q, t' v σ H Q → t v σ H Q) : PG X e t' := ⟨fun pins s σ H v u Q I r q => h.run pins s σ H v u Q I r (k v σ H Q q)⟩
theorem _root_.L2.PGs.qimp {X : Cx} {e : List Expr} {t t' : TGs} (h : PGs X e t) (k : ∀ v σ H Q, t' v σ H Q → t v σ H Q) : PGs X e t' := ⟨fun pins s σ H v u Q I r q => h.run pins s σ H v u Q I r (k v σ H Q q)⟩
theorem qg_name {i : Nat} {x : Str} {pos : Pos} (hN : X.N.Nodup) (hi : X.N[i]? = some x) (hx : Loc X.env.scope x) (hf : X.fn x = true ∨ X.env.scope.names.lookup x = some .local := by first | exact .inl rfl | exact .inr rfl | assumption) : QG X (.Name x pos) (gN i) := ⟨(pg_name hN hi hx hf).qimp fun v σ H Q h => by
  obtain ⟨w, ρ, μ, P, r, hh, hm, hg, q⟩ := h
  exact q _ μ _ H hg (Stp.refl μ H) hm (hh.sv i r)⟩
theorem qgs_nil : QGs X [] gsNil := ⟨(pgs_nil (X := X)).qimp fun vs σ H Q h => by
  obtain ⟨ws, ρ, μ, P, r, hh, hm, hg, q⟩ := h
  cases r with
  | nil => exact ⟨rfl, q ρ μ σ H hg (Stp.refl μ H) hm hh⟩
  | cons _ _ => exact hg.elim⟩
theorem qgs_cons {e : Expr} {es : List Expr} {g : FG} {r : FGs} (h1 : QG X e g) (h2 : QGs X es r)
    (hs : (assignEach (e :: es) X.env).map (·.2) = assign e X.env :: (assignEach es X.env).map (·.2) := by rfl) : QGs X (e :: es) (gsCons g r) := ⟨(pgs_cons h1.pg h2.pgs hs).qimp fun vs σ H Q h => by
  obtain ⟨ws, ρ, μ, P, r, hh, hm, hg, q⟩ := h
  cases r with
  | nil => exact hg.elim
  | @cons v vr w wr r rr => exact ⟨v, vr, rfl, w, ρ, μ, _, r, hh, hm, hg, fun ρ1 μ1 σ1 H1 p1 e1 m1 h1 => ⟨wr, ρ1, μ1, P, rr.stp e1, h1, m1, p1, fun ρ' μ' σ' H' p e => q ρ' μ' σ' H' p (e1.trans e)⟩⟩⟩
theorem tup_sq {K : Frag} {H : Hp} {μ : Mu} {a : Addr} {vs : List V} (h : TupAt K H μ a vs) : SqT K H a vs := by
  rcases h with h | h
  · exact .inl (.inl h.1)
  · exact .inr h
theorem qg_tup {es : List Expr} {k : Nat} {g : FGs} {n : Nat} {pos : Pos} (hc : X.calm = true) (h : QGs X es g)
    (hn : (assignEach es X.env).length = n := by rfl) (hst : (assignEach es X.env).findIdx? (·.1) = none := by rfl) : QG X (.Tuple es k pos) (gT n g) := ⟨(pg_tup hc h.pgs hn hst).qimp fun v σ H Q h => by
  obtain ⟨w, ρ, μ, P, r, hh, hm, hg, q⟩ := h
  cases r with
  | tup hq hs => exact ⟨_, _, rfl, tup_sq hq, hs.len.trans hg.1, _, ρ, μ, P, hs, hh, hm, hg.2, q⟩
  | _ => exact hg.elim⟩
@[reducible] def sAsg (e : FE) (g : FG) : FS := fun ρ μ N => e ρ μ (fun w μ1 => g w ρ μ1 N.nx) (N.ex ρ)
theorem qs_asg {tg e : Expr} {f : FE} {g : FG} {pos : Pos} (he : QE X E e f) (hg : QG X tg g) (hs : swapsWithSole [tg] e pos.line X.env = pure false := by rfl) (hw : swappedStores [tg] e X.env = pure none := by rfl)
    (h1 : (assignEach [tg] X.env).map (·.2) = [assign tg X.env] := by rfl) : QS X E (.Assign [tg] e pos) (sAsg f g) := ⟨(ps_asg he.pe hg.pg hs hw h1).qimp fun D σ H h => by
  obtain ⟨ρ, μ, N, hh, hm, hf, l⟩ := h
  exact ⟨ρ, μ, _, _, hh, hm, hf, fun w μ1 v H1 p1 e1 m1 r1 => ⟨w, ρ, μ1, _, r1, hh.stp e1, m1, p1, fun ρ' μ' σ' H' p e => l.nx ρ' μ' σ' H' p (e1.trans e)⟩, l.xl hh⟩⟩
end
end Q
namespace Q
open PySem L2 Evl
/-! == and != of data: atoms, tuples, lists, nested -/
mutual
def eqW : W → W → Bool
  | .non, .non => true
  | .bl a, .bl b => a == b
  | .bl a, .int j => (if a then 1 else 0) == j
  | .int i, .bl b => i == (if b then 1 else 0)
  | .int i, .int j => i == j
  | .str x, .str y => x == y
  | .tup xs, .tup ys => eqWs xs ys
  | .lst xs, .lst ys => eqWs xs ys
  | _, _ => false
def eqWs : List W → List W → Bool
  | [], [] => true
  | x :: xs, y :: ys => eqW x y && eqWs xs ys
  | _, _ => false
end
mutual
/-- data of at most n levels -/
def isD : Nat → W → Bool
  | _, .non | _, .bl _ | _, .int _ | _, .str _ => true
  | 0, _ => false
  | n + 1, .tup ws => isDs n ws
  | n + 1, .lst ws => isDs n ws
  | _, _ => false
def isDs : Nat → List W → Bool
  | _, [] => true
  | n, w :: ws => isD n w && isDs n ws
end
mutual
inductive Dq (K : Frag) (H : Hp) : V → W → Prop
  | non : Dq K H .non .non
  | bl (b : Bool) : Dq K H (.bl b) (.bl b)
  | int (i : Int) : Dq K H (.int i) (.int i)
  | str (x : Str) : Dq K H (.str x) (.str x)
  | tup {a : Addr} {vs : List V} {ws : List W} : SqT K H a vs → DqAll K H vs ws → Dq K H (.ref a) (.tup ws)
  | lst {a : Addr} {vs : List V} {ws : List W} : SqL K H a vs → DqAll K H vs ws → Dq K H (.ref a) (.lst ws)
inductive DqAll (K : Frag) (H : Hp) : List V → List W → Prop
  | nil : DqAll K H [] []
  | cons {v : V} {vs : List V} {w : W} {ws : List W} : Dq K H v w → DqAll K H vs ws → DqAll K H (v :: vs) (w :: ws)
end
mutual
theorem dq_of {K : Frag} {H : Hp} {μ : Mu} : ∀ {n : Nat} {v : V} {w : W}, Rw K H μ v w → isD n w = true → Dq K H v w
  | _, _, _, .non, _ => .non
  | _, _, _, .bl b, _ => .bl b
  | _, _, _, .int i, _ => .int i
  | _, _, _, .str x, _ => .str x
  | 0, _, _, .tup _ _, d => by cases d
  | n + 1, _, _, .tup h hs, d => .tup (tup_sq h) (dqs_of hs d)
  | 0, _, _, .lst _ _, d => by cases d
  | n + 1, _, _, .lst h hs, d => .lst (.inl (.inl h.1)) (dqs_of hs d)
  | 0, _, _, .ref _, d => by cases d
  | n + 1, _, _, .ref _, d => by cases d
  | 0, _, _, .fn _, d => by cases d
  | n + 1, _, _, .fn _, d => by cases d
  | 0, _, _, .rol _ _, d => by cases d
  | n + 1, _, _, .rol _ _, d => by cases d
  | 0, _, _, .exc, d => by cases d
  | n + 1, _, _, .exc, d => by cases d
  | 0, _, _, .excf _ _ _, d => by cases d
  | n + 1, _, _, .excf _ _ _, d => by cases d
theorem dqs_of {K : Frag} {H : Hp} {μ : Mu} : ∀ {n : Nat} {vs : List V} {ws : List W}, RwAll K H μ vs ws → isDs n ws = true → DqAll K H vs ws
  | _, _, _, .nil, _ => .nil
  | n, _, _, .cons h hs, d => .cons (dq_of h (Bool.and_eq_true_iff.mp d).1) (dqs_of hs (Bool.and_eq_true_iff.mp d).2)
end
mutual
theorem eqW_refl : ∀ (n : Nat) (w : W), isD n w = true → eqW w w = true
  | _, .non, _ => rfl
  | _, .bl b, _ => by simp [eqW]
  | _, .int i, _ => by simp [eqW]
  | _, .str x, _ => by simp [eqW]
  | 0, .tup _, d => by cases d
  | n + 1, .tup ws, d => eqWs_refl n ws d
  | 0, .lst _, d => by cases d
  | n + 1, .lst ws, d => eqWs_refl n ws d
  | 0, .rol _, d => by cases d
  | n + 1, .rol _, d => by cases d
  | 0, .ref _, d => by cases d
  | n + 1, .ref _, d => by cases d
  | 0, .fn _, d => by cases d
  | n + 1, .fn _, d => by cases d
  | 0, .exc .., d => by cases d
  | n + 1, .exc .., d => by cases d
theorem eqWs_refl : ∀ (n : Nat) (ws : List W), isDs n ws = true → eqWs ws ws = true
  | _, [], _ => rfl
  | n, w :: ws, d => by
    have d := Bool.and_eq_true_iff.mp d
    show (eqW w w && eqWs ws ws) = true
    rw [eqW_refl n w d.1, eqWs_refl n ws d.2]
    rfl
end
theorem DqAll.len {K : Frag} {H : Hp} : ∀ {vs : List V} {ws : List W}, DqAll K H vs ws → vs.length = ws.length
  | _, _, .nil => rfl
  | _, _, .cons _ hs => congrArg Nat.succ hs.len
/-- the answers item by item -/
def eqAtW (xs ys : List W) (j : Nat) : Bool := match xs[j]?, ys[j]? with
  | some x, some y => eqW x y
  | _, _ => true
theorem eqWs_all : ∀ (xs ys : List W), eqWs xs ys = ((List.range (min xs.length ys.length)).all (eqAtW xs ys) && xs.length == ys.length)
  | [], [] => by simp [eqWs]
  | [], y :: ys => by simp [eqWs]
  | x :: xs, [] => by simp [eqWs]
  | x :: xs, y :: ys => by
    have e : min (x :: xs).length (y :: ys).length = min xs.length ys.length + 1 := by simp only [List.length_cons]; omega
    rw [e, List.range_succ_eq_map, List.all_cons, List.all_map]
    show (eqW x y && eqWs xs ys) = _
    rw [eqWs_all xs ys]
    have e2 : (eqAtW (x :: xs) (y :: ys) ∘ Nat.succ) = eqAtW xs ys := by
      funext j
      simp [eqAtW]
    rw [e2]
    simp [eqAtW, Bool.and_assoc]
section
variable {X : Cx} {pins : List (Addr × Obj)} {σ : St} {H : Hp} {s : Shared}
theorem sq_inj (I : Inv X pins σ H s) {a : Addr} {xs ys : List V} (h : SqL X.K H a xs) (h' : SqL X.K H a ys) : xs = ys := by
  rcases h with h | ⟨o, its, n, hk, hc, hd, hs, hz, r⟩
  · rcases h' with h' | ⟨o', its', n', hk', hc', hd', hs', hz', r'⟩
    · rcases h with h | ⟨q, h⟩ <;> rcases h' with h' | ⟨q', h'⟩ <;> (rw [h] at h'; first | cases h' | skip) <;> rfl
    · obtain ⟨q, hq⟩ : ∃ q, H a = some q := by
        rcases h with h | ⟨q, h⟩
        · exact ⟨_, h⟩
        · exact ⟨_, h⟩
      have k1 := I.ok.mod.kin a o' hk'
      rw [(I.bs a o' k1).2] at hq
      cases hq
  · rcases h' with h' | ⟨o', its', n', hk', hc', hd', hs', hz', r'⟩
    · obtain ⟨q, hq⟩ : ∃ q, H a = some q := by
        rcases h' with h' | ⟨q, h'⟩
        · exact ⟨_, h'⟩
        · exact ⟨_, h'⟩
      have k1 := I.ok.mod.kin a o hk
      rw [(I.bs a o k1).2] at hq
      cases hq
    · rw [hk] at hk'
      cases hk'
      rw [hs] at hs'
      cases hs'
      have f : ∀ {us : List Value} {xs ys : List V}, Vals xs us → Vals ys us → xs = ys := by
        intro us
        induction us with
        | nil =>
          intro xs ys h1 h2
          cases h1
          cases h2
          rfl
        | cons u us ih =>
          intro xs ys h1 h2
          cases h1 with
          | cons p q =>
            cases h2 with
            | cons p' q' =>
              rw [ih q q']
              congr 1
              rename_i v _ v' _
              cases v <;> cases v' <;> simp [RelV] at p p' <;> first
                | rfl
                | (subst p; simp at p'; done)
                | (obtain ⟨t, rfl⟩ := p; simp at p'; done)
                | (obtain ⟨t, rfl⟩ := p; simp at p'; rw [p'])
                | (subst p; simp at p'; rw [p'])
                | (subst p; obtain ⟨t, h⟩ := p'; cases h)
      exact f r r'
mutual
theorem dq_inj (I : Inv X pins σ H s) : ∀ {v : V} {x y : W}, Dq X.K H v x → Dq X.K H v y → x = y
  | _, _, _, .non, h => by cases h; rfl
  | _, _, _, .bl b, h => by cases h; rfl
  | _, _, _, .int i, h => by cases h; rfl
  | _, _, _, .str x, h => by cases h; rfl
  | _, _, _, .tup q hs, h => by
    cases h with
    | tup q' hs' =>
      rw [I.tuple_inj q q'] at hs
      rw [dqs_inj I hs hs']
    | lst q' hs' =>
      obtain ⟨its, r, ⟨o, e, c, n, d⟩, z⟩ := I.tuple q
      obtain ⟨its', r', ⟨o', n', e', c', d'⟩, z'⟩ := I.list q'
      rw [e] at e'
      cases e'
      exact absurd (c.symm.trans c') (by decide)
  | _, _, _, .lst q hs, h => by
    cases h with
    | lst q' hs' =>
      rw [sq_inj I q q'] at hs
      rw [dqs_inj I hs hs']
    | tup q' hs' =>
      obtain ⟨its, r, ⟨o, e, c, n, d⟩, z⟩ := I.tuple q'
      obtain ⟨its', r', ⟨o', n', e', c', d'⟩, z'⟩ := I.list q
      rw [e] at e'
      cases e'
      exact absurd (c.symm.trans c') (by decide)
theorem dqs_inj (I : Inv X pins σ H s) : ∀ {vs : List V} {xs ys : List W}, DqAll X.K H vs xs → DqAll X.K H vs ys → xs = ys
  | _, _, _, .nil, h => by cases h; rfl
  | _, _, _, .cons h hs, g => by
    cases g with
    | cons g gs => rw [dq_inj I h g, dqs_inj I hs gs]
end
theorem val_at : ∀ {vs : List V} {us : List Value} (j : Nat) (h : j < us.length), Vals vs us → ∃ v, vs[j]? = some v ∧ RelV v us[j]
  | _, _, j, h, .nil => absurd h (Nat.not_lt_zero _)
  | _, _, 0, _, .cons r _ => ⟨_, rfl, r⟩
  | _, _, j + 1, h, .cons _ t => val_at j (Nat.lt_of_succ_lt_succ h) t
theorem dq_at {K : Frag} {H : Hp} : ∀ {vs : List V} {ws : List W} {j : Nat} {v : V}, DqAll K H vs ws → vs[j]? = some v → ∃ w, ws[j]? = some w ∧ Dq K H v w
  | _, _, j, v, .nil, e => by simp at e
  | _, _, 0, v, .cons h _, e => by
    cases e
    exact ⟨_, rfl, h⟩
  | _, _, j + 1, v, .cons _ hs, e => dq_at (j := j) hs e
theorem isD_mem : ∀ {n : Nat} {ws : List W} {j : Nat} {w : W}, isDs n ws = true → ws[j]? = some w → isD n w = true
  | _, [], _, _, _, e => by simp at e
  | n, w :: ws, 0, _, d, e => by
    cases e
    exact (Bool.and_eq_true_iff.mp d).1
  | n, w :: ws, j + 1, _, d, e => isD_mem (j := j) (Bool.and_eq_true_iff.mp d).2 e
theorem atom_or (n : Nat) (w : W) (d : isD n w = true) : (w = .non ∨ (∃ b, w = .bl b) ∨ (∃ i, w = .int i) ∨ ∃ x, w = .str x) ∨ ∃ m, n = m + 1 ∧ ((∃ ws, w = .tup ws ∧ isDs m ws = true) ∨ ∃ ws, w = .lst ws ∧ isDs m ws = true) := by
  cases w with
  | non => exact .inl (.inl rfl)
  | bl b => exact .inl (.inr (.inl ⟨b, rfl⟩))
  | int i => exact .inl (.inr (.inr (.inl ⟨i, rfl⟩)))
  | str x => exact .inl (.inr (.inr (.inr ⟨x, rfl⟩)))
  | tup ws => cases n with
    | zero => cases d
    | succ m => exact .inr ⟨m, rfl, .inl ⟨ws, rfl, d⟩⟩
  | lst ws => cases n with
    | zero => cases d
    | succ m => exact .inr ⟨m, rfl, .inr ⟨ws, rfl, d⟩⟩
  | _ => cases n <;> cases d
open PySem.SeqAt in
theorem eq_atoms {K : Frag} {A : Around} {v u : V} {a b : Value} : ∀ {x y : W}, Dq K H v x → Dq K H u y → RelV v a → RelV u b → (x = .non ∨ (∃ b, x = .bl b) ∨ (∃ i, x = .int i) ∨ ∃ z, x = .str z) → (y = .non ∨ (∃ b, y = .bl b) ∨ (∃ i, y = .int i) ∨ ∃ z, y = .str z) → EqAt A s a b (eqW x y) := by
  intro x y hx hy rv ru ax ay
  rcases ax with rfl | ⟨b1, rfl⟩ | ⟨i1, rfl⟩ | ⟨x1, rfl⟩
  · cases hx
    cases rv
    rcases ay with rfl | ⟨b2, rfl⟩ | ⟨i2, rfl⟩ | ⟨x2, rfl⟩
    · cases hy
      cases ru
      show EqAt A s _ _ true
      exact EqAt.same _
    · cases hy
      cases ru
      show EqAt A s _ _ false
      exact EqAt.none_bool b2
    · cases hy
      obtain ⟨t2, rfl⟩ := ru
      show EqAt A s _ _ false
      exact EqAt.none_int i2 t2
    · cases hy
      obtain ⟨t2, rfl⟩ := ru
      show EqAt A s _ _ false
      exact EqAt.none_str x2 t2
  · cases hx
    cases rv
    rcases ay with rfl | ⟨b2, rfl⟩ | ⟨i2, rfl⟩ | ⟨x2, rfl⟩
    · cases hy
      cases ru
      show EqAt A s _ _ false
      exact EqAt.bool_none b1
    · cases hy
      cases ru
      show EqAt A s _ _ (b1 == b2)
      exact EqAt.bool_bool b1 b2
    · cases hy
      obtain ⟨t2, rfl⟩ := ru
      show EqAt A s _ _ ((if b1 then 1 else 0) == i2)
      exact EqAt.bool_int b1 i2 t2
    · cases hy
      obtain ⟨t2, rfl⟩ := ru
      show EqAt A s _ _ false
      exact EqAt.bool_str b1 x2 t2
  · cases hx
    obtain ⟨t1, rfl⟩ := rv
    rcases ay with rfl | ⟨b2, rfl⟩ | ⟨i2, rfl⟩ | ⟨x2, rfl⟩
    · cases hy
      cases ru
      show EqAt A s _ _ false
      exact EqAt.int_none i1 t1
    · cases hy
      cases ru
      show EqAt A s _ _ (i1 == (if b2 then 1 else 0))
      exact EqAt.int_bool i1 t1 b2
    · cases hy
      obtain ⟨t2, rfl⟩ := ru
      show EqAt A s _ _ (i1 == i2)
      exact EqAt.int_int i1 t1 i2 t2
    · cases hy
      obtain ⟨t2, rfl⟩ := ru
      show EqAt A s _ _ false
      exact EqAt.int_str i1 t1 x2 t2
  · cases hx
    obtain ⟨t1, rfl⟩ := rv
    rcases ay with rfl | ⟨b2, rfl⟩ | ⟨i2, rfl⟩ | ⟨x2, rfl⟩
    · cases hy
      cases ru
      show EqAt A s _ _ false
      exact EqAt.str_none x1 t1
    · cases hy
      cases ru
      show EqAt A s _ _ false
      exact EqAt.str_bool x1 t1 b2
    · cases hy
      obtain ⟨t2, rfl⟩ := ru
      show EqAt A s _ _ false
      exact EqAt.str_int x1 t1 i2 t2
    · cases hy
      obtain ⟨t2, rfl⟩ := ru
      show EqAt A s _ _ (x1 == x2)
      exact EqAt.str_str x1 t1 x2 t2
open PySem.SeqAt in
theorem eq_atom_seq {K : Frag} {A : Around} {v : V} {a : Value} {l : Addr} {its : Array Value} (hu : A.units < cLine) : ∀ {x : W}, Dq K H v x → RelV v a → (x = .non ∨ (∃ b, x = .bl b) ∨ (∃ i, x = .int i) ∨ ∃ z, x = .str z) →
    (s.heap.IsTuple l its → EqAt A s a (.ref l) false ∧ EqAt A s (.ref l) a false) ∧ (s.heap.IsList l its → EqAt A s a (.ref l) false ∧ EqAt A s (.ref l) a false) := by
  intro x hx rv ax
  rcases ax with rfl | ⟨b1, rfl⟩ | ⟨i1, rfl⟩ | ⟨x1, rfl⟩
  · cases hx
    cases rv
    exact ⟨fun t => ⟨EqAt.none_tuple t hu, EqAt.tuple_none t hu⟩, fun t => ⟨EqAt.none_list t hu, EqAt.list_none t hu⟩⟩
  · cases hx
    cases rv
    exact ⟨fun t => ⟨EqAt.bool_tuple b1 t hu, EqAt.tuple_bool b1 t hu⟩, fun t => ⟨EqAt.bool_list b1 t hu, EqAt.list_bool b1 t hu⟩⟩
  · cases hx
    obtain ⟨t1, rfl⟩ := rv
    exact ⟨fun t => ⟨EqAt.int_tuple i1 t1 t hu, EqAt.tuple_int i1 t1 t hu⟩, fun t => ⟨EqAt.int_list i1 t1 t hu, EqAt.list_int i1 t1 t hu⟩⟩
  · cases hx
    obtain ⟨t1, rfl⟩ := rv
    exact ⟨fun t => ⟨EqAt.str_tuple x1 t1 t hu, EqAt.tuple_str x1 t1 t hu⟩, fun t => ⟨EqAt.str_list x1 t1 t hu, EqAt.list_str x1 t1 t hu⟩⟩
open PySem.SeqAt in
/-- the comparison of two pieces of data within other data -/
theorem eq_at (I : Inv X pins σ H s) : ∀ (n : Nat) (x y : W) (v u : V) (a b : Value) (A : Around), Dq X.K H v x → Dq X.K H u y → isD n x = true → isD n y = true → RelV v a → RelV u b → A.units + n < cLine → EqAt A s a b (eqW x y) := by
  intro n
  induction n with
  | zero =>
    intro x y v u a b A hx hy dx dy rv ru hu
    rcases atom_or 0 x dx with hx1 | ⟨m, hm, _⟩
    · rcases atom_or 0 y dy with hy1 | ⟨m, hm, _⟩
      · exact eq_atoms hx hy rv ru hx1 hy1
      · omega
    · omega
  | succ n ih =>
    intro x y v u a b A hx hy dx dy rv ru hu
    have hu0 : A.units < cLine := by omega
    rcases atom_or (n + 1) x dx with hx1 | ⟨m, hm, hx1⟩
    · rcases atom_or (n + 1) y dy with hy1 | ⟨m', hm', hy1⟩
      · exact eq_atoms hx hy rv ru hx1 hy1
      · have e0 : eqW x y = false := by
          rcases hx1 with rfl | ⟨_, rfl⟩ | ⟨_, rfl⟩ | ⟨_, rfl⟩ <;> rcases hy1 with ⟨ws, rfl, d⟩ | ⟨ws, rfl, d⟩ <;> simp only [eqW]
        rw [e0]
        rcases hy1 with ⟨ws, rfl, d⟩ | ⟨ws, rfl, d⟩
        · cases hy with
          | tup q hs =>
            cases ru
            obtain ⟨its, r, t, z⟩ := I.tuple q
            exact ((eq_atom_seq hu0 hx rv hx1).1 t).1
        · cases hy with
          | lst q hs =>
            cases ru
            obtain ⟨its, r, t, z⟩ := I.list q
            exact ((eq_atom_seq hu0 hx rv hx1).2 t.isList).1
    · have hmn : m = n := by omega
      subst hmn
      -- two rows of data, item by item
      have each : ∀ {xs ys : List W} {vs us : List V} {as bs : List Value}, DqAll X.K H vs xs → DqAll X.K H us ys → isDs m xs = true → isDs m ys = true → Vals vs as → Vals us bs → ∀ j (h1 : j < as.toArray.size) (h2 : j < bs.toArray.size), EqAt A.in1 s as.toArray[j] bs.toArray[j] (eqAtW xs ys j) := by
        intro xs ys vs us as bs e1 e2 d1 d2 r1 r2 j h1 h2
        obtain ⟨v1, f1, g1⟩ := val_at j (by simpa using h1) r1
        obtain ⟨v2, f2, g2⟩ := val_at j (by simpa using h2) r2
        obtain ⟨w1, k1, l1⟩ := dq_at e1 f1
        obtain ⟨w2, k2, l2⟩ := dq_at e2 f2
        have := ih w1 w2 v1 v2 _ _ A.in1 l1 l2 (isD_mem d1 k1) (isD_mem d2 k2) g1 g2 (by show A.units + 1 + m < cLine; omega)
        unfold eqAtW
        rw [k1, k2]
        simpa using this
      rcases hx1 with ⟨ws, rfl, d⟩ | ⟨ws, rfl, d⟩
      · cases hx with
        | tup q hs =>
          cases rv
          obtain ⟨its, r, t, z⟩ := I.tuple q
          rcases atom_or (m + 1) y dy with hy1 | ⟨m', hm', hy1⟩
          · have e0 : eqW (.tup ws) y = false := by
              rcases hy1 with rfl | ⟨_, rfl⟩ | ⟨_, rfl⟩ | ⟨_, rfl⟩ <;> simp only [eqW]
            rw [e0]
            exact ((eq_atom_seq hu0 hy ru hy1).1 t).2
          · have hm2 : m' = m := by omega
            subst hm2
            rcases hy1 with ⟨us, rfl, d2⟩ | ⟨us, rfl, d2⟩
            · cases hy with
              | @tup a2 vs2 _ q2 hs2 =>
                cases ru
                obtain ⟨its2, r2, t2, z2⟩ := I.tuple q2
                rename_i a1 vs1
                by_cases hab : a1 = a2
                · subst hab
                  have e := dq_inj I (.tup q hs) (.tup q2 hs2)
                  rw [← e, eqW_refl (m' + 1) _ dx]
                  exact EqAt.same _
                · refine EqAt.of_refs hab ?_
                  have n1 : its.toArray.size = ws.length := by simpa using r.length.symm.trans hs.len
                  have n2 : its2.toArray.size = us.length := by simpa using r2.length.symm.trans hs2.len
                  have w0 := RcAt.tuples t t2 hu0 (each hs hs2 d d2 r r2)
                  rw [n1, n2, ← eqWs_all] at w0
                  exact w0
            · cases hy with
              | lst q2 hs2 =>
                cases ru
                obtain ⟨its2, r2, t2, z2⟩ := I.list q2
                exact EqAt.tuple_list t t2.isList hu0
      · cases hx with
        | lst q hs =>
          cases rv
          obtain ⟨its, r, t, z⟩ := I.list q
          rcases atom_or (m + 1) y dy with hy1 | ⟨m', hm', hy1⟩
          · have e0 : eqW (.lst ws) y = false := by
              rcases hy1 with rfl | ⟨_, rfl⟩ | ⟨_, rfl⟩ | ⟨_, rfl⟩ <;> simp only [eqW]
            rw [e0]
            exact ((eq_atom_seq hu0 hy ru hy1).2 t.isList).2
          · have hm2 : m' = m := by omega
            subst hm2
            rcases hy1 with ⟨us, rfl, d2⟩ | ⟨us, rfl, d2⟩
            · cases hy with
              | tup q2 hs2 =>
                cases ru
                obtain ⟨its2, r2, t2, z2⟩ := I.tuple q2
                exact EqAt.list_tuple t.isList t2 hu0
            · cases hy with
              | @lst a2 vs2 _ q2 hs2 =>
                cases ru
                obtain ⟨its2, r2, t2, z2⟩ := I.list q2
                rename_i a1 vs1
                by_cases hab : a1 = a2
                · subst hab
                  have e := dq_inj I (.lst q hs) (.lst q2 hs2)
                  rw [← e, eqW_refl (m' + 1) _ dx]
                  exact EqAt.same _
                · refine EqAt.of_refs hab ?_
                  have n1 : its.toArray.size = ws.length := by simpa using r.length.symm.trans hs.len
                  have n2 : its2.toArray.size = us.length := by simpa using r2.length.symm.trans hs2.len
                  by_cases hz : its.toArray.size = its2.toArray.size
                  · have w0 := RcAt.lists t.isList t2.isList hz hu0 (each hs hs2 d d2 r r2)
                    have e3 : eqW (.lst ws) (.lst us) = (List.range its.toArray.size).all (eqAtW ws us) := by
                      show eqWs ws us = _
                      rw [eqWs_all]
                      have e4 : ws.length = us.length := by omega
                      rw [n1, ← e4, Nat.min_self]
                      simp
                    rw [e3]
                    exact w0
                  · have e3 : eqW (.lst ws) (.lst us) = false := by
                      show eqWs ws us = _
                      rw [eqWs_all]
                      have e4 : ws.length ≠ us.length := by omega
                      simp [e4]
                    rw [e3]
                    exact RcAt.lists_lengths t.isList t2.isList (by simpa using hz) hu0
open PySem.SeqAt in
theorem rcat_atoms {K : Frag} {A : Around} {v u : V} {a b : Value} : ∀ {x y : W}, Dq K H v x → Dq K H u y → RelV v a → RelV u b → (x = .non ∨ (∃ b, x = .bl b) ∨ (∃ i, x = .int i) ∨ ∃ z, x = .str z) → (y = .non ∨ (∃ b, y = .bl b) ∨ (∃ i, y = .int i) ∨ ∃ z, y = .str z) → RcAt A s a b (eqW x y) := by
  intro x y hx hy rv ru ax ay
  rcases ax with rfl | ⟨b1, rfl⟩ | ⟨i1, rfl⟩ | ⟨x1, rfl⟩
  · cases hx
    cases rv
    rcases ay with rfl | ⟨b2, rfl⟩ | ⟨i2, rfl⟩ | ⟨x2, rfl⟩
    · cases hy
      cases ru
      show RcAt A s _ _ true
      exact RcAt.none_none
    · cases hy
      cases ru
      show RcAt A s _ _ false
      exact RcAt.none_bool b2
    · cases hy
      obtain ⟨t2, rfl⟩ := ru
      show RcAt A s _ _ false
      exact RcAt.none_int i2 t2
    · cases hy
      obtain ⟨t2, rfl⟩ := ru
      show RcAt A s _ _ false
      exact RcAt.none_str x2 t2
  · cases hx
    cases rv
    rcases ay with rfl | ⟨b2, rfl⟩ | ⟨i2, rfl⟩ | ⟨x2, rfl⟩
    · cases hy
      cases ru
      show RcAt A s _ _ false
      exact RcAt.bool_none b1
    · cases hy
      cases ru
      show RcAt A s _ _ (b1 == b2)
      exact RcAt.bool_bool b1 b2
    · cases hy
      obtain ⟨t2, rfl⟩ := ru
      show RcAt A s _ _ ((if b1 then 1 else 0) == i2)
      exact RcAt.bool_int b1 i2 t2
    · cases hy
      obtain ⟨t2, rfl⟩ := ru
      show RcAt A s _ _ false
      exact RcAt.bool_str b1 x2 t2
  · cases hx
    obtain ⟨t1, rfl⟩ := rv
    rcases ay with rfl | ⟨b2, rfl⟩ | ⟨i2, rfl⟩ | ⟨x2, rfl⟩
    · cases hy
      cases ru
      show RcAt A s _ _ false
      exact RcAt.int_none i1 t1
    · cases hy
      cases ru
      show RcAt A s _ _ (i1 == (if b2 then 1 else 0))
      exact RcAt.int_bool i1 t1 b2
    · cases hy
      obtain ⟨t2, rfl⟩ := ru
      show RcAt A s _ _ (i1 == i2)
      exact RcAt.int_int i1 t1 i2 t2
    · cases hy
      obtain ⟨t2, rfl⟩ := ru
      show RcAt A s _ _ false
      exact RcAt.int_str i1 t1 x2 t2
  · cases hx
    obtain ⟨t1, rfl⟩ := rv
    rcases ay with rfl | ⟨b2, rfl⟩ | ⟨i2, rfl⟩ | ⟨x2, rfl⟩
    · cases hy
      cases ru
      show RcAt A s _ _ false
      exact RcAt.str_none x1 t1
    · cases hy
      cases ru
      show RcAt A s _ _ false
      exact RcAt.str_bool x1 t1 b2
    · cases hy
      obtain ⟨t2, rfl⟩ := ru
      show RcAt A s _ _ false
      exact RcAt.str_int x1 t1 i2 t2
    · cases hy
      obtain ⟨t2, rfl⟩ := ru
      show RcAt A s _ _ (x1 == x2)
      exact RcAt.str_str x1 t1 x2 t2
open PySem.SeqAt in
theorem rcat_seq {K : Frag} {A : Around} {v : V} {a : Value} {l : Addr} {its : Array Value} (hu : A.units < cLine) : ∀ {x : W}, Dq K H v x → RelV v a → (x = .non ∨ (∃ b, x = .bl b) ∨ (∃ i, x = .int i) ∨ ∃ z, x = .str z) →
    (s.heap.IsTuple l its → RcAt A s a (.ref l) false ∧ RcAt A s (.ref l) a false) ∧ (s.heap.IsList l its → RcAt A s a (.ref l) false ∧ RcAt A s (.ref l) a false) := by
  intro x hx rv ax
  rcases ax with rfl | ⟨b1, rfl⟩ | ⟨i1, rfl⟩ | ⟨x1, rfl⟩
  · cases hx
    cases rv
    exact ⟨fun t => ⟨RcAt.none_tuple t hu, RcAt.tuple_none t hu⟩, fun t => ⟨RcAt.none_list t hu, RcAt.list_none t hu⟩⟩
  · cases hx
    cases rv
    exact ⟨fun t => ⟨RcAt.bool_tuple b1 t hu, RcAt.tuple_bool b1 t hu⟩, fun t => ⟨RcAt.bool_list b1 t hu, RcAt.list_bool b1 t hu⟩⟩
  · cases hx
    obtain ⟨t1, rfl⟩ := rv
    exact ⟨fun t => ⟨RcAt.int_tuple i1 t1 t hu, RcAt.tuple_int i1 t1 t hu⟩, fun t => ⟨RcAt.int_list i1 t1 t hu, RcAt.list_int i1 t1 t hu⟩⟩
  · cases hx
    obtain ⟨t1, rfl⟩ := rv
    exact ⟨fun t => ⟨RcAt.str_tuple x1 t1 t hu, RcAt.tuple_str x1 t1 t hu⟩, fun t => ⟨RcAt.str_list x1 t1 t hu, RcAt.list_str x1 t1 t hu⟩⟩
open PySem.SeqAt in
theorem rcat_top (I : Inv X pins σ H s) (n : Nat) (x y : W) (v u : V) (a b : Value) (A : Around) (hx : Dq X.K H v x) (hy : Dq X.K H u y) (dx : isD n x = true) (dy : isD n y = true) (rv : RelV v a) (ru : RelV u b) (hu : A.units + n < cLine) : RcAt A s a b (eqW x y) := by
  have hu0 : A.units < cLine := by omega
  rcases atom_or n x dx with hx1 | ⟨m, hm, hx1⟩
  · rcases atom_or n y dy with hy1 | ⟨m', hm', hy1⟩
    · exact rcat_atoms hx hy rv ru hx1 hy1
    · have e0 : eqW x y = false := by
        rcases hx1 with rfl | ⟨_, rfl⟩ | ⟨_, rfl⟩ | ⟨_, rfl⟩ <;> rcases hy1 with ⟨ws, rfl, d⟩ | ⟨ws, rfl, d⟩ <;> simp only [eqW]
      rw [e0]
      rcases hy1 with ⟨ws, rfl, d⟩ | ⟨ws, rfl, d⟩
      · cases hy with
        | tup q hs =>
          cases ru
          obtain ⟨its, r, t, z⟩ := I.tuple q
          exact ((rcat_seq hu0 hx rv hx1).1 t).1
      · cases hy with
        | lst q hs =>
          cases ru
          obtain ⟨its, r, t, z⟩ := I.list q
          exact ((rcat_seq hu0 hx rv hx1).2 t.isList).1
  · subst hm
    have each : ∀ {xs ys : List W} {vs us : List V} {as bs : List Value}, DqAll X.K H vs xs → DqAll X.K H us ys → isDs m xs = true → isDs m ys = true → Vals vs as → Vals us bs → ∀ j (h1 : j < as.toArray.size) (h2 : j < bs.toArray.size), EqAt A.in1 s as.toArray[j] bs.toArray[j] (eqAtW xs ys j) := by
      intro xs ys vs us as bs e1 e2 d1 d2 r1 r2 j h1 h2
      obtain ⟨v1, f1, g1⟩ := val_at j (by simpa using h1) r1
      obtain ⟨v2, f2, g2⟩ := val_at j (by simpa using h2) r2
      obtain ⟨w1, k1, l1⟩ := dq_at e1 f1
      obtain ⟨w2, k2, l2⟩ := dq_at e2 f2
      have := eq_at I m w1 w2 v1 v2 _ _ A.in1 l1 l2 (isD_mem d1 k1) (isD_mem d2 k2) g1 g2 (by show A.units + 1 + m < cLine; omega)
      unfold eqAtW
      rw [k1, k2]
      simpa using this
    rcases hx1 with ⟨ws, rfl, d⟩ | ⟨ws, rfl, d⟩
    · cases hx with
      | tup q hs =>
        cases rv
        obtain ⟨its, r, t, z⟩ := I.tuple q
        rcases atom_or (m + 1) y dy with hy1 | ⟨m', hm', hy1⟩
        · have e0 : eqW (.tup ws) y = false := by
            rcases hy1 with rfl | ⟨_, rfl⟩ | ⟨_, rfl⟩ | ⟨_, rfl⟩ <;> simp only [eqW]
          rw [e0]
          exact ((rcat_seq hu0 hy ru hy1).1 t).2
        · have hm2 : m' = m := by omega
          subst hm2
          rcases hy1 with ⟨us, rfl, d2⟩ | ⟨us, rfl, d2⟩
          · cases hy with
            | tup q2 hs2 =>
              cases ru
              obtain ⟨its2, r2, t2, z2⟩ := I.tuple q2
              have n1 : its.toArray.size = ws.length := by simpa using r.length.symm.trans hs.len
              have n2 : its2.toArray.size = us.length := by simpa using r2.length.symm.trans hs2.len
              have w0 := RcAt.tuples t t2 hu0 (each hs hs2 d d2 r r2)
              rw [n1, n2, ← eqWs_all] at w0
              exact w0
          · cases hy with
            | lst q2 hs2 =>
              cases ru
              obtain ⟨its2, r2, t2, z2⟩ := I.list q2
              exact RcAt.tuple_list t t2.isList hu0
    · cases hx with
      | lst q hs =>
        cases rv
        obtain ⟨its, r, t, z⟩ := I.list q
        rcases atom_or (m + 1) y dy with hy1 | ⟨m', hm', hy1⟩
        · have e0 : eqW (.lst ws) y = false := by
            rcases hy1 with rfl | ⟨_, rfl⟩ | ⟨_, rfl⟩ | ⟨_, rfl⟩ <;> simp only [eqW]
          rw [e0]
          exact ((rcat_seq hu0 hy ru hy1).2 t.isList).2
        · have hm2 : m' = m := by omega
          subst hm2
          rcases hy1 with ⟨us, rfl, d2⟩ | ⟨us, rfl, d2⟩
          · cases hy with
            | tup q2 hs2 =>
              cases ru
              obtain ⟨its2, r2, t2, z2⟩ := I.tuple q2
              exact RcAt.list_tuple t.isList t2 hu0
          · cases hy with
            | lst q2 hs2 =>
              cases ru
              obtain ⟨its2, r2, t2, z2⟩ := I.list q2
              have n1 : its.toArray.size = ws.length := by simpa using r.length.symm.trans hs.len
              have n2 : its2.toArray.size = us.length := by simpa using r2.length.symm.trans hs2.len
              by_cases hz : its.toArray.size = its2.toArray.size
              · have w0 := RcAt.lists t.isList t2.isList hz hu0 (each hs hs2 d d2 r r2)
                have e3 : eqW (.lst ws) (.lst us) = (List.range its.toArray.size).all (eqAtW ws us) := by
                  show eqWs ws us = _
                  rw [eqWs_all]
                  have e4 : ws.length = us.length := by omega
                  rw [n1, ← e4, Nat.min_self]
                  simp
                rw [e3]
                exact w0
              · have e3 : eqW (.lst ws) (.lst us) = false := by
                  show eqWs ws us = _
                  rw [eqWs_all]
                  have e4 : ws.length ≠ us.length := by omega
                  simp [e4]
                rw [e3]
                exact RcAt.lists_lengths t.isList t2.isList (by simpa using hz) hu0
open PySem.SeqAt in
theorem rcneat_atoms {K : Frag} {A : Around} {v u : V} {a b : Value} : ∀ {x y : W}, Dq K H v x → Dq K H u y → RelV v a → RelV u b → (x = .non ∨ (∃ b, x = .bl b) ∨ (∃ i, x = .int i) ∨ ∃ z, x = .str z) → (y = .non ∨ (∃ b, y = .bl b) ∨ (∃ i, y = .int i) ∨ ∃ z, y = .str z) → RcNeAt A s a b (!eqW x y) := by
  intro x y hx hy rv ru ax ay
  rcases ax with rfl | ⟨b1, rfl⟩ | ⟨i1, rfl⟩ | ⟨x1, rfl⟩
  · cases hx
    cases rv
    rcases ay with rfl | ⟨b2, rfl⟩ | ⟨i2, rfl⟩ | ⟨x2, rfl⟩
    · cases hy
      cases ru
      show RcNeAt A s _ _ false
      exact RcNeAt.none_none
    · cases hy
      cases ru
      show RcNeAt A s _ _ true
      exact RcNeAt.none_bool b2
    · cases hy
      obtain ⟨t2, rfl⟩ := ru
      show RcNeAt A s _ _ true
      exact RcNeAt.none_int i2 t2
    · cases hy
      obtain ⟨t2, rfl⟩ := ru
      show RcNeAt A s _ _ true
      exact RcNeAt.none_str x2 t2
  · cases hx
    cases rv
    rcases ay with rfl | ⟨b2, rfl⟩ | ⟨i2, rfl⟩ | ⟨x2, rfl⟩
    · cases hy
      cases ru
      show RcNeAt A s _ _ true
      exact RcNeAt.bool_none b1
    · cases hy
      cases ru
      show RcNeAt A s _ _ (!(b1 == b2))
      exact RcNeAt.bool_bool b1 b2
    · cases hy
      obtain ⟨t2, rfl⟩ := ru
      show RcNeAt A s _ _ (!((if b1 then 1 else 0) == i2))
      exact RcNeAt.bool_int b1 i2 t2
    · cases hy
      obtain ⟨t2, rfl⟩ := ru
      show RcNeAt A s _ _ true
      exact RcNeAt.bool_str b1 x2 t2
  · cases hx
    obtain ⟨t1, rfl⟩ := rv
    rcases ay with rfl | ⟨b2, rfl⟩ | ⟨i2, rfl⟩ | ⟨x2, rfl⟩
    · cases hy
      cases ru
      show RcNeAt A s _ _ true
      exact RcNeAt.int_none i1 t1
    · cases hy
      cases ru
      show RcNeAt A s _ _ (!(i1 == (if b2 then 1 else 0)))
      exact RcNeAt.int_bool i1 t1 b2
    · cases hy
      obtain ⟨t2, rfl⟩ := ru
      show RcNeAt A s _ _ (!(i1 == i2))
      exact RcNeAt.int_int i1 t1 i2 t2
    · cases hy
      obtain ⟨t2, rfl⟩ := ru
      show RcNeAt A s _ _ true
      exact RcNeAt.int_str i1 t1 x2 t2
  · cases hx
    obtain ⟨t1, rfl⟩ := rv
    rcases ay with rfl | ⟨b2, rfl⟩ | ⟨i2, rfl⟩ | ⟨x2, rfl⟩
    · cases hy
      cases ru
      show RcNeAt A s _ _ true
      exact RcNeAt.str_none x1 t1
    · cases hy
      cases ru
      show RcNeAt A s _ _ true
      exact RcNeAt.str_bool x1 t1 b2
    · cases hy
      obtain ⟨t2, rfl⟩ := ru
      show RcNeAt A s _ _ true
      exact RcNeAt.str_int x1 t1 i2 t2
    · cases hy
      obtain ⟨t2, rfl⟩ := ru
      show RcNeAt A s _ _ (!(x1 == x2))
      exact RcNeAt.str_str x1 t1 x2 t2
open PySem.SeqAt in
theorem rcneat_seq {K : Frag} {A : Around} {v : V} {a : Value} {l : Addr} {its : Array Value} (hu : A.units < cLine) : ∀ {x : W}, Dq K H v x → RelV v a → (x = .non ∨ (∃ b, x = .bl b) ∨ (∃ i, x = .int i) ∨ ∃ z, x = .str z) →
    (s.heap.IsTuple l its → RcNeAt A s a (.ref l) true ∧ RcNeAt A s (.ref l) a true) ∧ (s.heap.IsList l its → RcNeAt A s a (.ref l) true ∧ RcNeAt A s (.ref l) a true) := by
  intro x hx rv ax
  rcases ax with rfl | ⟨b1, rfl⟩ | ⟨i1, rfl⟩ | ⟨x1, rfl⟩
  · cases hx
    cases rv
    exact ⟨fun t => ⟨RcNeAt.none_tuple t hu, RcNeAt.tuple_none t hu⟩, fun t => ⟨RcNeAt.none_list t hu, RcNeAt.list_none t hu⟩⟩
  · cases hx
    cases rv
    exact ⟨fun t => ⟨RcNeAt.bool_tuple b1 t hu, RcNeAt.tuple_bool b1 t hu⟩, fun t => ⟨RcNeAt.bool_list b1 t hu, RcNeAt.list_bool b1 t hu⟩⟩
  · cases hx
    obtain ⟨t1, rfl⟩ := rv
    exact ⟨fun t => ⟨RcNeAt.int_tuple i1 t1 t hu, RcNeAt.tuple_int i1 t1 t hu⟩, fun t => ⟨RcNeAt.int_list i1 t1 t hu, RcNeAt.list_int i1 t1 t hu⟩⟩
  · cases hx
    obtain ⟨t1, rfl⟩ := rv
    exact ⟨fun t => ⟨RcNeAt.str_tuple x1 t1 t hu, RcNeAt.tuple_str x1 t1 t hu⟩, fun t => ⟨RcNeAt.str_list x1 t1 t hu, RcNeAt.list_str x1 t1 t hu⟩⟩
open PySem.SeqAt in
theorem rcneat_top (I : Inv X pins σ H s) (n : Nat) (x y : W) (v u : V) (a b : Value) (A : Around) (hx : Dq X.K H v x) (hy : Dq X.K H u y) (dx : isD n x = true) (dy : isD n y = true) (rv : RelV v a) (ru : RelV u b) (hu : A.units + n < cLine) : RcNeAt A s a b (!eqW x y) := by
  have hu0 : A.units < cLine := by omega
  rcases atom_or n x dx with hx1 | ⟨m, hm, hx1⟩
  · rcases atom_or n y dy with hy1 | ⟨m', hm', hy1⟩
    · exact rcneat_atoms hx hy rv ru hx1 hy1
    · have e0 : eqW x y = false := by
        rcases hx1 with rfl | ⟨_, rfl⟩ | ⟨_, rfl⟩ | ⟨_, rfl⟩ <;> rcases hy1 with ⟨ws, rfl, d⟩ | ⟨ws, rfl, d⟩ <;> simp only [eqW]
      rw [e0]
      rcases hy1 with ⟨ws, rfl, d⟩ | ⟨ws, rfl, d⟩
      · cases hy with
        | tup q hs =>
          cases ru
          obtain ⟨its, r, t, z⟩ := I.tuple q
          exact ((rcneat_seq hu0 hx rv hx1).1 t).1
      · cases hy with
        | lst q hs =>
          cases ru
          obtain ⟨its, r, t, z⟩ := I.list q
          exact ((rcneat_seq hu0 hx rv hx1).2 t.isList).1
  · subst hm
    have each : ∀ {xs ys : List W} {vs us : List V} {as bs : List Value}, DqAll X.K H vs xs → DqAll X.K H us ys → isDs m xs = true → isDs m ys = true → Vals vs as → Vals us bs → ∀ j (h1 : j < as.toArray.size) (h2 : j < bs.toArray.size), EqAt A.in1 s as.toArray[j] bs.toArray[j] (eqAtW xs ys j) := by
      intro xs ys vs us as bs e1 e2 d1 d2 r1 r2 j h1 h2
      obtain ⟨v1, f1, g1⟩ := val_at j (by simpa using h1) r1
      obtain ⟨v2, f2, g2⟩ := val_at j (by simpa using h2) r2
      obtain ⟨w1, k1, l1⟩ := dq_at e1 f1
      obtain ⟨w2, k2, l2⟩ := dq_at e2 f2
      have := eq_at I m w1 w2 v1 v2 _ _ A.in1 l1 l2 (isD_mem d1 k1) (isD_mem d2 k2) g1 g2 (by show A.units + 1 + m < cLine; omega)
      unfold eqAtW
      rw [k1, k2]
      simpa using this
    rcases hx1 with ⟨ws, rfl, d⟩ | ⟨ws, rfl, d⟩
    · cases hx with
      | tup q hs =>
        cases rv
        obtain ⟨its, r, t, z⟩ := I.tuple q
        rcases atom_or (m + 1) y dy with hy1 | ⟨m', hm', hy1⟩
        · have e0 : eqW (.tup ws) y = false := by
            rcases hy1 with rfl | ⟨_, rfl⟩ | ⟨_, rfl⟩ | ⟨_, rfl⟩ <;> simp only [eqW]
          rw [e0]
          exact ((rcneat_seq hu0 hy ru hy1).1 t).2
        · have hm2 : m' = m := by omega
          subst hm2
          rcases hy1 with ⟨us, rfl, d2⟩ | ⟨us, rfl, d2⟩
          · cases hy with
            | tup q2 hs2 =>
              cases ru
              obtain ⟨its2, r2, t2, z2⟩ := I.tuple q2
              have n1 : its.toArray.size = ws.length := by simpa using r.length.symm.trans hs.len
              have n2 : its2.toArray.size = us.length := by simpa using r2.length.symm.trans hs2.len
              have w0 := RcNeAt.tuples t t2 hu0 (each hs hs2 d d2 r r2)
              rw [n1, n2, ← eqWs_all] at w0
              exact w0
          · cases hy with
            | lst q2 hs2 =>
              cases ru
              obtain ⟨its2, r2, t2, z2⟩ := I.list q2
              exact RcNeAt.tuple_list t t2.isList hu0
    · cases hx with
      | lst q hs =>
        cases rv
        obtain ⟨its, r, t, z⟩ := I.list q
        rcases atom_or (m + 1) y dy with hy1 | ⟨m', hm', hy1⟩
        · have e0 : eqW (.lst ws) y = false := by
            rcases hy1 with rfl | ⟨_, rfl⟩ | ⟨_, rfl⟩ | ⟨_, rfl⟩ <;> simp only [eqW]
          rw [e0]
          exact ((rcneat_seq hu0 hy ru hy1).2 t.isList).2
        · have hm2 : m' = m := by omega
          subst hm2
          rcases hy1 with ⟨us, rfl, d2⟩ | ⟨us, rfl, d2⟩
          · cases hy with
            | tup q2 hs2 =>
              cases ru
              obtain ⟨its2, r2, t2, z2⟩ := I.tuple q2
              exact RcNeAt.list_tuple t.isList t2 hu0
          · cases hy with
            | lst q2 hs2 =>
              cases ru
              obtain ⟨its2, r2, t2, z2⟩ := I.list q2
              have n1 : its.toArray.size = ws.length := by simpa using r.length.symm.trans hs.len
              have n2 : its2.toArray.size = us.length := by simpa using r2.length.symm.trans hs2.len
              by_cases hz : its.toArray.size = its2.toArray.size
              · have w0 := RcNeAt.lists t.isList t2.isList hz hu0 (each hs hs2 d d2 r r2)
                have e3 : eqW (.lst ws) (.lst us) = (List.range its.toArray.size).all (eqAtW ws us) := by
                  show eqWs ws us = _
                  rw [eqWs_all]
                  have e4 : ws.length = us.length := by omega
                  rw [n1, ← e4, Nat.min_self]
                  simp
                rw [e3]
                exact w0
              · have e3 : eqW (.lst ws) (.lst us) = false := by
                  show eqWs ws us = _
                  rw [eqWs_all]
                  have e4 : ws.length ≠ us.length := by omega
                  simp [e4]
                rw [e3]
                exact RcNeAt.lists_lengths t.isList t2.isList (by simpa using hz) hu0
end
end Q
namespace Q
open PySem L2 Evl
/-! x in xs, data of any depth -/
theorem rel_inj {v v' : V} {u : Value} (p : RelV v u) (p' : RelV v' u) : v = v' := by
  cases v <;> cases v' <;> simp only [RelV] at p p' <;> first
    | rfl
    | (subst p; cases p'; rfl)
    | (subst p; cases p'; done)
    | (subst p; obtain ⟨t, h⟩ := p'; cases h; rfl)
    | (subst p; obtain ⟨t, h⟩ := p'; cases h; done)
    | (obtain ⟨t, rfl⟩ := p; cases p'; rfl)
    | (obtain ⟨t, rfl⟩ := p; cases p'; done)
    | (obtain ⟨t, rfl⟩ := p; obtain ⟨t', h⟩ := p'; cases h; rfl)
    | (obtain ⟨t, rfl⟩ := p; obtain ⟨t', h⟩ := p'; cases h; done)
section
variable {X : Cx} {pins : List (Addr × Obj)} {σ : St} {H : Hp} {s : Shared}
open Classical in
/-- the answer by the item itself -/
noncomputable def ansOf (K : Frag) (H : Hp) (n : Nat) (x : W) (u : Value) : Bool := decide (∃ v w, RelV v u ∧ Dq K H v w ∧ isD n w = true ∧ eqW w x = true)
open Classical in
theorem ansOf_is (I : Inv X pins σ H s) {n : Nat} {x w : W} {v : V} {u : Value} (r : RelV v u) (d : Dq X.K H v w) (k : isD n w = true) : ansOf X.K H n x u = eqW w x := by
  unfold ansOf
  by_cases h : eqW w x = true
  · rw [h]
    exact decide_eq_true ⟨v, w, r, d, k, h⟩
  · rw [Bool.not_eq_true] at h
    rw [h]
    refine decide_eq_false fun ⟨v', w', r', d', k', h'⟩ => ?_
    rw [rel_inj r' r] at d'
    rw [dq_inj I d' d, h] at h'
    cases h'
theorem any_ans (I : Inv X pins σ H s) {n : Nat} {x : W} : ∀ {vs : List V} {ws : List W} {us : List Value}, Vals vs us → DqAll X.K H vs ws → isDs n ws = true → us.any (ansOf X.K H n x) = ws.any fun w => eqW w x
  | _, _, _, .nil, h, _ => by
    cases h
    rfl
  | _, _, _, .cons r rs, h, k => by
    cases h with
    | cons d ds =>
      have k := Bool.and_eq_true_iff.mp k
      rw [List.any_cons, List.any_cons, ansOf_is I r d k.1, any_ans I rs ds k.2]
theorem mem_ans (I : Inv X pins σ H s) {A : Around} {n : Nat} {x : W} {v : V} {a : Value} (hx : Dq X.K H v x) (dx : isD n x = true) (rx : RelV v a) (hu : A.units + n < cLine) : ∀ {vs : List V} {ws : List W} {us : List Value}, Vals vs us → DqAll X.K H vs ws → isDs n ws = true → ∀ y ∈ us, SeqAt.EqAt A s y a (ansOf X.K H n x y)
  | _, _, _, .nil, _, _ => fun y hy => absurd hy List.not_mem_nil
  | _, _, _, .cons r rs, h, k => by
    cases h with
    | cons d ds =>
      have k := Bool.and_eq_true_iff.mp k
      intro y hy
      rcases List.mem_cons.mp hy with rfl | hy
      · rw [ansOf_is I r d k.1]
        exact eq_at I n _ x _ v _ a A d hx k.1 dx r rx hu
      · exact mem_ans I hx dx rx hu rs ds k.2 y hy
def rInQ (K : Frag) (neg : Bool) : R2 := fun x y H Q => ∃ (n : Nat) (p : Addr) (vs : List V) (w : W) (ws : List W), n ≤ 60 ∧ y = .ref p ∧ (SqL K H p vs ∨ SqT K H p vs) ∧ Dq K H x w ∧ isD n w = true ∧ DqAll K H vs ws ∧ isDs n ws = true ∧ Q (.bl (if neg then !(ws.any fun z => eqW z w) else ws.any fun z => eqW z w)) H
theorem op_inQ (hu : X.A.units + 64 < cLine) : OpR X (compareOp .In) (rInQ X.K false) := by
  intro pins s σ H x y v u Q I rx ry h
  obtain ⟨n, p, vs, w, ws, hn, rfl, hq, dx, kx, ds, ks, q⟩ := h
  cases ry
  rcases hq with hq | hq
  · obtain ⟨its, r, t, z⟩ := I.list hq
    refine SeqAt.in_listAt (ansOf X.K H n w) t.isList (fun y hy => mem_ans I dx kx rx (by show X.A.units + 1 + n < cLine; omega) r ds ks y (by simpa using hy)) ?_
    rw [← Array.any_toList, any_ans I r ds ks]
    exact ⟨.bl _, H, I, rfl, q⟩
  · obtain ⟨its, r, t, z⟩ := I.tuple hq
    refine SeqAt.in_tupleAt (ansOf X.K H n w) t (fun y hy => mem_ans I dx kx rx (by show X.A.units + 1 + n < cLine; omega) r ds ks y (by simpa using hy)) ?_
    rw [← Array.any_toList, any_ans I r ds ks]
    exact ⟨.bl _, H, I, rfl, q⟩
/-- x == y, x != y -/
def rEqQ (K : Frag) (neg : Bool) : R2 := fun x y H Q => ∃ (a b : W), Dq K H x a ∧ Dq K H y b ∧ isD 60 a = true ∧ isD 60 b = true ∧ Q (.bl (if neg then !eqW a b else eqW a b)) H
theorem op_eqQ (hu : X.A.units + 64 < cLine) : OpR X (compareOp .Eq) (rEqQ X.K false) := by
  intro pins s σ H x y v u Q I rx ry h
  obtain ⟨a, b, da, db, ka, kb, q⟩ := h
  exact rcat_top I 60 a b x y v u X.A da db ka kb rx ry (by omega) _ _ _ _ ⟨.bl _, H, I, rfl, q⟩
theorem op_neQ (hu : X.A.units + 64 < cLine) : OpR X (compareOp .NotEq) (rEqQ X.K true) := by
  intro pins s σ H x y v u Q I rx ry h
  obtain ⟨a, b, da, db, ka, kb, q⟩ := h
  exact rcneat_top I 60 a b x y v u X.A da db ka kb rx ry (by omega) _ _ _ _ ⟨.bl _, H, I, rfl, q⟩
end
end Q
namespace Q
open PySem L2 Evl
/-! operations on values -/
def sLt (a b : Str) : Bool := decide (a.cps.toList < b.cps.toList)
@[reducible] def rdL (μ : Mu) (w : W) : Option (List W) := match w with
  | .lst ws => some ws
  | .rol ws => some ws
  | .ref p => (match μ p with
    | some (.ls ws) => some ws
    | _ => none)
  | _ => none
/-- no script -/
@[reducible] def rdM (μ : Mu) (w : W) : Option (List W) := match w with
  | .lst ws => some ws
  | .ref p => (match μ p with
    | some (.ls ws) => some ws
    | _ => none)
  | _ => none
theorem rdL_at {K : Frag} {H : Hp} {μ : Mu} {v : V} {w : W} {ws : List W} (h : rdL μ w = some ws) (r : Rw K H μ v w) (m : Mem K H μ) : ∃ a vs, v = .ref a ∧ SqL K H a vs ∧ RwAll K H μ vs ws := by
  unfold rdL at h
  split at h
  · cases h
    cases r with
    | lst h hs => exact ⟨_, _, rfl, .inl (.inl h.1), hs⟩
  · cases h
    cases r with
    | rol h hs => exact ⟨_, _, rfl, .inl h.1, hs⟩
  · split at h
    · cases h
      rename_i e
      cases r
      obtain ⟨vs, h1, h2⟩ := m _ _ e
      exact ⟨_, vs, rfl, .inl (.inl h1), h2⟩
    · cases h
  · cases h
theorem rdM_at {K : Frag} {H : Hp} {μ : Mu} {v : V} {w : W} {ws : List W} (h : rdM μ w = some ws) (r : Rw K H μ v w) (m : Mem K H μ) : ∃ a vs, v = .ref a ∧ H a = some (.lst vs) ∧ RwAll K H μ vs ws := by
  unfold rdM at h
  split at h
  · cases h
    cases r with
    | lst h hs => exact ⟨_, _, rfl, h.1, hs⟩
  · split at h
    · cases h
      rename_i e
      cases r
      obtain ⟨vs, h1, h2⟩ := m _ _ e
      exact ⟨_, vs, rfl, h1, h2⟩
    · cases h
  · cases h
theorem big {n : Nat} (h : n ≤ 16000000) : n ≤ sizeLine := by
  rw [sizeLine_eq]
  omega
theorem biglt {n : Nat} (h : n < 16000000) : n < sizeLine := by
  rw [sizeLine_eq]
  omega
theorem VL.now {K : Frag} {Q : VK} {μ : Mu} {H : Hp} {P : Po} (l : VL K Q μ H P) {w : W} {v : V} (p : P w μ) (m : Mem K H μ) (r : Rw K H μ v w) : Q v H := l w μ v H p (Stp.refl μ H) m r
theorem VL.tup {K : Frag} {Q : VK} {μ : Mu} {H : Hp} {P : Po} (l : VL K Q μ H P) {ws : List W} {vs : List V} (p : P (.tup ws) μ) (m : Mem K H μ) (r : RwAll K H μ vs ws) {a : Addr} (ha : H a = none) : Q (.ref a) (upd H a (.tup vs)) := l _ μ _ _ p (Stp.new ha) (m.new ha) (new_tup m ha r)
theorem VL.lst {K : Frag} {Q : VK} {μ : Mu} {H : Hp} {P : Po} (l : VL K Q μ H P) {ws : List W} {vs : List V} (p : P (.lst ws) μ) (m : Mem K H μ) (r : RwAll K H μ vs ws) {a : Addr} (ha : H a = none) : Q (.ref a) (upd H a (.lst vs)) := l _ μ _ _ p (Stp.new ha) (m.new ha) (new_lst m ha r)
theorem VL.ls {K : Frag} {Q : VK} {μ : Mu} {H : Hp} {P : Po} (l : VL K Q μ H P) {ws : List W} {vs : List V} (p : ∀ p, μ p = none → P (.ref p) (mset μ p (.ls ws))) (m : Mem K H μ) (r : RwAll K H μ vs ws) {a : Addr} (ha : H a = none) : Q (.ref a) (upd H a (.lst vs)) := l _ _ _ _ (p a (m.free ha)) (Stp.newT ha) (new_ls m ha r) (.ref a)
@[reducible] def wAdd : F2 := fun x y μ P => match x with
  | .int i => (match y with
    | .int j => P (.int (i + j)) μ
    | _ => False)
  | .str a => (match y with
    | .str b => a.length + b.length ≤ 16000000 ∧ P (.str (a ++ b)) μ
    | _ => False)
  | .tup xs => (match y with
    | .tup ys => xs.length + ys.length ≤ 16000000 ∧ P (.tup (xs ++ ys)) μ
    | _ => False)
  | x => (match rdM μ x with
    | some xs => (match rdM μ y with
      | some ys => xs.length + ys.length ≤ 16000000 ∧ P (.lst (xs ++ ys)) μ
      | none => False)
    | none => False)
@[reducible] def wSub : F2 := fun x y μ P => match x, y with
  | .int i, .int j => P (.int (i - j)) μ
  | _, _ => False
def MulO (i j : Int) : Prop := CMul i j ∨ CMulW i j
theorem MulO.l {i j : Int} (h : -(2 ^ 64) < i ∧ i < 2 ^ 64 := by decide) : MulO i j := .inl (.inl h)
theorem MulO.r {i j : Int} (h : -(2 ^ 64) < j ∧ j < 2 ^ 64 := by decide) : MulO i j := .inl (.inr h)
@[reducible] def wFdv : F2 := fun x y μ P => match x, y with
  | .int i, .int j => (0 < j ∧ j < 1073741824) ∧ P (.int (i / j)) μ
  | _, _ => False
@[reducible] def wMod : F2 := fun x y μ P => match x, y with
  | .int i, .int j => 0 < j ∧ P (.int (i % j)) μ
  | _, _ => False
@[reducible] def wNeg : F1 := fun x μ P => match x with
  | .int i => P (.int (-i)) μ
  | _ => False
@[reducible] def wLt : F2 := fun x y μ P => match x with
  | .int i => (match y with
    | .int j => P (.bl (decide (i < j))) μ
    | _ => False)
  | .str a => (match y with
    | .str b => P (.bl (sLt a b)) μ
    | _ => False)
  | _ => False
@[reducible] def wLe : F2 := fun x y μ P => match x with
  | .int i => (match y with
    | .int j => P (.bl (decide (i ≤ j))) μ
    | _ => False)
  | .str a => (match y with
    | .str b => P (.bl (!sLt b a)) μ
    | _ => False)
  | _ => False
@[reducible] def wGt : F2 := fun x y μ P => match x with
  | .int i => (match y with
    | .int j => P (.bl (decide (j < i))) μ
    | _ => False)
  | .str a => (match y with
    | .str b => P (.bl (sLt b a)) μ
    | _ => False)
  | _ => False
@[reducible] def wGe : F2 := fun x y μ P => match x with
  | .int i => (match y with
    | .int j => P (.bl (decide (j ≤ i))) μ
    | _ => False)
  | .str a => (match y with
    | .str b => P (.bl (!sLt a b)) μ
    | _ => False)
  | _ => False
@[reducible] def drf (μ : Mu) (w : W) : W := match w with
  | .rol ws => .lst ws
  | .ref p => (match μ p with
    | some (.ls ws) => .lst ws
    | _ => .ref p)
  | w => w
def wEqG (neg : Bool) : F2 := fun x y μ P => isD 60 (drf μ x) = true ∧ isD 60 (drf μ y) = true ∧ P (.bl (if neg then !eqW (drf μ x) (drf μ y) else eqW (drf μ x) (drf μ y))) μ
@[reducible] def wEq : F2 := fun x y μ P => match x with
  | .int i => (match y with
    | .int j => P (.bl (decide (i = j))) μ
    | y => wEqG false (.int i) y μ P)
  | .str a => (match y with
    | .str b => P (.bl (decide (a = b))) μ
    | y => wEqG false (.str a) y μ P)
  | .bl a => (match y with
    | .bl b => P (.bl (decide (a = b))) μ
    | y => wEqG false (.bl a) y μ P)
  | x => wEqG false x y μ P
@[reducible] def wNe : F2 := fun x y μ P => match x with
  | .int i => (match y with
    | .int j => P (.bl (!decide (i = j))) μ
    | y => wEqG true (.int i) y μ P)
  | .str a => (match y with
    | .str b => P (.bl (!decide (a = b))) μ
    | y => wEqG true (.str a) y μ P)
  | .bl a => (match y with
    | .bl b => P (.bl (!decide (a = b))) μ
    | y => wEqG true (.bl a) y μ P)
  | x => wEqG true x y μ P
@[reducible] def isN (w : W) : Bool := match w with
  | .non => true
  | _ => false
@[reducible] def wIs : F2 := fun x y μ P => match y with
  | .non => P (.bl (isN x)) μ
  | .bl b => (match x with
    | .bl a => P (.bl (decide (a = b))) μ
    | _ => False)
  | _ => False
section
variable {X : Cx}
theorem rw_int {K : Frag} {H : Hp} {μ : Mu} {v : V} {i : Int} (h : Rw K H μ v (.int i)) : v = .int i := by
  cases h
  rfl
theorem rw_str {K : Frag} {H : Hp} {μ : Mu} {v : V} {i : Str} (h : Rw K H μ v (.str i)) : v = .str i := by
  cases h
  rfl
theorem opU_add : OpR X (binaryOp .Add) (rW X.K wAdd) := opR_imp (op_add.or (op_add_str.or (op_catA.or op_cat))) fun x y H Q h => by
  obtain ⟨wx, wy, μ, P, rx, ry, m, h, l⟩ := h
  unfold wAdd at h
  split at h
  · split at h
    · exact .inl ⟨_, _, rw_int rx, rw_int ry, l.now h m (.int _)⟩
    · exact h.elim
  · split at h
    · exact .inr (.inl ⟨_, _, rw_str rx, rw_str ry, big h.1, l.now h.2 m (.str _)⟩)
    · exact h.elim
  · split at h
    · cases rx with
      | tup q hs =>
        cases ry with
        | tup q2 hs2 =>
          have l1 := hs.len
          have l2 := hs2.len
          refine .inr (.inr (.inl ⟨_, _, _, _, rfl, rfl, tup_sq q, tup_sq q2, big (by omega), fun e => ?_, fun _ e => ?_, fun _ _ p hp => l.tup h.2 m (hs.app hs2) hp⟩))
          · subst e
            cases hs
            exact l.now h.2 m (.tup q2 hs2)
          · subst e
            cases hs2
            exact l.now h.2 m (.tup q (by rw [List.append_nil]; exact hs))
    · exact h.elim
  · split at h
    · rename_i xs ex
      split at h
      · rename_i ys ey
        obtain ⟨a, vs, rfl, ha, r1⟩ := rdM_at ex rx m
        obtain ⟨b, us, rfl, hb, r2⟩ := rdM_at ey ry m
        have l1 := r1.len
        have l2 := r2.len
        exact .inr (.inr (.inr ⟨a, b, vs, us, rfl, rfl, ha, hb, big (by omega), fun p hp => l.lst h.2 m (r1.app r2) hp⟩))
      · exact h.elim
    · exact h.elim
theorem opU_sub : OpR X (binaryOp .Sub) (rW X.K wSub) := opR_imp op_sub fun x y H Q h => by
  obtain ⟨wx, wy, μ, P, rx, ry, m, h, l⟩ := h
  unfold wSub at h
  split at h
  · exact ⟨_, _, rw_int rx, rw_int ry, l.now h m (.int _)⟩
  · exact h.elim
theorem opU_fdv : OpR X (binaryOp .FloorDiv) (rW X.K wFdv) := opR_imp op_fdiv fun x y H Q h => by
  obtain ⟨wx, wy, μ, P, rx, ry, m, h, l⟩ := h
  unfold wFdv at h
  split at h
  · exact ⟨_, _, rw_int rx, rw_int ry, h.1, l.now h.2 m (.int _)⟩
  · exact h.elim
theorem opU_mod : OpR X (binaryOp .Mod) (rW X.K wMod) := opR_imp op_mod fun x y H Q h => by
  obtain ⟨wx, wy, μ, P, rx, ry, m, h, l⟩ := h
  unfold wMod at h
  split at h
  · exact ⟨_, _, rw_int rx, rw_int ry, h.1, l.now h.2 m (.int _)⟩
  · exact h.elim
theorem unU_neg : UnR X (unaryOp .USub) (rW1 X.K wNeg) := unR_imp un_neg fun x H Q h => by
  obtain ⟨wx, μ, P, rx, m, h, l⟩ := h
  unfold wNeg at h
  split at h
  · exact ⟨_, rw_int rx, l.now h m (.int _)⟩
  · exact h.elim
theorem opU_lt : OpR X (compareOp .Lt) (rW X.K wLt) := opR_imp (op_lt.or op_lt_str) fun x y H Q h => by
  obtain ⟨wx, wy, μ, P, rx, ry, m, h, l⟩ := h
  unfold wLt at h
  split at h
  · split at h
    · exact .inl ⟨_, _, rw_int rx, rw_int ry, l.now h m (.bl _)⟩
    · exact h.elim
  · split at h
    · exact .inr ⟨_, _, rw_str rx, rw_str ry, l.now h m (.bl _)⟩
    · exact h.elim
  · exact h.elim
theorem opU_le : OpR X (compareOp .LtE) (rW X.K wLe) := opR_imp (op_le.or op_le_str) fun x y H Q h => by
  obtain ⟨wx, wy, μ, P, rx, ry, m, h, l⟩ := h
  unfold wLe at h
  split at h
  · split at h
    · exact .inl ⟨_, _, rw_int rx, rw_int ry, l.now h m (.bl _)⟩
    · exact h.elim
  · split at h
    · exact .inr ⟨_, _, rw_str rx, rw_str ry, l.now h m (.bl _)⟩
    · exact h.elim
  · exact h.elim
theorem opU_gt : OpR X (compareOp .Gt) (rW X.K wGt) := opR_imp (op_gt.or op_gt_str) fun x y H Q h => by
  obtain ⟨wx, wy, μ, P, rx, ry, m, h, l⟩ := h
  unfold wGt at h
  split at h
  · split at h
    · exact .inl ⟨_, _, rw_int rx, rw_int ry, l.now h m (.bl _)⟩
    · exact h.elim
  · split at h
    · exact .inr ⟨_, _, rw_str rx, rw_str ry, l.now h m (.bl _)⟩
    · exact h.elim
  · exact h.elim
theorem opU_ge : OpR X (compareOp .GtE) (rW X.K wGe) := opR_imp (op_ge.or op_ge_str) fun x y H Q h => by
  obtain ⟨wx, wy, μ, P, rx, ry, m, h, l⟩ := h
  unfold wGe at h
  split at h
  · split at h
    · exact .inl ⟨_, _, rw_int rx, rw_int ry, l.now h m (.bl _)⟩
    · exact h.elim
  · split at h
    · exact .inr ⟨_, _, rw_str rx, rw_str ry, l.now h m (.bl _)⟩
    · exact h.elim
  · exact h.elim
theorem drf_dq {K : Frag} {H : Hp} {μ : Mu} {n : Nat} {v : V} {w : W} (r : Rw K H μ v w) (m : Mem K H μ) (d : isD n (drf μ w) = true) : Dq K H v (drf μ w) := by
  cases w with
  | ref p =>
    cases r
    cases e : μ p with
    | none => simp only [drf, e] at d; cases n <;> cases d
    | some o =>
      cases o with
      | ls ws =>
        simp only [drf, e] at d ⊢
        obtain ⟨vs, h1, h2⟩ := m _ _ e
        cases n with
        | zero => cases d
        | succ n => exact .lst (.inl (.inl h1)) (dqs_of h2 d)
      | _ => simp only [drf, e] at d; cases n <;> cases d
  | rol ws =>
    cases r with
    | rol h hs => cases n with
      | zero => cases d
      | succ n => exact .lst (.inl h.1) (dqs_of hs d)
  | _ => exact dq_of r d
theorem decV_int (i j : Int) : decide (V.int i = V.int j) = decide (i = j) := by simp only [V.int.injEq]
theorem decV_str (i j : Str) : decide (V.str i = V.str j) = decide (i = j) := by simp only [V.str.injEq]
theorem decV_bl (i j : Bool) : decide (V.bl i = V.bl j) = decide (i = j) := by simp only [V.bl.injEq]
theorem eq_gen {neg : Bool} {x y : W} {μ : Mu} {P : Po} {H : Hp} {v u : V} {Q : VK} (h : wEqG neg x y μ P) (rx : Rw X.K H μ v x) (ry : Rw X.K H μ u y) (m : Mem X.K H μ) (l : VL X.K Q μ H P) : rEqQ X.K neg v u H Q :=
  ⟨_, _, drf_dq rx m h.1, drf_dq ry m h.2.1, h.1, h.2.1, l.now h.2.2 m (.bl _)⟩
theorem opU_eq (hu : X.A.units + 64 < cLine) : OpR X (compareOp .Eq) (rW X.K wEq) := opR_imp (op_eq.or (op_eqQ hu)) fun x y H Q h => by
  obtain ⟨wx, wy, μ, P, rx, ry, m, h, l⟩ := h
  unfold wEq at h
  split at h
  · split at h
    · cases rx
      cases ry
      exact .inl ⟨rfl, by rw [decV_int]; exact l.now h m (.bl _)⟩
    · exact .inr (eq_gen h rx ry m l)
  · split at h
    · cases rx
      cases ry
      exact .inl ⟨rfl, by rw [decV_str]; exact l.now h m (.bl _)⟩
    · exact .inr (eq_gen h rx ry m l)
  · split at h
    · cases rx
      cases ry
      exact .inl ⟨rfl, by rw [decV_bl]; exact l.now h m (.bl _)⟩
    · exact .inr (eq_gen h rx ry m l)
  · exact .inr (eq_gen h rx ry m l)
theorem opU_ne (hu : X.A.units + 64 < cLine) : OpR X (compareOp .NotEq) (rW X.K wNe) := opR_imp (op_ne.or (op_neQ hu)) fun x y H Q h => by
  obtain ⟨wx, wy, μ, P, rx, ry, m, h, l⟩ := h
  unfold wNe at h
  split at h
  · split at h
    · cases rx
      cases ry
      exact .inl ⟨rfl, by rw [decV_int]; exact l.now h m (.bl _)⟩
    · exact .inr (eq_gen h rx ry m l)
  · split at h
    · cases rx
      cases ry
      exact .inl ⟨rfl, by rw [decV_str]; exact l.now h m (.bl _)⟩
    · exact .inr (eq_gen h rx ry m l)
  · split at h
    · cases rx
      cases ry
      exact .inl ⟨rfl, by rw [decV_bl]; exact l.now h m (.bl _)⟩
    · exact .inr (eq_gen h rx ry m l)
  · exact .inr (eq_gen h rx ry m l)
theorem isN_rw {K : Frag} {H : Hp} {μ : Mu} {v : V} {w : W} (h : Rw K H μ v w) : decide (v = .non) = isN w := by cases h <;> rfl
theorem opU_is : OpR X (compareOp .Is) (rW X.K wIs) := opR_imp (op_isN.or op_isBl) fun x y H Q h => by
  obtain ⟨wx, wy, μ, P, rx, ry, m, h, l⟩ := h
  unfold wIs at h
  split at h
  · cases ry
    exact .inl ⟨rfl, by rw [isN_rw rx]; exact l.now h m (.bl _)⟩
  · split at h
    · cases rx
      cases ry
      exact .inr ⟨_, _, rfl, rfl, l.now h m (.bl _)⟩
    · exact h.elim
  · exact h.elim
end
/-! dicts by their keys -/
def valW {κ : Type} [DecidableEq κ] (kvs : List (κ × W)) (k : κ) : Option W := (kvs.find? fun kv => decide (kv.1 = k)).map (·.2)
def putW {κ : Type} [DecidableEq κ] (kvs : List (κ × W)) (k : κ) (v : W) : List (κ × W) :=
  if (kvs.any fun kv => decide (kv.1 = k)) = true then kvs.map (fun kv => if kv.1 = k then (kv.1, v) else kv) else kvs ++ [(k, v)]
theorem rwp_any {K : Frag} {H : Hp} {μ : Mu} {κ : Type} [DecidableEq κ] {k : κ} : ∀ {kv : List (κ × V)} {kw : List (κ × W)}, RwP K H μ kv kw → (kv.any fun p => decide (p.1 = k)) = (kw.any fun p => decide (p.1 = k))
  | _, _, .nil => rfl
  | _, _, .cons h hs => by
    rw [List.any_cons, List.any_cons, rwp_any hs]
theorem rwp_val {K : Frag} {H : Hp} {μ : Mu} {κ : Type} [DecidableEq κ] {k : κ} : ∀ {kv : List (κ × V)} {kw : List (κ × W)}, RwP K H μ kv kw → (valW kw k = none → valV kv k = none) ∧ ∀ w, valW kw k = some w → ∃ v, valV kv k = some v ∧ Rw K H μ v w
  | _, _, .nil => ⟨fun _ => rfl, fun w e => by cases e⟩
  | _, _, @RwP.cons _ _ _ _ q v vs w ws h hs => by
    unfold valW valV
    rw [List.find?_cons, List.find?_cons]
    have ih := rwp_val (k := k) hs
    unfold valW valV at ih
    cases hd : decide (q = k) with
    | true =>
      refine ⟨fun e => (by cases e), fun w' e => ?_⟩
      cases e
      exact ⟨_, rfl, h⟩
    | false => exact ih
theorem rwp_map {K : Frag} {H : Hp} {μ : Mu} {κ : Type} [DecidableEq κ] {k : κ} {x : V} {y : W} (hv : Rw K H μ x y) : ∀ {kv : List (κ × V)} {kw : List (κ × W)}, RwP K H μ kv kw → RwP K H μ (kv.map fun p => if p.1 = k then (p.1, x) else p) (kw.map fun p => if p.1 = k then (p.1, y) else p)
  | _, _, .nil => .nil
  | _, _, @RwP.cons _ _ _ _ q v vs w ws h hs => by
    rw [List.map_cons, List.map_cons]
    by_cases c : q = k
    · rw [if_pos c, if_pos c]
      exact .cons hv (rwp_map hv hs)
    · rw [if_neg c, if_neg c]
      exact .cons h (rwp_map hv hs)
theorem rwp_app {K : Frag} {H : Hp} {μ : Mu} {κ : Type} : ∀ {kv ku : List (κ × V)} {kw kz : List (κ × W)}, RwP K H μ kv kw → RwP K H μ ku kz → RwP K H μ (kv ++ ku) (kw ++ kz)
  | _, _, _, _, .nil, g => g
  | _, _, _, _, .cons h hs, g => .cons h (rwp_app hs g)
theorem rwp_put {K : Frag} {H : Hp} {μ : Mu} {κ : Type} [DecidableEq κ] {k : κ} {x : V} {y : W} (hv : Rw K H μ x y) {kv : List (κ × V)} {kw : List (κ × W)} (h : RwP K H μ kv kw) : RwP K H μ (putK kv k x) (putW kw k y) := by
  unfold putK putW
  rw [rwp_any h]
  split
  · exact rwp_map hv h
  · exact rwp_app h (.cons hv .nil)
/-- a value as a key -/
@[reducible] def kO (w : W) : Option Key := match w with
  | .int i => some (.inl i)
  | .str x => some (.inr x)
  | _ => none
theorem kO_rw {K : Frag} {H : Hp} {μ : Mu} {v : V} {w : W} {k : Key} (h : Rw K H μ v w) (e : kO w = some k) : v = kV k := by
  cases w <;> cases e <;> (cases h; rfl)
/-- what a dict holds -/
@[reducible] def rdD (μ : Mu) (w : W) : Option (List (Key × W)) := match w with
  | .ref a => (match μ a with
    | some (.dk kvs) => some kvs
    | some (.rk kvs) => some kvs
    | _ => none)
  | _ => none
theorem rdD_at {K : Frag} {H : Hp} {μ : Mu} {v : V} {w : W} {kvs : List (Key × W)} (h : rdD μ w = some kvs) (r : Rw K H μ v w) (m : Mem K H μ) : ∃ a kv, v = .ref a ∧ Rd H a (.dK kv) ∧ RwP K H μ kv kvs := by
  cases w with
  | ref a =>
    cases r
    cases e : μ a with
    | none => simp only [rdD, e] at h; cases h
    | some o =>
      cases o with
      | dk kvs' =>
        simp only [rdD, e] at h
        cases h
        obtain ⟨kv, h1, h2⟩ := m _ _ e
        exact ⟨a, kv, rfl, .inl h1, h2⟩
      | rk kvs' =>
        simp only [rdD, e] at h
        cases h
        obtain ⟨o, kv, h1, h2⟩ := m _ _ e
        exact ⟨a, kv, rfl, .inr ⟨o, h1⟩, h2⟩
      | _ => simp only [rdD, e] at h; cases h
  | _ => cases h
end Q
namespace Q
open PySem L2 Evl
/-! in, subscripts, slices, attributes -/
@[reducible] def rdS (μ : Mu) (w : W) : Option (List W) := match w with
  | .tup ws => some ws
  | w => rdL μ w
theorem rdS_at {K : Frag} {H : Hp} {μ : Mu} {v : V} {w : W} {ws : List W} (h : rdS μ w = some ws) (r : Rw K H μ v w) (m : Mem K H μ) : ∃ a vs, v = .ref a ∧ (SqL K H a vs ∨ SqT K H a vs) ∧ RwAll K H μ vs ws := by
  unfold rdS at h
  split at h
  · cases h
    cases r with
    | tup q hs => exact ⟨_, _, rfl, .inr (tup_sq q), hs⟩
  · obtain ⟨a, vs, e, q, hs⟩ := rdL_at h r m
    exact ⟨a, vs, e, .inl q, hs⟩
/-- one sign -/
@[reducible] def sg (a : Str) : Option Nat := match a.cps.toList with
  | [c] => some c
  | _ => none
theorem sg_is {a : Str} {c : Nat} (h : sg a = some c) : a = ⟨#[c]⟩ := by
  unfold sg at h
  split at h
  · rename_i c' e
    cases h
    obtain ⟨cps⟩ := a
    congr 1
    exact Array.toList_inj.mp e
  · cases h
@[reducible] def wInG (neg : Bool) : F2 := fun x y μ P => match y with
  | .str z => (match x with
    | .str a => (match sg a with
      | some c => P (.bl (if neg then !decide (c ∈ z.cps.toList) else decide (c ∈ z.cps.toList))) μ
      | none => False)
    | _ => False)
  | y => (match rdD μ y with
    | some kvs => (match kO x with
      | some k => P (.bl (if neg then !(valW kvs k).isSome else (valW kvs k).isSome)) μ
      | none => False)
    | none => (match rdS μ y with
      | some ws => isD 58 x = true ∧ isDs 58 ws = true ∧ P (.bl (if neg then !(ws.any fun z => eqW z x) else ws.any fun z => eqW z x)) μ
      | none => False))
@[reducible] def wIn : F2 := wInG false
def rDin (neg : Bool) : R2 := fun y x H Q => ∃ a o, x = .ref a ∧ DGet H a y o ∧ Q (.bl (if neg then !o.isSome else o.isSome)) H
section
variable {X : Cx}
theorem op_dIn (hu : X.A.units + 64 < cLine) : OpR X (compareOp .In) (rDin false) := by
  intro pins s σ H y x v u Q I ry rx h
  obtain ⟨a, o, rfl, g, q⟩ := h
  cases rx
  exact d_in (by omega) I g ry fun s' I' => ⟨.bl o.isSome, H, I', rfl, q⟩
theorem dget_of {K : Frag} {H : Hp} {μ : Mu} {a : Addr} {kv : List (Key × V)} {k : Key} (h : Rd H a (.dK kv)) : DGet H a (kV k) (valV kv k) := .inl ⟨kv, k, h, rfl, rfl⟩
theorem in_gen {neg : Bool} {K : Frag} {x y : V} {H : Hp} {Q : VK} (h : rW K (wInG neg) x y H Q) : (∃ (c : Nat) (z : Str), x = .str ⟨#[c]⟩ ∧ y = .str z ∧ Q (.bl (if neg then !decide (c ∈ z.cps.toList) else decide (c ∈ z.cps.toList))) H) ∨ rDin neg x y H Q ∨ rInQ K neg x y H Q := by
  obtain ⟨wx, wy, μ, P, rx, ry, m, h, l⟩ := h
  unfold wInG at h
  split at h
  · split at h
    · split at h
      · rename_i c e
        have e2 := sg_is e
        subst e2
        exact .inl ⟨c, _, rw_str rx, rw_str ry, l.now h m (.bl _)⟩
      · exact h.elim
    · exact h.elim
  · split at h
    · rename_i kvs e
      obtain ⟨a, kv, rfl, hd, r⟩ := rdD_at e ry m
      split at h
      · rename_i k ek
        have ex := kO_rw rx ek
        subst ex
        refine .inr (.inl ⟨a, _, rfl, dget_of (K := K) (μ := μ) hd, ?_⟩)
        have e3 : (valV kv k).isSome = (valW kvs k).isSome := by
          cases f : valW kvs k with
          | none => rw [(rwp_val r).1 f] <;> rfl
          | some w =>
            obtain ⟨u, f1, _⟩ := (rwp_val r).2 w f
            rw [f1] <;> rfl
        rw [e3]
        exact l.now h m (.bl _)
      · exact h.elim
    · split at h
      · rename_i ws e
        obtain ⟨a, vs, rfl, q, r⟩ := rdS_at e ry m
        exact .inr (.inr ⟨58, a, vs, wx, ws, by decide, rfl, q, dq_of rx h.1, h.1, dqs_of r h.2.1, h.2.1, l.now h.2.2 m (.bl _)⟩)
      · exact h.elim
theorem opU_in (hu : X.A.units + 64 < cLine) : OpR X (compareOp .In) (rW X.K wIn) := opR_imp (op_in_sign.or ((op_dIn hu).or (op_inQ hu))) fun x y H Q h => in_gen (neg := false) h
end
/-! a[b] -/
/-- the item at i, counted from the end where i is negative; sealed: nothing opens it but pick_def -/
noncomputable def pickS (α : Type) : { f : List α → Int → Option α // f = atI } := Classical.choice ⟨⟨_, rfl⟩⟩
noncomputable def pick {α : Type} (xs : List α) (i : Int) : Option α := (pickS α).1 xs i
theorem pick_def {α : Type} (xs : List α) (i : Int) : pick xs i = atI xs i := by
  unfold pick
  rw [(pickS α).2]
theorem pick_nat {α : Type} {xs : List α} {i : Int} {x : α} (h0 : 0 ≤ i) (h : xs[i.toNat]? = some x) : pick xs i = some x := by
  have := atI_nat h
  rw [show ((i.toNat : Nat) : Int) = i by omega] at this
  rw [pick_def]
  exact this
@[reducible] def wIx : F2 := fun x y μ P => match x with
  | .tup ws => (match y with
    | .int i => (match pick ws i with
      | some w => P w μ
      | none => False)
    | _ => False)
  | .str z => (match y with
    | .int i => z.length ≤ 16000000 ∧ (match pick z.cps.toList i with
      | some c => P (.str ⟨#[c]⟩) μ
      | none => False)
    | _ => False)
  | x => (match rdL μ x with
    | some ws => (match y with
      | .int i => (match pick ws i with
        | some w => P w μ
        | none => False)
      | _ => False)
    | none => (match rdD μ x with
      | some kvs => (match kO y with
        | some k => (match valW kvs k with
          | some w => P w μ
          | none => False)
        | none => False)
      | none => False))
def rDix : R2 := fun x y H Q => ∃ a v, x = .ref a ∧ DGet H a y (some v) ∧ Q v H
section
variable {X : Cx} {E : L2.St → XK}
theorem ix_dict (hu : X.A.units + 64 < cLine) : IxR X rDix := by
  intro value slice pins s σ H x y v u Q I rx ry h hs
  obtain ⟨a, z, rfl, g, q⟩ := h
  cases rx
  exact PyProof.Rows.tail_any (dict_typeIs I g) PySem.F.slot_dict_getitem.lookup (d_getItem (by omega) I g ry fun w' s' I' r' => ⟨z, H, I', r', q⟩) hs
theorem ixU (hu : X.A.units + 64 < cLine) : IxR X (rW X.K wIx) := by
  intro value slice pins s σ H x y v u Q I rx ry h hs
  refine (ix_seq.or (ix_dict hu)) value slice pins s σ H x y v u Q I rx ry ?_ hs
  obtain ⟨wx, wy, μ, P, rx, ry, m, h, l⟩ := h
  unfold wIx at h
  split at h
  · split at h
    · split at h
      · rename_i w e
        cases rx with
        | tup q hs =>
          rw [pick_def] at e
          unfold atI at e
          obtain ⟨j, e1, e2⟩ := Option.bind_eq_some_iff.mp e
          obtain ⟨v, e3, e4⟩ := RwAll.at j hs e2
          exact .inl (.inr (.inl ⟨_, _, _, v, rfl, rw_int ry, tup_sq q, by unfold atI; rw [hs.len, e1]; exact e3, l.now h m e4⟩))
      · exact h.elim
    · exact h.elim
  · split at h
    · obtain ⟨hz, h⟩ := h
      split at h
      · rename_i c e
        exact .inl (.inr (.inr ⟨_, _, c, rw_str rx, rw_int ry, big hz, (pick_def _ _).symm.trans e, l.now h m (.str _)⟩))
      · exact h.elim
    · exact h.elim
  · split at h
    · rename_i ws ex
      obtain ⟨a, vs, rfl, hq, hs⟩ := rdL_at ex rx m
      split at h
      · split at h
        · rename_i w e
          rw [pick_def] at e
          unfold atI at e
          obtain ⟨j, e1, e2⟩ := Option.bind_eq_some_iff.mp e
          obtain ⟨v, e3, e4⟩ := RwAll.at j hs e2
          exact .inl (.inl ⟨_, _, _, v, rfl, rw_int ry, hq, by unfold atI; rw [hs.len, e1]; exact e3, l.now h m e4⟩)
        · exact h.elim
      · exact h.elim
    · split at h
      · rename_i kvs ex
        obtain ⟨a, kv, rfl, hd, r⟩ := rdD_at ex rx m
        split at h
        · rename_i k ek
          have e2 := kO_rw ry ek
          subst e2
          split at h
          · rename_i w e
            obtain ⟨u, f1, f2⟩ := (rwp_val r).2 w e
            refine .inr ⟨a, u, rfl, ?_, l.now h m f2⟩
            rw [← f1]
            exact dget_of (K := X.K) (μ := μ) hd
          · exact h.elim
        · exact h.elim
      · exact h.elim
theorem qe_ix {a b : Expr} {fa fb : FE} {pos : Pos} (hu : X.A.units + 64 < cLine) (ha : QE X E a fa) (hb : QE X E b fb) (hs : PlainIx b) : QE X E (.Subscript a b pos) (eOp wIx fa fb) := ⟨(pe_ix (ixU hu) ha.pe hb.pe hs).qimp fun σ H Q h => tE_two (fun _ _ _ _ h => h) h⟩
/-! slices -/
abbrev FO := Rho → Mu → (Option Int → Mu → Prop) → Xo → Prop
@[reducible] def foN : FO := fun _ μ P _ => P none μ
@[reducible] def foS (e : FE) : FO := fun ρ μ P X => e ρ μ (fun w μ1 => match w with
  | .int i => P (some i) μ1
  | _ => False) X
def tO (K : Frag) (E : L2.St → XK) (f : FO) : TO := fun σ H Q => ∃ ρ μ P X, Holds K H μ σ ρ ∧ Mem K H μ ∧ f ρ μ P X ∧ (∀ o μ' H', P o μ' → Stp μ H μ' H' → Mem K H' μ' → Q o H') ∧ XL K (E σ) μ H X
structure QO (X : Cx) (E : L2.St → XK) (e : Option Expr) (f : FO) : Prop where
  po : PO X e (tO X.K E f)
theorem PO.qimp {X : Cx} {e : Option Expr} {t t' : TO} (h : PO X e t) (k : ∀ σ H Q, t' σ H Q → t σ H Q) : PO X e t' := by
  obtain ⟨h⟩ := h
  exact ⟨fun pins s σ H Q I q => h pins s σ H Q I (k σ H Q q)⟩
theorem qo_none : QO X E none foN := ⟨PO.qimp po_none fun σ H Q h => by
  obtain ⟨ρ, μ, P, XX, hh, hm, hf, hv, hx⟩ := h
  exact hv none μ H hf (Stp.refl μ H) hm⟩
theorem qo_some {e : Expr} {f : FE} (h : QE X E e f) : QO X E (some e) (foS f) := ⟨PO.qimp (po_some h.pe) fun σ H Q h => by
  obtain ⟨ρ, μ, P, XX, hh, hm, hf, hv, hx⟩ := h
  exact ⟨ρ, μ, _, XX, hh, hm, hf, fun w μ1 v H1 p1 e1 m1 r1 => by
    dsimp only at p1
    split at p1
    · exact ⟨_, rw_int r1, hv _ μ1 H1 p1 e1 m1⟩
    · exact p1.elim, hx⟩⟩
def cutL {α : Type} (xs : List α) (lo hi : Option Int) : List α := (xs.drop (HT.sIx xs.length 0 lo)).take (HT.sIx xs.length xs.length hi - HT.sIx xs.length 0 lo)
theorem cut_rw {K : Frag} {H : Hp} {μ : Mu} {vs : List V} {ws : List W} (h : RwAll K H μ vs ws) (lo hi : Option Int) : RwAll K H μ (cutV vs lo hi) (cutL ws lo hi) := by
  unfold cutV cutL
  rw [h.len]
  exact (h.drop _).take _
@[reducible] def wSl (x : W) (lo hi : Option Int) (μ : Mu) (P : Po) : Prop := match x with
  | .str z => z.length ≤ 16000000 ∧ P (.str (cutS z lo hi)) μ
  | .tup ws => P (.tup (cutL ws lo hi)) μ
  | x => (match rdL μ x with
    | some ws => P (.lst (cutL ws lo hi)) μ
    | none => False)
@[reducible] def eSl (a : FE) (lo hi : FO) : FE := fun ρ μ P X => a ρ μ (fun x μ1 => lo ρ μ1 (fun l μ2 => hi ρ μ2 (fun h μ3 => wSl x l h μ3 P) X) X) X
theorem qe_sl {e : Expr} {lo hi : Option Expr} {fa : FE} {fl fh : FO} {p2 pos : Pos} (he : QE X E e fa) (hl : QO X E lo fl) (hu : QO X E hi fh) : QE X E (.Subscript e (.Slice lo hi none p2) pos) (eSl fa fl fh) :=
  ⟨(pe_slice (sl_list.or (sl_str.or sl_tupA)) he.pe hl.po hu.po).qimp fun σ H Q h => by
  obtain ⟨ρ, μ, P, XX, hh, hm, hf, hv, hx⟩ := h
  refine ⟨ρ, μ, _, XX, hh, hm, hf, fun x μ1 v H1 p1 e1 m1 r1 => ⟨ρ, μ1, _, XX, hh.stp e1, m1, p1, fun l μ2 H2 p2 e2 m2 => ⟨ρ, μ2, _, XX, hh.stp (e1.trans e2), m2, p2, fun h μ3 H3 p3 e3 m3 => ?_, hx.stp (e1.trans e2)⟩, hx.stp e1⟩, hx⟩
  have r3 := r1.stp (e2.trans e3)
  have hv3 : VL X.K Q μ3 H3 P := fun w μ' v' H' p e => hv w μ' v' H' p (((e1.trans e2).trans e3).trans e)
  unfold wSl at p3
  split at p3
  · exact .inr (.inl ⟨_, rw_str r3, big p3.1, hv3.now p3.2 m3 (.str _)⟩)
  · cases r3 with
    | @tup a vs _ q hs =>
      refine .inr (.inr ⟨_, _, rfl, tup_sq q, fun w => ?_, fun _ p hp => hv3.tup p3 m3 (cut_rw hs l h) hp⟩)
      have full : ∀ us : List W, vs.length = us.length → cutL us l h = us := fun us e => by
        unfold cutL
        rw [← e, w.1, w.2, List.drop_zero, Nat.sub_zero, e, List.take_length]
      rw [full _ hs.len] at p3
      exact hv3.now p3 m3 (.tup q hs)
  · split at p3
    · rename_i ws ex
      obtain ⟨a, vs, rfl, hq, hs⟩ := rdL_at ex r3 m3
      exact .inl ⟨a, vs, rfl, hq, fun p hp => hv3.lst p3 m3 (cut_rw hs l h) hp⟩
    · exact p3.elim⟩
/-! attributes -/
def lk {β : Type} (f : Str) : List (Str × β) → Option β
  | [] => none
  | (g, x) :: r => if f = g then some x else lk f r
def pf (f : Str) (w : W) : List (Str × W) → List (Str × W)
  | [] => [(f, w)]
  | (g, x) :: r => if g = f then (g, w) :: r else (g, x) :: pf f w r
end
end Q
namespace Q
open PySem L2 Evl
/-! defs: what a def does, as a function; calls -/
abbrev FW := List W → Mu → Po → Xo → Prop
/-- what a def hands back: it may forget, and lists that nobody else has become values -/
def Rt (P : Po) (w : W) (μ : Mu) : Prop := ∃ w' μ', Sub μ' μ ∧ Fz μ μ' w w' ∧ P w' μ'
theorem Rt.now {P : Po} {w : W} {μ : Mu} (h : P w μ) : Rt P w μ := ⟨w, μ, Sub.refl μ, .same w, h⟩
theorem Rt.as {P : Po} {w : W} {μ : Mu} (w' : W) (μ' : Mu) (s : Sub μ' μ) (z : Fz μ μ' w w') (h : P w' μ') : Rt P w μ := ⟨w', μ', s, z, h⟩
@[reducible] def rho0 : Nat → List W → Rho
  | 0, _ => []
  | n + 1, [] => none :: rho0 n []
  | n + 1, w :: ws => some w :: rho0 n ws
theorem rho0_nil : ∀ n, rho0 n [] = List.replicate n none
  | 0 => rfl
  | n + 1 => by
    show none :: rho0 n [] = _
    rw [rho0_nil n]
    rfl
theorem rho0_is : ∀ (n : Nat) (ws : List W), ws.length ≤ n → rho0 n ws = ws.map some ++ List.replicate (n - ws.length) none
  | n, [], _ => by
    rw [rho0_nil]
    rfl
  | 0, w :: ws, h => absurd h (Nat.not_succ_le_zero _)
  | n + 1, w :: ws, h => by
    show some w :: rho0 n ws = _
    rw [rho0_is n ws (Nat.le_of_succ_le_succ h), List.length_cons, Nat.add_sub_add_right]
    rfl
def fDef (np n : Nat) (fb : FS) : FW := fun ws μ P X => ws.length = np ∧ fb (rho0 n ws) μ ⟨fun _ μ' => Rt P .non μ', fun w μ' => Rt P w μ', fun _ _ => False, fun _ _ => False, fun _ c fs μ' => ∃ μ'', Sub μ'' μ' ∧ X c fs μ''⟩
def spF (K : Frag) (f : FW) : Sp := fun vs H Q E => ∃ ws μ P X, RwAll K H μ vs ws ∧ Mem K H μ ∧ f ws μ P X ∧ VL K Q μ H P ∧ XL K E μ H X
theorem Pay.sub {K : Frag} {H : Hp} {μ μ' : Mu} {d : Option Addr} {fs : List (Str × W)} (s : Sub μ' μ) (h : Pay K H μ d fs) : Pay K H μ' d fs := by
  cases h with
  | none => exact .none
  | some h n r z => exact .some h (s.none n) (r.stp (s.stp H)) z
theorem el_def {K : Frag} {E : XK} {Q : VK} {μ : Mu} {H : Hp} {P : Po} {X : Xo} (v : VL K Q μ H P) (x : XL K E μ H X) :
    EL K (fun _ => E) ⟨fun σ H => Q .non H, Q, fun _ _ => False, fun _ _ => False⟩ μ H ⟨fun _ μ' => Rt P .non μ', fun w μ' => Rt P w μ', fun _ _ => False, fun _ _ => False, fun _ c fs μ' => ∃ μ'', Sub μ'' μ' ∧ X c fs μ''⟩ := by
  have ret : VL K Q μ H (fun w μ' => Rt P w μ') := fun w μ' u H' ⟨w', μ'', s, z, p⟩ e m r => v w' μ'' u H' p (e.trans (s.stp H')) (s.mem m) (z.rw s m r)
  exact ⟨fun ρ' μ' σ' H' n e m _ => ret .non μ' .non H' n e m .non, ret, fun _ _ _ _ n => n.elim, fun _ _ _ _ n => n.elim, fun ρ' c fs μ' d σ' H' ⟨μ'', s, n⟩ e m _ p => x c fs μ'' d H' n (e.trans (s.stp H')) (s.mem m) (p.sub s)⟩
section
variable {P : Program} {w : World} {K : Frag} {mg : Str → Option Value} {base : Heap}
abbrev FnM (K : Frag) (x qual : Str) (st : Stmt) (f : Addr) (fd : FuncData) : Prop := L2.FunD K x qual (defArgs st) (defBody st) (defScope st) [] [] f fd
theorem fn_q {x qual : Str} {st : Stmt} {f : Addr} {fd : FuncData} {N ps : List Str} {k : Nat} {fb : FS} (F : FnM K x qual st f fd) (S : FnScope N ps (defScope st)) (hl : ps.length ≤ N.length)
    (body : ∀ (cdv : Value) (A : Around) (outer : List PySem.Env) (s : Shared) (H : Hp) (E : XK), Room k (A.deeper (PyProof.Rows.envOfC qual (defScope st) s.heap.objs.size f cdv)) →
      QSs (cxOf (L2N.CX P w) P w K mg base N qual (defScope st) f cdv A outer s H E) (fun _ => E) (defBody st) fb) : FnOk P w K mg base (L2N.CX P w) (k + 1) f fd ps (spF K (fDef ps.length N.length fb)) := by
  refine L2.FunD.ok F S (fun vs H Q E h => ?_) (fun cdv A outer s H vs Q E hr h => ?_)
  · obtain ⟨ws, μ, Pq, X, h1, _, h2, _⟩ := h
    rw [h1.len]
    exact h2.1
  · obtain ⟨ws, μ, Pq, X, h1, hm, h2, v, x⟩ := h
    have h0 := Holds.start (N := N) h1
    rw [← rho0_is _ _ (by rw [h2.1]; exact hl)] at h0
    exact ⟨_, (body cdv A outer s H E hr).pss, _, μ, _, h0, hm, h2.2, el_def v x⟩
/-- a def, a method, a class with its __init__, by what they do -/
structure DefQ (P : Program) (w : World) (K : Frag) (mg : Str → Option Value) (base : Heap) (k : Nat) (x : Str) (ps : List Str) (f : FW) : Prop where
  ex : ∃ (a : Addr) (fd : FuncData), FnOk P w K mg base (L2N.CX P w) k a fd ps (spF K f) ∧ mg x = some (.ref a) ∧ PySem.W.keepIn K (.ref a) = true ∧ Binds K fd ps []
structure MetQ (P : Program) (w : World) (K : Frag) (mg : Str → Option Value) (base : Heap) (k : Nat) (x m : Str) (ps : List Str) (f : FW) : Prop where
  cls : Cls K (He.ga K x)
  ex : ∃ (a : Addr) (fd : FuncData), FnOk P w K mg base (L2N.CX P w) k a fd ps (spF K f) ∧ Meth K (He.ga K x) m a ∧ Binds K fd ps []
end
/-- what a body's exceptions may do -/
def Px (X : Cx) (E : L2.St → XK) : Prop := ∀ σ, PassesAt (L2N.CX X.prog X.w) X σ (E σ)
def EN : L2.St → XK := fun _ _ _ _ => False
theorem px_no {X : Cx} : Px X EN := fun _ _ _ _ _ _ _ h => by
  obtain ⟨_, _, _, _, _, _, _, _, _, _, _, _, z⟩ := h
  exact z.elim
@[reducible] def eCall (f : FW) (a : FA) : FE := fun ρ μ P X => a ρ μ (fun ws μ1 => f ws μ1 P X) X
section
variable {X : Cx} {E : L2.St → XK} {k : Nat} {x m : Str} {ps : List Str} {f : FW} {e o : Expr} {es : List Expr} {fo : FE} {fa : FA} {p pos apos : Pos}
theorem sp_now {K : Frag} {H : Hp} {μ : Mu} {vs : List V} {ws : List W} {P : Po} {Xx : Xo} {Q : VK} {Ek : XK} (r : RwAll K H μ vs ws) (m : Mem K H μ) (h : f ws μ P Xx) (v : VL K Q μ H P) (x : XL K Ek μ H Xx) : spF K f (vs ++ []) H Q Ek := by
  rw [List.append_nil]
  exact ⟨ws, μ, P, Xx, r, m, h, v, x⟩
theorem VL.stp {K : Frag} {Q : VK} {μ μ1 : Mu} {H H1 : Hp} {P : Po} (e : Stp μ H μ1 H1) (h : VL K Q μ H P) : VL K Q μ1 H1 P := fun w μ' v H' p e2 => h w μ' v H' p (e.trans e2)
theorem qe_call (px : Px X E) (D : DefQ X.prog X.w X.K X.mg X.base k x ps f) (hr : Room k X.A) (hg : Gl X x) (ha : QA X E (e :: es) fa) (hdb : (x == ("__debug__" : Str)) = false := by decide)
    (he : starEach (e :: es) X.env = (false, eval e X.env) :: starEach es X.env := by rfl) (hpl : (backTo pos (starEach es X.env)).any (·.1) = false := by rfl) : QE X E (.Call (.Name x p) (e :: es) [] pos) (eCall f fa) := by
  obtain ⟨a, fd, h, g, kp, b⟩ := D.ex
  refine ⟨(pe_callSD h hr hg g kp b .nil px ha.pa hdb he hpl).qimp fun σ H Q h => ?_⟩
  obtain ⟨ρ, μ, P, XX, hh, hm, hf, hv, hx⟩ := h
  exact ⟨ρ, μ, _, XX, hh, hm, hf, fun ws μ1 vs H1 p1 e1 m1 r1 => sp_now r1 m1 p1 (hv.stp e1) (hx.stp e1), hx⟩
theorem MetQ.mono {P : Program} {w : World} {K : Frag} {mg : Str → Option Value} {base : Heap} {j k : Nat} {x m : Str} {ps : List Str} {f : FW} (h : MetQ P w K mg base j x m ps f) (l : j ≤ k) : MetQ P w K mg base k x m ps f := by
  obtain ⟨a, fd, F, r⟩ := h.ex
  exact ⟨h.cls, a, fd, F.mono l, r⟩
theorem QE.go {pins : List (Addr × Obj)} {s : Shared} {σ : St} {H : Hp} {ρ : Rho} {μ : Mu} {P : Po} {XX : Xo} (h : QE X E o fo) (I : Inv X pins σ H s) (hh : Holds X.K H μ σ ρ) (hm : Mem X.K H μ) (hf : fo ρ μ P XX) (hx : XL X.K (E σ) μ H XX) :
    wpAny (model X.prog X.w) X.A (eval o X.env) (fun u s1 => ∃ v H1 w μ1, Inv X pins σ H1 s1 ∧ RelV v u ∧ P w μ1 ∧ Stp μ H μ1 H1 ∧ Mem X.K H1 μ1 ∧ Rw X.K H1 μ1 v w) X.xe s :=
  thn (h.pe.run pins s σ H (fun v H1 => ∃ w μ1, P w μ1 ∧ Stp μ H μ1 H1 ∧ Mem X.K H1 μ1 ∧ Rw X.K H1 μ1 v w) I ⟨ρ, μ, P, XX, hh, hm, hf, fun w μ1 v H1 p1 e1 m1 r1 => ⟨w, μ1, p1, e1, m1, r1⟩, hx⟩) fun u s1 ⟨v, H1, I1, rx, w, μ1, p1, e1, m1, r1⟩ => ⟨v, H1, w, μ1, I1, rx, p1, e1, m1, r1⟩
theorem QA.go {pins : List (Addr × Obj)} {s : Shared} {σ : St} {H : Hp} {ρ : Rho} {μ : Mu} {P : List W → Mu → Prop} {XX : Xo} (h : QA X E es fa) (pos : Pos) (I : Inv X pins σ H s) (hh : Holds X.K H μ σ ρ) (hm : Mem X.K H μ) (hf : fa ρ μ P XX) (hx : XL X.K (E σ) μ H XX) :
    wpAny (model X.prog X.w) X.A (spliced (backTo pos (starEach es X.env))) (fun us s1 => ∃ vs H1 ws μ1, Inv X pins σ H1 s1 ∧ Vals vs us ∧ P ws μ1 ∧ Stp μ H μ1 H1 ∧ Mem X.K H1 μ1 ∧ RwAll X.K H1 μ1 vs ws) X.xe s :=
  thn (h.pa.run pos pins s σ H (fun vs H1 => ∃ ws μ1, P ws μ1 ∧ Stp μ H μ1 H1 ∧ Mem X.K H1 μ1 ∧ RwAll X.K H1 μ1 vs ws) I ⟨ρ, μ, P, XX, hh, hm, hf, fun w μ1 v H1 p1 e1 m1 r1 => ⟨w, μ1, p1, e1, m1, r1⟩, hx⟩) fun u s1 ⟨v, H1, I1, rx, w, μ1, p1, e1, m1, r1⟩ => ⟨v, H1, w, μ1, I1, rx, p1, e1, m1, r1⟩
end
end Q
namespace Q
open PySem L2 Evl RZ
/-! walks: loops, comprehensions -/
structure ItW (K : Frag) (J : It) (Rel : Hp → Mu → Prop) (std : Mu → Prop) (ws : List W) : Prop where
  mono : ∀ H μ H' μ', Rel H μ → Stp μ H μ' H' → Rel H' μ'
  go : ∀ i H μ, Rel H μ → Mem K H μ → std μ → i < ws.length → J.go i H
  yld : ∀ i H μ x H' y, Rel H μ → Mem K H μ → std μ → ws[i]? = some y → J.yld i H x H' → Stp μ H μ H' ∧ Mem K H' μ ∧ Rw K H' μ x y
  stop : ∀ i H μ, Rel H μ → Mem K H μ → std μ → ws.length ≤ i → J.stop i H
abbrev FI := Rho → Mu → ((Mu → Prop) → List W → Mu → Prop) → Xo → Prop
def tI (K : Frag) (E : L2.St → XK) (f : FI) : TI := fun σ H R => ∃ ρ μ P X, Holds K H μ σ ρ ∧ Mem K H μ ∧ f ρ μ P X ∧
  (∀ std ws μ1 H1 J Rel, P std ws μ1 → Stp μ H μ1 H1 → Mem K H1 μ1 → Rel H1 μ1 → ItW K J Rel std ws → R J H1) ∧ XL K (E σ) μ H X
structure QI (X : Cx) (E : L2.St → XK) (tg iter : Expr) (f : FI) : Prop where
  pi : PI X tg iter (tI X.K E f)
theorem PI.qimp {X : Cx} {tg e : Expr} {t t' : TI} (h : PI X tg e t) (k : ∀ σ H R, t' σ H R → t σ H R) : PI X tg e t' := ⟨fun pins s σ H Q I q => h.run pins s σ H Q I (k σ H Q q)⟩
/-! what is walked -/
theorem itw_list {K : Frag} {a : Addr} {w : W} {ws : List W} : ItW K (Itl K a) (fun H μ => Rw K H μ (.ref a) w) (fun μ => rdL μ w = some ws) ws where
  mono := fun _ _ _ _ r e => r.stp e
  go := fun i H μ r m h hi => by
    obtain ⟨b, vs, e, q, hs⟩ := rdL_at h r m
    cases e
    obtain ⟨v, e1, _⟩ := RwAll.at i hs (List.getElem?_eq_getElem hi)
    exact ⟨vs, v, q, e1⟩
  yld := fun i H μ x H' y r m h hy q => by
    obtain ⟨e, q⟩ := q
    subst e
    obtain ⟨b, vs, e, q2, hs⟩ := rdL_at h r m
    cases e
    obtain ⟨v, e1, r1⟩ := RwAll.at i hs hy
    have e2 := q vs q2
    rw [e1] at e2
    cases e2
    exact ⟨Stp.refl _ _, m, r1⟩
  stop := fun i H μ r m h hi => by
    obtain ⟨b, vs, e, q, hs⟩ := rdL_at h r m
    cases e
    exact ⟨vs, q, by rw [hs.len]; exact hi⟩
theorem itw_tup {K : Frag} {a : Addr} {ws : List W} {std : Mu → Prop} : ItW K (Itt K a) (fun H μ => Rw K H μ (.ref a) (.tup ws)) std ws where
  mono := fun _ _ _ _ r e => r.stp e
  go := fun i H μ r m h hi => by
    cases r with
    | tup q hs =>
      obtain ⟨v, e1, _⟩ := RwAll.at i hs (List.getElem?_eq_getElem hi)
      exact ⟨_, v, tup_sq q, e1⟩
  yld := fun i H μ x H' y r m h hy q => by
    obtain ⟨e, q⟩ := q
    subst e
    cases r with
    | tup q2 hs =>
      obtain ⟨v, e1, r1⟩ := RwAll.at i hs hy
      have e2 := q _ (tup_sq q2)
      rw [e1] at e2
      cases e2
      exact ⟨Stp.refl _ _, m, r1⟩
  stop := fun i H μ r m h hi => by
    cases r with
    | tup q hs => exact ⟨_, tup_sq q, by rw [hs.len]; exact hi⟩
/-- the signs of a text -/
def signs (z : Str) : List W := z.cps.toList.map fun c => .str ⟨#[c]⟩
theorem itw_str {K : Frag} {z : Str} {std : Mu → Prop} : ItW K (Its z) (fun _ _ => True) std (signs z) where
  mono := fun _ _ _ _ _ _ => trivial
  go := fun i H μ _ _ _ hi => by
    have h2 : i < z.cps.toList.length := by simpa [signs] using hi
    simpa [Its] using h2
  yld := fun i H μ x H' y _ m _ hy q => by
    obtain ⟨e, c, hc, rfl⟩ := q
    subst e
    unfold signs at hy
    rw [List.getElem?_map, Array.getElem?_toList, hc] at hy
    cases hy
    exact ⟨Stp.refl _ _, m, .str _⟩
  stop := fun i H μ _ _ _ hi => by
    have h2 : z.cps.toList.length ≤ i := by simpa [signs] using hi
    simpa [Its] using h2
def nums (lo : Int) (n : Nat) : List W := (List.range n).map fun (i : Nat) => .int (lo + (i : Int))
theorem itw_range {K : Frag} {lo : Int} {n : Nat} {std : Mu → Prop} : ItW K (Itr lo n) (fun _ _ => True) std (nums lo n) where
  mono := fun _ _ _ _ _ _ => trivial
  go := fun i H μ _ _ _ hi => by simpa [nums, Itr] using hi
  yld := fun i H μ x H' y _ m _ hy q => by
    obtain ⟨e, rfl⟩ := q
    subst e
    unfold nums at hy
    rw [List.getElem?_map] at hy
    obtain ⟨j, h1, h2⟩ := Option.map_eq_some_iff.mp hy
    obtain ⟨h3, h4⟩ := List.getElem?_eq_some_iff.mp h1
    rw [List.getElem_range] at h4
    subst h4
    subst h2
    exact ⟨Stp.refl _ _, m, .int _⟩
  stop := fun i H μ _ _ _ hi => by simpa [nums, Itr] using hi
section
variable {X : Cx} {E : L2.St → XK} {tg : Expr}
@[reducible] def iSq (e : FE) : FI := fun ρ μ P X => e ρ μ (fun w μ1 => match w with
  | .str z => P (fun _ => True) (signs z) μ1
  | .tup ws => P (fun _ => True) ws μ1
  | w => (match rdL μ1 w with
    | some ws => P (fun μ => rdL μ w = some ws) ws μ1
    | none => False)) X
theorem qi_seq {l : Expr} {f : FE} (hl : QE X E l f) : QI X E tg l (iSq f) := ⟨⟨fun pins s σ H R I h => by
  obtain ⟨ρ, μ, P, XX, hh, hm, hf, hk, hx⟩ := h
  refine thn (hl.go I hh hm hf hx) fun u s1 ⟨v, H1, w, μ1, I1, rx, p1, e1, m1, r1⟩ => ?_
  split at p1
  · rename_i z
    have ev := rw_str r1
    subst ev
    obtain ⟨t, rfl⟩ := rx
    have q := hk _ _ μ1 H1 (Its z) (fun _ _ => True) p1 e1 m1 trivial itw_str
    cases ha : z.cps.all (· < 128)
    · exact wpAny_pyIter_wide ha (pi_one (tk := s1.toks) I1 _ (turn_str _ z t "str_iterator" (.inr rfl)) ⟨_, Heap.get?_push_size _ rfl, rfl, rfl⟩ q)
    · exact wpAny_pyIter_ascii ha (pi_one (tk := s1.toks) I1 _ (turn_str _ z t "str_ascii_iterator" (.inl rfl)) ⟨_, Heap.get?_push_size _ rfl, rfl, rfl⟩ q)
  · have r2 := r1
    cases r1 with
    | @tup a vs _ q hs =>
      cases rx
      obtain ⟨its, rv, pt, hz⟩ := I1.tuple (tup_sq q)
      have q2 := hk _ _ μ1 H1 (Itt X.K a) _ p1 e1 m1 r2 itw_tup
      exact wpAny_pyIter_tuple (show s1.heap.IsTuple a its.toArray from pt) (pi_one (tk := s1.toks) I1 _ (turn_tuple a _) ⟨_, Heap.get?_push_size _ rfl, rfl, rfl⟩ q2)
  · split at p1
    · rename_i ws ew
      obtain ⟨a, vs, rfl, q, hs⟩ := rdL_at ew r1 m1
      cases rx
      obtain ⟨its, rv, pt, hz⟩ := I1.list q
      have q2 := hk _ _ μ1 H1 (Itl X.K a) _ p1 e1 m1 r1 itw_list
      exact wpAny_pyIter_list pt.isList (pi_one (tk := s1.toks) I1 _ (turn_list a _) ⟨_, Heap.get?_push_size _ rfl, rfl, rfl⟩ q2)
    · exact p1.elim⟩⟩
@[reducible] def iR1 (a : FA) : FI := fun ρ μ P X => a ρ μ (fun ws μ1 => match ws with
  | [.int n] => (-(2 ^ 62) ≤ n ∧ n < 2 ^ 62) ∧ P (fun _ => True) (nums 0 n.toNat) μ1
  | _ => False) X
theorem qi_range1 {a : Expr} {f : FA} {p pos : Pos} (hg : Gl X "range") (hm : X.mg "range" = none) (ha : QA X E [a] f) (hs : starEach [a] X.env = [(false, eval a X.env)] := by rfl) : QI X E tg (.Call (.Name "range" p) [a] [] pos) (iR1 f) := ⟨PI.qimp (pi_range1 hg hm ha.pa hs) fun σ H R h => by
  obtain ⟨ρ, μ, P, XX, hh, hm, hf, hk, hx⟩ := h
  refine ⟨ρ, μ, _, XX, hh, hm, hf, fun ws μ1 vs H1 p1 e1 m1 r1 => ?_, hx⟩
  split at p1
  · obtain ⟨v, rfl, r⟩ := r1.one
    have ev := rw_int r
    subst ev
    exact ⟨_, rfl, p1.1.1, p1.1.2, hk _ _ μ1 H1 _ (fun _ _ => True) p1.2 e1 m1 trivial itw_range⟩
  · exact p1.elim⟩
end
/-! ### for -/
def itS (std : Mu → Prop) (g : FG) (b : FS) : List W → Rho → Mu → En → Prop
  | [], ρ, μ, N => std μ ∧ N.nx ρ μ
  | w :: ws, ρ, μ, N => std μ ∧ g w ρ μ fun ρ1 μ1 => b ρ1 μ1 { nx := fun ρ' μ' => itS std g b ws ρ' μ' N, ct := fun ρ' μ' => itS std g b ws ρ' μ' N, bk := N.nx, rt := N.rt, ex := N.ex }
@[reducible] def sFor (i : FI) (g : FG) (b : FS) : FS := fun ρ μ N => i ρ μ (fun std ws μ1 => itS std g b ws ρ μ1 N) (N.ex ρ)
theorem qs_for {X : Cx} {E : L2.St → XK} {tg iter : Expr} {body : List Stmt} {fi : FI} {g : FG} {b : FS} {pos : Pos} (po : PassesOwn (model X.prog X.w) X.A X.env X.xe) (hc : X.calm = true) (hi : QI X E tg iter fi) (hg : QG X tg g) (hb : QSs X E body b)
    (hs : ∀ x, foldedSetIterable iter X.env x = pure x := by intro _; rfl) : QS X E (.For tg iter body [] pos) (sFor fi g b) := ⟨(ps_for po hc hi.pi hg.pg hb.pss hs).qimp fun D σ H h => by
  obtain ⟨ρ, μ, N, hh, hm, hf, l⟩ := h
  refine ⟨ρ, μ, _, _, hh, hm, hf, fun std ws μ1 H1 J Rel p1 e1 m1 rel itw => ?_, l.xl hh⟩
  refine ⟨fun i m σ' H' => m = ws.length - i ∧ i ≤ ws.length ∧ ∃ ρ' μ', itS std g b (ws.drop i) ρ' μ' N ∧ Stp μ1 H1 μ' H' ∧ Mem X.K H' μ' ∧ Holds X.K H' μ' σ' ρ', ⟨ws.length, by simp, Nat.zero_le _, ρ, μ1, by simpa using p1, Stp.refl _ _, m1, hh.stp e1⟩, ?_⟩
  rintro i m σ' H' ⟨rfl, hi2, ρ', μ', q, e2, m2, h2⟩
  have rel2 := itw.mono _ _ _ _ rel e2
  by_cases hlt : i < ws.length
  · have ed : ws.drop i = ws[i] :: ws.drop (i + 1) := List.drop_eq_getElem_cons hlt
    rw [ed] at q
    obtain ⟨hstd, q⟩ := q
    refine .inr ⟨itw.go i H' μ' rel2 m2 hstd hlt, fun σ3 H3 => ∃ ρ3 μ3, itS std g b (ws.drop (i + 1)) ρ3 μ3 N ∧ Stp μ1 H1 μ3 H3 ∧ Mem X.K H3 μ3 ∧ Holds X.K H3 μ3 σ3 ρ3, fun σ3 H3 ⟨ρ3, μ3, q3, e3, m3, h3⟩ => ⟨ws.length - (i + 1), by omega, rfl, hlt, ρ3, μ3, q3, e3, m3, h3⟩, fun x H3 y => ?_⟩
    obtain ⟨e3, m3, r3⟩ := itw.yld i H' μ' x H3 _ rel2 m2 hstd (List.getElem?_eq_getElem hlt) y
    have e13 := e2.trans e3
    refine ⟨_, ρ', μ', _, r3, h2.stp e3, m3, q, fun ρ4 μ4 σ4 H4 p4 e4 m4 h4 => ⟨ρ4, μ4, _, h4, m4, p4, ?_⟩⟩
    have e04 := (e1.trans e13).trans e4
    exact ⟨fun ρ5 μ5 σ5 H5 n e m h => ⟨ρ5, μ5, n, (e13.trans e4).trans e, m, h⟩, fun w μ5 v H5 n e m r => l.rt w μ5 v H5 n (e04.trans e) m r, fun ρ5 μ5 σ5 H5 n e m h => l.nx ρ5 μ5 σ5 H5 n (e04.trans e) m h, fun ρ5 μ5 σ5 H5 n e m h => ⟨ρ5, μ5, n, (e13.trans e4).trans e, m, h⟩, fun ρ5 c fs μ5 d σ5 H5 n e m h p => l.ex ρ5 c fs μ5 d σ5 H5 n (e04.trans e) m h p⟩
  · have ei : i = ws.length := by omega
    subst ei
    rw [List.drop_length] at q
    exact .inl ⟨itw.stop _ H' μ' rel2 m2 q.1 (Nat.le_refl _), l.nx ρ' μ' σ' H' q.2 (e1.trans e2) m2 h2⟩⟩
/-- by an invariant over the turns -/
theorem itS_inv {std : Mu → Prop} {g : FG} {b : FS} {N : En} (ws : List W) (I : Nat → Rho → Mu → Prop) {ρ : Rho} {μ : Mu} (h0 : I 0 ρ μ)
    (hs : ∀ i w ρ μ, ws[i]? = some w → I i ρ μ → std μ ∧ ∀ K : Rho → Mu → Prop, (∀ ρ' μ', I (i + 1) ρ' μ' → K ρ' μ') → g w ρ μ fun ρ1 μ1 => b ρ1 μ1 { nx := K, ct := K, bk := N.nx, rt := N.rt, ex := N.ex })
    (hd : ∀ ρ μ, I ws.length ρ μ → std μ ∧ N.nx ρ μ) : itS std g b ws ρ μ N := by
  have key : ∀ (n i : Nat) (ρ : Rho) (μ : Mu), n = ws.length - i → i ≤ ws.length → I i ρ μ → itS std g b (ws.drop i) ρ μ N := by
    intro n
    induction n with
    | zero =>
      intro i ρ μ hn hi h
      have e : i = ws.length := by omega
      subst e
      rw [List.drop_length]
      exact hd ρ μ h
    | succ n ih =>
      intro i ρ μ hn hi h
      have hlt : i < ws.length := by omega
      rw [List.drop_eq_getElem_cons hlt]
      obtain ⟨h1, h2⟩ := hs i ws[i] ρ μ (List.getElem?_eq_getElem hlt) h
      exact ⟨h1, h2 _ fun ρ' μ' q => ih (i + 1) ρ' μ' (by omega) hlt q⟩
  simpa using key ws.length 0 ρ μ (by simp) (Nat.zero_le _) h0
/-! ### while -/
inductive itWh (c : FT) (b : FS) : Rho → Mu → En → Prop
  | mk {ρ : Rho} {μ : Mu} {N : En} (I : Nat → Rho → Mu → Prop) (n : Nat) (h : I n ρ μ)
      (step : ∀ n ρ μ, I n ρ μ → c ρ μ (fun d μ1 => if d = true then b ρ μ1 { nx := fun ρ' μ' => ∃ m, m < n ∧ I m ρ' μ', ct := fun ρ' μ' => ∃ m, m < n ∧ I m ρ' μ', bk := N.nx, rt := N.rt, ex := N.ex } else N.nx ρ μ1) (N.ex ρ)) : itWh c b ρ μ N
theorem qs_while {X : Cx} {E : L2.St → XK} {test : Expr} {body : List Stmt} {c : FT} {b : FS} {pos : Pos} (po : PassesOwn (model X.prog X.w) X.A X.env X.xe) (hc : QT X E test c) (hb : QSs X E body b) : QS X E (.While test body [] pos) (itWh c b) := ⟨(ps_while po hc.pt hb.pss).qimp fun D σ H h => by
  obtain ⟨ρ, μ, N, hh, hm, hf, l⟩ := h
  cases hf with
  | mk I n h0 step =>
  refine ⟨fun m σ' H' => ∃ ρ' μ', I m ρ' μ' ∧ Stp μ H μ' H' ∧ Mem X.K H' μ' ∧ Holds X.K H' μ' σ' ρ', ⟨n, ρ, μ, h0, Stp.refl _ _, hm, hh⟩, ?_⟩
  rintro m σ' H' ⟨ρ', μ', q, e2, m2, h2⟩
  refine ⟨ρ', μ', _, _, h2, m2, step m ρ' μ' q, fun d μ3 H3 p3 e3 m3 => ?_, (l.stp e2).xl h2⟩
  have e13 := e2.trans e3
  cases d with
  | true =>
    refine iteT ⟨fun σ4 H4 => ∃ m', m' < m ∧ ∃ ρ' μ', I m' ρ' μ' ∧ Stp μ H μ' H4 ∧ Mem X.K H4 μ' ∧ Holds X.K H4 μ' σ4 ρ', fun _ _ h => h, ρ', μ3, _, h2.stp e3, m3, (if_pos rfl).mp p3, ?_⟩
    exact ⟨fun ρ5 μ5 σ5 H5 ⟨m', hm', n⟩ e m h => ⟨m', hm', ρ5, μ5, n, e13.trans e, m, h⟩, fun w μ5 v H5 n e m r => l.rt w μ5 v H5 n (e13.trans e) m r, fun ρ5 μ5 σ5 H5 n e m h => l.nx ρ5 μ5 σ5 H5 n (e13.trans e) m h, fun ρ5 μ5 σ5 H5 ⟨m', hm', n⟩ e m h => ⟨m', hm', ρ5, μ5, n, e13.trans e, m, h⟩, fun ρ5 c fs μ5 d σ5 H5 n e m h p => l.ex ρ5 c fs μ5 d σ5 H5 n (e13.trans e) m h p⟩
  | false => exact iteF (l.nx ρ' μ3 σ' H3 ((if_neg (by decide)).mp p3) e13 m3 (h2.stp e3))⟩
/-! ### a dict is locked -/
end Q
namespace Q
open PySem PySem.Spec PyProof.Rows L2 Evl
/-! comprehensions: what is made is tracked while it is made; nothing is raised within -/
@[reducible] def wv : Rho → List Nat → Rho
  | ρ, [] => ρ
  | ρ, v :: vs => hv (wv ρ vs) v
theorem Holds.wv {K : Frag} {H : Hp} {μ : Mu} {σ : L2.St} {ρ : Rho} (h : Holds K H μ σ ρ) : ∀ vs : List Nat, Holds K H μ (wipe σ vs) (Q.wv ρ vs)
  | [] => h
  | v :: vs => by
    show Holds K H μ ((wipe σ vs).set v none) (hv (Q.wv ρ vs) v)
    rw [hv_set]
    exact (Holds.wv h vs).hide v
/-! targets of own names -/
def tGv (K : Frag) (g : FG) (vs : List Nat) : TG := fun v σ H Q => ∃ w ρ μ P, Rw K H μ v w ∧ Holds K H μ σ ρ ∧ Mem K H μ ∧ g w ρ μ P ∧ ∀ ρ' μ' σ' H', P ρ' μ' → Stp μ H μ' H' → Mem K H' μ' → Holds K H' μ' σ' ρ' → wipe σ' vs = wipe σ vs → Q σ' H'
structure QGv (X : Cx) (e : Expr) (g : FG) (vs : List Nat) : Prop where
  pg : PG X e (tGv X.K g vs)
theorem wipe_put {σ : L2.St} {i : Nat} {x : Option V} {vs : List Nat} (h : i ∈ vs) : wipe (σ.set i x) vs = wipe σ vs := by
  induction vs with
  | nil => cases h
  | cons v vs ih =>
    show (wipe (σ.set i x) vs).set v none = (wipe σ vs).set v none
    by_cases hm : i ∈ vs
    · rw [ih hm]
    · rcases List.mem_cons.mp h with e | e
      · subst e
        have key : ∀ (us : List Nat), i ∉ us → wipe (σ.set i x) us = (wipe σ us).set i x := by
          intro us
          induction us with
          | nil => intro _; rfl
          | cons u us ih2 =>
            intro hu
            show (wipe (σ.set i x) us).set u none = ((wipe σ us).set u none).set i x
            rw [ih2 (fun z => hu (List.mem_cons_of_mem _ z)), List.set_comm _ _ (fun z => hu (by rw [z]; exact List.mem_cons_self))]
        rw [key vs hm, List.set_set]
      · exact absurd e hm
theorem wipe_wipe (σ : L2.St) (us : List Nat) : wipe (wipe σ us) us = wipe σ us := by
  have key : ∀ (as bs : List Nat), (∀ a ∈ as, a ∈ bs) → wipe (wipe σ as) bs = wipe σ bs := by
    intro as bs
    induction as with
    | nil => intro _; rfl
    | cons a as ih =>
      intro h
      show wipe ((wipe σ as).set a none) bs = _
      rw [wipe_put (h a List.mem_cons_self), ih fun z hz => h z (List.mem_cons_of_mem _ hz)]
  exact key us us fun _ h => h
theorem qgv_name {X : Cx} {i : Nat} {x : Str} {pos : Pos} {vs : List Nat} (hN : X.N.Nodup) (hi : X.N[i]? = some x) (hx : Loc X.env.scope x) (hm : i ∈ vs := by decide) (hf : X.fn x = true ∨ X.env.scope.names.lookup x = some .local := by first | exact .inl rfl | exact .inr rfl | assumption) : QGv X (.Name x pos) (gN i) vs := ⟨(pg_name hN hi hx hf).qimp fun v σ H Q h => by
  obtain ⟨w, ρ, μ, P, r, hh, hmm, hg, q⟩ := h
  exact q _ μ _ H hg (Stp.refl μ H) hmm (hh.sv i r) (wipe_put hm)⟩
/-! tests -/
@[reducible] def cYes : FT := fun _ μ P _ => P true μ
structure QTs (X : Cx) (ifs : List Expr) (f : FT) : Prop where
  pts : PTs X ifs (tT X.K EN f)
theorem _root_.L2.PTs.qimp {X : Cx} {e : List Expr} {t t' : TT} (h : PTs X e t) (k : ∀ σ H Q, t' σ H Q → t σ H Q) : PTs X e t' := ⟨fun pins s σ H Q I q => h.run pins s σ H Q I (k σ H Q q)⟩
theorem qts_nil {X : Cx} : QTs X [] cYes := ⟨(pts_nil (X := X)).qimp fun σ H Q h => by
  obtain ⟨ρ, μ, P, XX, hh, hm, hf, hv, hx⟩ := h
  exact hv true μ H hf (Stp.refl μ H) hm⟩
theorem qts_one {X : Cx} {c : Expr} {f : FT} (h : QT X EN c f) : QTs X [c] f := ⟨pts_one h.pt⟩
/-! [e for .. in .. if c] -/
def lcS (std : Mu → Prop) (g : FG) (c : FT) (e : FE) (p : Addr) (k : List W → Mu → Prop) (ρ : Rho) : List W → List W → Mu → Prop
  | [], acc, μ => std μ ∧ k acc μ
  | w :: ws, acc, μ => std μ ∧ g w ρ μ fun ρ2 μ2 => c ρ2 μ2 (fun b μ3 => if b = true then e ρ2 μ3 (fun y μ4 => μ4 p = some (.ls acc) ∧ acc.length < 16000000 ∧ lcS std g c e p k ρ ws (acc ++ [y]) (mset μ4 p (.ls (acc ++ [y])))) (fun _ _ _ => False) else μ3 p = some (.ls acc) ∧ lcS std g c e p k ρ ws acc μ3) (fun _ _ _ => False)
/-- .. as a value (V), tracked (R) -/
def lcVK (std : Mu → Prop) (g : FG) (c : FT) (e : FE) (ρ : Rho) (ws : List W) (P : Po) (μ1 : Mu) : Prop := ∀ p, μ1 p = none → lcS std g c e p (fun acc μ' => ∃ μ'', Sub μ'' μ' ∧ μ'' p = none ∧ P (.lst acc) μ'') ρ ws [] (mset μ1 p (.ls []))
@[reducible] def eLcV (i : FI) (vs : List Nat) (g : FG) (c : FT) (e : FE) : FE := fun ρ μ P X => i ρ μ (fun std ws μ1 => lcVK std g c e (wv ρ vs) ws P μ1) X
theorem xl_no {K : Frag} {μ : Mu} {H : Hp} {σ : L2.St} : XL K (EN σ) μ H (fun _ _ _ => False) := fun _ _ _ _ _ z => z.elim
theorem lc_tl {K : Frag} {E : L2.St → XK} {fi : FI} {g : FG} {c : FT} {e : FE} {vs : List Nat} {σ : L2.St} {H : Hp} {Q : VK} {kk : (Po) → Addr → List W → Mu → Prop} {ρ : Rho} {μ : Mu} {P : Po} {X : Xo}
    (hk : ∀ p acc μ' H', kk P p acc μ' → μ' p = some (.ls acc) → Stp μ H μ' H' → Mem K H' μ' → Q (.ref p) H')
    (hh : Holds K H μ σ ρ) (hm : Mem K H μ) (hf : fi ρ μ (fun std ws μ1 => ∀ p, μ1 p = none → lcS std g c e p (kk P p) (wv ρ vs) ws [] (mset μ1 p (.ls []))) X) (hx : XL K (E σ) μ H X) : tLc (tI K E fi) (tGv K g vs) (tT K EN c) (tE K EN e) vs σ H Q := by
  refine ⟨ρ, μ, _, X, hh, hm, hf, fun std ws μ1 H1 J Rel p1 e1 m1 rel itw D hD => ?_, hx⟩
  have hp := m1.free hD
  have sD : Stp μ1 H1 (mset μ1 D (.ls [])) (upd H1 D (.lst [])) := Stp.newT hD
  refine ⟨fun i m H' => m = ws.length - i ∧ i ≤ ws.length ∧ ∃ acc μ', lcS std g c e D (kk P D) (wv ρ vs) (ws.drop i) acc μ' ∧ μ' D = some (.ls acc) ∧ Stp μ1 H1 μ' H' ∧ Mem K H' μ', ⟨ws.length, by simp, Nat.zero_le _, [], _, by simpa using p1 D hp, mset_same, sD, new_ls m1 hD .nil⟩, ?_⟩
  rintro i m H' ⟨rfl, hi2, acc, μ', q, eD, e2, m2⟩
  have rel2 := itw.mono _ _ _ _ rel e2
  by_cases hlt : i < ws.length
  · have ed : ws.drop i = ws[i] :: ws.drop (i + 1) := List.drop_eq_getElem_cons hlt
    rw [ed] at q
    obtain ⟨hstd, q⟩ := q
    refine .inr ⟨itw.go i H' μ' rel2 m2 hstd hlt, fun H3 => ∃ acc μ3, lcS std g c e D (kk P D) (wv ρ vs) (ws.drop (i + 1)) acc μ3 ∧ μ3 D = some (.ls acc) ∧ Stp μ1 H1 μ3 H3 ∧ Mem K H3 μ3, fun H3 z => ⟨ws.length - (i + 1), by omega, rfl, hlt, z⟩, fun x H3 y => ?_⟩
    obtain ⟨e3, m3, r3⟩ := itw.yld i H' μ' x H3 _ rel2 m2 hstd (List.getElem?_eq_getElem hlt) y
    have e13 := e2.trans e3
    have e03 := e1.trans e13
    refine ⟨_, wv ρ vs, μ', _, r3, (hh.stp e03).wv vs, m3, q, fun ρ4 μ4 σ4 H4 p4 e4 m4 h4 w4 => ⟨w4.trans (wipe_wipe σ vs), ρ4, μ4, _, _, h4, m4, p4, fun b μ5 H5 p5 e5 m5 => ?_, xl_no⟩⟩
    · cases b with
      | true => 
        refine iteT ⟨ρ4, μ5, _, _, h4.stp e5, m5, (if_pos rfl).mp p5, fun y μ6 v H6 p6 e6 m6 r6 => ?_, xl_no⟩
        obtain ⟨q1, q2, q3⟩ := p6
        obtain ⟨vs', h1, h2⟩ := m6 _ _ q1
        have st : Stp μ6 H6 (mset μ6 D (.ls (acc ++ [y]))) (upd H6 D (.lst (vs' ++ [v]))) := Stp.put q1 (nf_lst h1)
        refine ⟨vs', h1, by rw [h2.len]; exact biglt q2, acc ++ [y], _, q3, mset_same, (((e13.trans e4).trans e5).trans e6).trans st, m6.put st ⟨_, upd_same, (h2.app (.cons r6 .nil)).stp st⟩⟩
      | false =>
        have p5 := (if_neg (by decide)).mp p5
        exact iteF ⟨acc, μ5, p5.2, p5.1, (e13.trans e4).trans e5, m5⟩
  · have ei : i = ws.length := by omega
    subst ei
    rw [List.drop_length] at q
    exact .inl ⟨itw.stop _ H' μ' rel2 m2 q.1 (Nat.le_refl _), hk D acc μ' H' q.2 eD (e1.trans e2) m2⟩
theorem lcV_tl {K : Frag} {E : L2.St → XK} {fi : FI} {g : FG} {c : FT} {e : FE} {vs : List Nat} {σ : L2.St} {H : Hp} {Q : VK} (h : tE K E (eLcV fi vs g c e) σ H Q) : tLc (tI K E fi) (tGv K g vs) (tT K EN c) (tE K EN e) vs σ H Q := by
  obtain ⟨ρ, μ, P, XX, hh, hm, hf, hv, hx⟩ := h
  refine lc_tl (kk := fun P p acc μ' => ∃ μ'', Sub μ'' μ' ∧ μ'' p = none ∧ P (.lst acc) μ'') (fun p acc μ' H' ⟨μ'', s, n, hP⟩ ep e' m' => ?_) hh hm hf hx
  obtain ⟨us, h1, h2⟩ := m' _ _ ep
  exact hv _ μ'' _ H' hP (e'.trans (s.stp H')) (s.mem m') (.lst ⟨h1, n⟩ (h2.stp (s.stp H')))
section
variable {X : Cx} {E : L2.St → XK} {elt tg iter : Expr} {ifs : List Expr} {scope : Scope} {own : List (Str × Nat)} {pos : Pos} {fi : FI} {g : FG} {c : FT} {e : FE}
theorem qe_lcV (hc : X.calm = true) (hN : X.N.Nodup) (hi : QI X E tg iter fi) (ok : BlkOk X.N X.env.scope scope own)
    (hg : ∀ (s : Shared) (H : Hp) (C : Addr) (cl : List (Str × Addr)) (fp : List Addr), QGv (X.blk s H scope (compEnvC scope cl C X.env) fp) tg g (own.map (·.2))) (ht : ∀ (s : Shared) (H : Hp) (C : Addr) (cl : List (Str × Addr)) (fp : List Addr), QTs (X.blk s H scope (compEnvC scope cl C X.env) fp) ifs c)
    (he : ∀ (s : Shared) (H : Hp) (C : Addr) (cl : List (Str × Addr)) (fp : List Addr), QE (X.blk s H scope (compEnvC scope cl C X.env) fp) EN elt e) (hs : ∀ x, foldedSetIterable iter X.env x = pure x := by intro _; rfl) :
    QE X E (.ListComp elt [⟨tg, iter, ifs, 0⟩] scope pos) (eLcV fi (own.map (·.2)) g c e) := ⟨(pe_lc hc hN hi.pi ok (fun s H C cl fp => (hg s H C cl fp).pg) (fun s H C cl fp => (ht s H C cl fp).pts) (fun s H C cl fp => (he s H C cl fp).pe) hs).qimp fun σ H Q h => lcV_tl h⟩
theorem asg_of {K : Frag} {te : TE} {fe : FE} {i : Nat} (k : ∀ σ H Q, tE K E fe σ H Q → te σ H Q) {D : Ends} {σ : L2.St} {H : Hp} (h : tS K E (sSet i fe) D σ H) : tAsg te (gName i) D σ H := by
  obtain ⟨ρ, μ, N, hh, hm, hf, l⟩ := h
  exact k σ H _ ⟨ρ, μ, _, _, hh, hm, hf, fun w μ1 v H1 p1 e1 m1 r1 => l.nx _ μ1 _ H1 p1 e1 m1 ((hh.stp e1).sv i r1), l.xl hh⟩
theorem qs_setLcV {i : Nat} {y : Str} {py spos : Pos} (hc : X.calm = true) (hN : X.N.Nodup) (hy : X.N[i]? = some y) (hyl : X.env.scope.names.lookup y = some .local)
    (hsw : swapsWith (.ListComp elt [⟨tg, iter, ifs, 0⟩] scope pos) (some (.Name y py)) spos.line X.env = pure true) (hi : QI X E tg iter fi) (ok : BlkOk X.N X.env.scope scope own)
    (hg : ∀ (s : Shared) (H : Hp) (C : Addr) (cl : List (Str × Addr)) (fp : List Addr), QGv (X.blk s H scope (compEnvC scope cl C X.env) fp) tg g (own.map (·.2))) (ht : ∀ (s : Shared) (H : Hp) (C : Addr) (cl : List (Str × Addr)) (fp : List Addr), QTs (X.blk s H scope (compEnvC scope cl C X.env) fp) ifs c)
    (he : ∀ (s : Shared) (H : Hp) (C : Addr) (cl : List (Str × Addr)) (fp : List Addr), QE (X.blk s H scope (compEnvC scope cl C X.env) fp) EN elt e) (hs : ∀ x, foldedSetIterable iter X.env x = pure x := by intro _; rfl) :
    QS X E (.Assign [.Name y py] (.ListComp elt [⟨tg, iter, ifs, 0⟩] scope pos) spos) (sSet i (eLcV fi (own.map (·.2)) g c e)) := ⟨(ps_setLc hc hN hy hyl hsw hi.pi ok (fun s H C cl fp => (hg s H C cl fp).pg) (fun s H C cl fp => (ht s H C cl fp).pts) (fun s H C cl fp => (he s H C cl fp).pe) hs).qimp fun D σ H h => asg_of (fun _ _ _ => lcV_tl) h⟩
end
/-! {k: v for .. in .. if c} -/
/-! ### what comprehensions come to, where their elements change nothing -/
/-- μ' holds all that μ holds -/
def Ext (μ μ' : Mu) : Prop := ∀ a o, μ a = some o → μ' a = some o
theorem Ext.new {μ : Mu} {p : Addr} {o : O} (h : μ p = none) : Ext μ (mset μ p o) := fun a u e => by
  rw [mset_ne fun z => by
    rw [z, h] at e
    cases e]
  exact e
abbrev noX : Xo := fun _ _ _ => False
end Q
namespace Q.So
open PySem L2 Evl
open Q (sLt)
theorem cmpS_gt {P : Program} {w : World} {A : Around} {B : Nat → Value → Prop} (z : Nat → Str) (hz : ∀ i v, B i v → ∃ t, v = .str (z i) t) : CmpOf P w A .Gt B (fun i j => decide ((z j).cps.toList < (z i).cps.toList)) := by
  intro i j vi vj s Q E bi bj h
  obtain ⟨t, rfl⟩ := hz i vi bi
  obtain ⟨u, rfl⟩ := hz j vj bj
  refine richCompare_gives (op := .Gt) (typeIs_str s _ t) (typeIs_str s _ u) F.slot_str_gt F.entry_str_gt ?_ (gives_str_gt _ _ t u) (fun q => nomatch q) h
  exact F.args_str_gt_2 _ _
theorem cmpS_lt {P : Program} {w : World} {A : Around} {B : Nat → Value → Prop} (z : Nat → Str) (hz : ∀ i v, B i v → ∃ t, v = .str (z i) t) : CmpOf P w A .Lt B (fun i j => decide ((z i).cps.toList < (z j).cps.toList)) := by
  intro i j vi vj s Q E bi bj h
  obtain ⟨t, rfl⟩ := hz i vi bi
  obtain ⟨u, rfl⟩ := hz j vj bj
  refine richCompare_gives (op := .Lt) (typeIs_str s _ t) (typeIs_str s _ u) F.slot_str_lt F.entry_str_lt ?_ (gives_str_lt _ _ t u) (fun q => nomatch q) h
  exact F.args_str_lt_2 _ _
section
variable {prog : Program} {w : World} {A : Around} {E : Value → Shared → Prop} {s : Shared}
/-- the walk over the pair that max, min lay down -/
theorem pair_walk {op : CmpOp} {a b : Value} {bt : Nat → Nat → Bool} {Q : Value → Shared → Prop} (hh : A.handled = none) (hc : CmpOf prog w A.in1 op (fun i v => (#[a, b] : Array Value)[i]? = some v) bt)
    (h : ∀ h' tk, (∀ c o, s.heap.get? c = some o → h'.get? c = some o) → Q (if bt 1 0 = true then b else a) { s with heap := h', toks := tk }) :
    wpAny (model prog w) A.in1 (pyIter (.ref s.heap.objs.size)) (fun it s₂ => ∃ I fp wr n P St bt, it = .ref I ∧ Walks prog w A.in1 I fp wr n P St ∧ St 0 s₂.heap ∧ (∀ b ∈ fp, b < s₂.heap.objs.size) ∧ 0 < n ∧ CmpOf prog w A.in1 op P bt ∧
      ∀ v h' tk, P (argBest bt (n - 1)) v → (∀ b o, b ∉ wr → s₂.heap.get? b = some o → h'.get? b = some o) → Q v { s₂ with heap := h', toks := tk }) E
      { s with heap := s.heap.push { cls := .type "tuple", data := .seq #[a, b] } } := by
  have new : (s.heap.push { cls := .type "tuple", data := .seq #[a, b] }).IsTuple s.heap.objs.size #[a, b] := ⟨_, Heap.get?_push_size _ rfl, rfl, 0, rfl⟩
  have sz : (s.heap.push { cls := .type "tuple", data := .seq #[a, b] }).objs.size = s.heap.objs.size + 1 := Heap.size_push ..
  refine wpAny_pyIter_tuple new ?_
  refine ⟨_, [_, s.heap.objs.size], [_], 2, _, _, bt, rfl, Walks.tuple (A := A.in1) hh _ s.heap.objs.size (fun z => Nat.succ_ne_self _ (sz.symm.trans z.symm)) #[a, b], ?_, ?_, by decide, hc, ?_⟩
  · exact ⟨⟨_, Heap.get?_push_size _ rfl, rfl, rfl⟩, new.push _⟩
  · intro c hm
    show c < ((s.heap.push _).push _).objs.size
    rw [Heap.size_push, sz]
    simp only [List.mem_cons, List.not_mem_nil, or_false] at hm
    rcases hm with rfl | rfl
    · rw [sz]
      exact Nat.lt_succ_self _
    · exact Nat.lt_succ_of_lt (Nat.lt_succ_self _)
  · intro v h' tk hP hk
    have old : ∀ c o, s.heap.get? c = some o → h'.get? c = some o := by
      intro c o e
      refine hk c o ?_ (Heap.get?_push_of_some _ (Heap.get?_push_of_some _ e))
      intro hm
      simp only [List.mem_cons, List.not_mem_nil, or_false] at hm
      have l := Heap.lt_size e
      rw [hm, sz] at l
      exact Nat.lt_irrefl _ (Nat.lt_of_succ_lt l)
    have q := h h' tk old
    have hv : v = if bt 1 0 = true then b else a := by
      have hb : argBest bt (2 - 1) = if bt 1 0 = true then 1 else 0 := by simp [argBest]
      rw [hb] at hP
      by_cases c : bt 1 0 = true
      · rw [if_pos c] at hP ⊢
        simpa using hP.symm
      · rw [if_neg c] at hP ⊢
        simpa using hP.symm
    rw [hv]
    exact q
theorem sAt {x y : Str} {t u : Tok} (i : Nat) (v : Value) (h : (#[Value.str x t, Value.str y u] : Array Value)[i]? = some v) : ∃ t', v = .str (if i = 0 then x else y) t' := by
  match i, h with
  | 0, h => exact ⟨t, by simpa using h.symm⟩
  | 1, h => exact ⟨u, by simpa using h.symm⟩
  | n + 2, h => simp at h
end
def sMax (x y : Str) : Str := if sLt x y = true then y else x
def sMin (x y : Str) : Str := if sLt y x = true then y else x
def rMaxS : List V → Hp → VK → Prop := fun xs H Q => ∃ x y, xs = [.str x, .str y] ∧ Q (.str (sMax x y)) H
def rMinS : List V → Hp → VK → Prop := fun xs H Q => ∃ x y, xs = [.str x, .str y] ∧ Q (.str (sMin x y)) H
theorem cr_maxS {X : Cx} (hc : X.calm = true) : CallR X (.builtin "max") rMaxS := by
  intro pins s σ H xs us Q I r h
  obtain ⟨x, y, rfl, q⟩ := h
  obtain ⟨u1, u2, rfl, ⟨t, rfl⟩, ⟨t', rfl⟩⟩ := vals2 r
  refine call_max_two (pair_walk (I.ok.hd hc) (cmpS_gt (fun i => if i = 0 then x else y) (fun i v => sAt i v)) fun h' tk k => ⟨_, H, I.kept k, ?_, q⟩)
  unfold sMax sLt
  by_cases c : x.cps.toList < y.cps.toList
  · simp [c]
    exact ⟨_, rfl⟩
  · simp [c]
    exact ⟨_, rfl⟩
theorem cr_minS {X : Cx} (hc : X.calm = true) : CallR X (.builtin "min") rMinS := by
  intro pins s σ H xs us Q I r h
  obtain ⟨x, y, rfl, q⟩ := h
  obtain ⟨u1, u2, rfl, ⟨t, rfl⟩, ⟨t', rfl⟩⟩ := vals2 r
  refine call_min_two (pair_walk (I.ok.hd hc) (cmpS_lt (fun i => if i = 0 then x else y) (fun i v => sAt i v)) fun h' tk k => ⟨_, H, I.kept k, ?_, q⟩)
  unfold sMin sLt
  by_cases c : y.cps.toList < x.cps.toList
  · simp [c]
    exact ⟨_, rfl⟩
  · simp [c]
    exact ⟨_, rfl⟩
theorem sLt_irr (x : Str) : sLt x x = false := by
  unfold sLt
  exact decide_eq_false (List.lt_irrefl _)
theorem sLt_tr {x y z : Str} (h1 : sLt x y = true) (h2 : sLt y z = true) : sLt x z = true := by
  unfold sLt at *
  exact decide_eq_true (List.lt_trans (of_decide_eq_true h1) (of_decide_eq_true h2))
theorem str_eq {x y : Str} (h : x.cps.toList = y.cps.toList) : x = y := by
  cases x
  cases y
  exact congrArg _ (Array.toList_inj.mp h)
theorem sLt_tri (x y : Str) : sLt x y = true ∨ x = y ∨ sLt y x = true := by
  unfold sLt
  by_cases h1 : x.cps.toList < y.cps.toList
  · exact .inl (decide_eq_true h1)
  · by_cases h2 : y.cps.toList < x.cps.toList
    · exact .inr (.inr (decide_eq_true h2))
    · exact .inr (.inl (str_eq (List.le_antisymm (List.not_lt.mp h2) (List.not_lt.mp h1))))
theorem sLt_as {x y : Str} (h : sLt x y = true) : sLt y x = false := by
  cases e : sLt y x with
  | false => rfl
  | true =>
    have q := sLt_tr h e
    rw [sLt_irr] at q
    cases q
theorem sLt_asym {a b : Str} (h : sLt a b = true) : sLt b a = false := sLt_as h
/-- the order of texts is total, so a sorted arrangement is the only one -/
def leS (a b : Str) : Bool := !sLt b a
theorem leS_tr (a b c : Str) (h1 : leS a b = true) (h2 : leS b c = true) : leS a c = true := by
  unfold leS at *
  cases q : sLt c a with
  | false => rfl
  | true =>
    rcases sLt_tri b c with h | h | h
    · have := sLt_tr h q
      rw [this] at h1
      cases h1
    · subst h
      rw [q] at h1
      cases h1
    · rw [h] at h2
      cases h2
theorem leS_tot (a b : Str) : (leS a b || leS b a) = true := by
  unfold leS
  rcases sLt_tri a b with h | h | h
  · rw [sLt_as h]
    rfl
  · subst h
    rw [sLt_irr]
    rfl
  · rw [h, sLt_as h]
    rfl
theorem leS_anti {a b : Str} (h1 : leS a b = true) (h2 : leS b a = true) : a = b := by
  unfold leS at *
  rcases sLt_tri a b with h | h | h
  · rw [h] at h2
    cases h2
  · exact h
  · rw [h] at h1
    cases h1
def sortS (ks : List Str) : List Str := ks.mergeSort leS
theorem sortS_perm (ks : List Str) : (sortS ks).Perm ks := List.mergeSort_perm ks leS
theorem sortS_pw (ks : List Str) : (sortS ks).Pairwise (fun a b => leS a b = true) := List.pairwise_mergeSort leS_tr leS_tot ks
theorem rising_pw : ∀ (p : Str) (l : List Str), PyProof.Rows.risingS p l = true → (p :: l).Pairwise (fun a b => leS a b = true)
  | p, [], _ => by simp
  | p, x :: r, h => by
    unfold PyProof.Rows.risingS at h
    obtain ⟨h1, h2⟩ := Bool.and_eq_true_iff.mp h
    have ih := rising_pw x r h2
    have hpx : leS p x = true := by
      unfold leS sLt
      rw [PyProof.Rows.lt_meets]
      exact h1
    refine List.pairwise_cons.mpr ⟨fun y hy => ?_, ih⟩
    rcases List.mem_cons.mp hy with e | e
    · rw [e]
      exact hpx
    · exact leS_tr p x y hpx ((List.pairwise_cons.mp ih).1 y e)
theorem sorted_pw {l : List Str} (h : PyProof.Rows.sortedS l = true) : l.Pairwise (fun a b => leS a b = true) := by
  cases l with
  | nil => exact List.Pairwise.nil
  | cons x r => exact rising_pw x r h
theorem pw_only {a b : List Str} (hp : a.Perm b) (ha : a.Pairwise (fun a b => leS a b = true)) (hb : b.Pairwise (fun a b => leS a b = true)) : a = b :=
  List.Perm.eq_of_pairwise (le := fun a b => leS a b = true) (fun _ _ _ _ h1 h2 => leS_anti h1 h2) ha hb hp
theorem sorted_only {ks ys : List Str} (hp : ys.Perm ks) (h : PyProof.Rows.sortedS ys = true) : ys = sortS ks := pw_only (hp.trans (sortS_perm ks).symm) (sorted_pw h) (sortS_pw ks)
open PyProof.Rows SrtO Srt
def sv : Value → Str
  | .str x _ => x
  | _ => ""
def ltSv (v u : Value) : Bool := sLt (sv v) (sv u)
theorem swo_str : Swo ltSv := by
  refine ⟨fun x y h => sLt_asym h, fun x y z h1 h2 => ?_⟩
  have l1 : leS (sv x) (sv y) = true := by unfold leS; rw [show sLt (sv y) (sv x) = false from h1]; rfl
  have l2 : leS (sv y) (sv z) = true := by unfold leS; rw [show sLt (sv z) (sv y) = false from h2]; rfl
  have l3 := leS_tr _ _ _ l1 l2
  unfold leS at l3
  show sLt (sv z) (sv x) = false
  cases e : sLt (sv z) (sv x) with
  | false => rfl
  | true =>
    rw [e] at l3
    cases l3
theorem strs_mem : ∀ {vs : List Value} {ss : List Str}, StrsAre vs ss → ∀ v ∈ vs, ∃ x t, v = Value.str x t
  | _, _, .nil, v, h => absurd h (by simp)
  | _, _, .cons n t r, v, h => by
    rcases List.mem_cons.mp h with e | h
    · exact ⟨n, t, e⟩
    · exact strs_mem r v h
theorem strs_sv : ∀ {vs : List Value}, (∀ v ∈ vs, ∃ x t, v = Value.str x t) → StrsAre vs (vs.map sv)
  | [], _ => .nil
  | v :: vs, h => by
    obtain ⟨i, t, e⟩ := h v List.mem_cons_self
    subst e
    exact .cons i t (strs_sv fun u hu => h u (List.mem_cons_of_mem _ hu))
theorem sv_strs : ∀ {vs : List Value} {ns : List Str}, StrsAre vs ns → vs.map sv = ns
  | _, _, .nil => rfl
  | _, _, .cons n t r => congrArg (n :: ·) (sv_strs r)
section
variable {prog : Program} {w : World} {A : Around} {E : Value → Shared → Prop} {s : Shared}
theorem str_cmp {vs : List Value} {ns : List Str} (hI : StrsAre vs ns) : Cmp prog w A s oneType' (fun p => p.1 ∈ vs) (lt2 ltSv) := by
  intro p q hm hm'
  obtain ⟨a, t, e⟩ := strs_mem hI _ hm
  obtain ⟨b, u, e'⟩ := strs_mem hI _ hm'
  show wpAny (model prog w) A (keyLt' oneType' p.1 q.1) (fun r s' => s' = s ∧ r = ltSv p.1 q.1) (fun _ _ => False) s
  rw [e, e', keyLt'_oneType]
  exact oneLt_str ⟨rfl, rfl⟩
theorem strs_sortable {a : Addr} {vs : List Value} {ns : List Str} (hI : StrsAre vs ns) (h2 : 2 ≤ vs.length) : SortableO prog w A s a vs ltSv := by
  intro h' _
  refine ⟨oneType', fun Q E hq => ?_, str_cmp hI⟩
  match vs, hI, h2 with
  | v1 :: v2 :: rest, hI, _ =>
    rw [keyKind_strs hI]
    exact wpAny_pure hq
  | [], _, h => exact absurd h (by decide)
  | [v], _, h => exact absurd h (by simp)
theorem strs_out {vs out : List Value} {ns : List Str} (hI : StrsAre vs ns) (hs : Srtd ltSv out) (hp : out.Perm vs) : StrsAre out (sortS ns) := by
  have h1 : StrsAre out (out.map sv) := strs_sv fun v hv => strs_mem hI v (hp.mem_iff.mp hv)
  have h2 : (out.map sv).Perm ns := by
    have q := hp.map sv
    rw [sv_strs hI] at q
    exact q
  have h3 : (out.map sv).Pairwise (fun a b => leS a b = true) := List.pairwise_map.mpr (hs.imp fun {x y} h => by
    have h' : sLt (sv y) (sv x) = false := h
    unfold leS
    rw [h']
    rfl)
  have e : out.map sv = sortS ns := pw_only (h2.trans (sortS_perm ns).symm) h3 (sortS_pw ns)
  rwa [e] at h1
end
/-- sorted(list of texts) -/
def rSrtSA (K : Frag) : List V → Hp → VK → Prop := fun vs H Q => ∃ (a : Addr) (xs : List Str), vs = [V.ref a] ∧ SqL K H a (xs.map V.str) ∧
  ∀ p : Addr, H p = none → Q (.ref p) (upd H p (.lst ((sortS xs).map V.str)))
theorem cr_srtSA {X : Cx} : CallR X (.builtin "sorted") (rSrtSA X.K) := by
  intro pins s σ H vs us Q I r h
  obtain ⟨a, xs, rfl, hs, q⟩ := h
  obtain ⟨its, rv, hl, hz⟩ := I.list hs
  rw [Vals.ref1 r]
  have hlen0 := rv.length
  rw [List.length_map] at hlen0 hz
  refine sorted_strsAny hl.isList rv.strs (by rw [← hlen0]; exact hz) fun out ys h1 h2 h3 => ?_
  have e := sorted_only h2 h3
  subst e
  obtain ⟨ep, he'⟩ := sortedAll_at s.heap its out
  have hlen : ((sortS xs).map V.str).length ≤ sizeLine := by
    rw [List.length_map, h2.length_eq]
    exact hz
  exact ⟨.ref _, upd H (s.heap.objs.size + 1) (.lst ((sortS xs).map V.str)), I.laid (t' := s.toks) (fun _ _ => sortedAll_old) (Nat.le_succ _) ⟨hlen, out.toList, ep, vals_of_strs h1, he'⟩, rfl, q _ (I.hok.fresh (Nat.le_succ _))⟩
/-- sorted(dict of texts) -/
def rSrtDA : List V → Hp → VK → Prop := fun xs H Q => ∃ (a : Addr) (kvs : List (Key × V)) (ks : List Str), xs = [.ref a] ∧ Rd H a (.dK kvs) ∧ kvs.map (·.1) = ks.map Sum.inr ∧
    ∀ p, H p = none → Q (.ref p) (upd H p (.lst ((sortS ks).map V.str)))
theorem dict_keys {X : Cx} {ks : List Str} {vs : List (Key × Value)} {acc : Array Value} (hkeys : vs.map (·.1) = ks.map Sum.inr) (hl : vs.length = ks.length) (hacc1 : acc.size = vs.length)
    (hacc2 : ∀ (j : Nat) (v : Value), acc[j]? = some v → ∃ (k : Key) (x : Value), vs[j]? = some (k, x) ∧ (mixKind X.prog X.w).is k v = true) : StrsAre acc.toList ks := by
  have hal : acc.toList.length = ks.length := by rw [Array.length_toList, hacc1, hl]
  exact strs_at hal fun j v e => by
    obtain ⟨k, x, e1, e2⟩ := hacc2 j v (by rw [← Array.getElem?_toList]; exact e)
    have e3 : (vs.map (·.1))[j]? = some k := by rw [List.getElem?_map, e1]; all_goals rfl
    rw [hkeys, List.getElem?_map] at e3
    cases e4 : ks[j]? with
    | none => rw [e4] at e3; cases e3
    | some y =>
      rw [e4] at e3
      have e5 : Sum.inr y = k := Option.some.inj e3
      subst e5
      obtain ⟨t, ev⟩ := Value.isStrOf_shape (x := y) (v := v) e2
      exact ⟨y, t, rfl, ev⟩
theorem cr_srtDA {X : Cx} (hcalm : X.calm = true) : CallR X (.builtin "sorted") rSrtDA := by
  intro pins s σ H xs us Q I r q
  obtain ⟨a, kvs, ks, ex, hd, hks, q⟩ := q
  subst ex
  obtain ⟨u, eu, rx⟩ := vals1 r
  subst eu
  cases rx
  obtain ⟨z, lo, vs, rel, dd⟩ := dk_rd I.hok hd
  obtain ⟨ep, hat⟩ := dd.dictAt
  have hkeys : vs.map (·.1) = ks.map Sum.inr := rel.keys.symm.trans hks
  have hl : vs.length = ks.length := by
    have e := congrArg List.length hkeys
    rw [List.length_map, List.length_map] at e
    exact e
  have h16 : vs.length ≤ sizeLine := by rw [← rel.length]; exact z
  refine Calls.call_function_entry PyProof.Rows.kind_sorted PyProof.Rows.plain_sorted PyProof.Rows.entry_sorted (PyProof.Rows.args_sorted1 _) ?_
  unfold Builtin.«sorted»
  refine wpAny_bind (m := checkCount "sorted" 1 1 _) (wpAny_pure ?_)
  refine wpAny_bind (PySem.W.kdu_collect (A := X.A.in1) (PySem.W.kdl_dict (knd := mixKind X.prog X.w) (kvs := vs) (ep := ep) lo) (I.ok.hd hcalm) hat h16 fun h' tk acc hk hacc => ?_)
  have hS : StrsAre acc.toList ks := dict_keys (X := X) hkeys hl hacc.1 hacc.2
  have hal : acc.toList.length = ks.length := by rw [Array.length_toList, hacc.1, hl]
  have I1 : Inv X pins σ H { s with heap := h', toks := tk } := I.kept hk
  have hz2 : acc.toList.length ≤ sizeLine := by
    rw [hal, ← hl]
    exact h16
  refine wpAny_bind (wpAny_newList ?_ hz2)
  have hoL : (h'.push (seqObj "list" acc.toList.toArray 0)).get? h'.objs.size = some (seqObj "list" acc.toList.toArray 0) := Heap.get?_push_size _ rfl
  show wpAny _ _ _ _ _ { s with heap := h'.push (seqObj "list" acc.toList.toArray 0), toks := tk }
  refine wpAny_bind (wpAny_holding (wpAny_call_entry PyProof.Rows.slot_list_sort ⟨_, hoL, rfl⟩ PyProof.Rows.entry_list_sort
    (list_sort_ord (s := { s with heap := h'.push (seqObj "list" acc.toList.toArray 0), toks := tk }) swo_str hoL hz2 (fun h2 => strs_sortable hS h2) fun out hs hb => ⟨_, rfl, ?_⟩)
    (PyProof.Rows.args_list_sort _)))
  have g1 := strs_out hS hs hb.perm
  obtain ⟨e', he'⟩ := PyProof.Rows.sortedHeap_at (vs := acc.toList) (out := out.toArray) hoL
  have hlen : ((sortS ks).map V.str).length ≤ sizeLine := by
    rw [List.length_map, (sortS_perm ks).length_eq, ← hl]
    exact h16
  refine wpAny_pure ⟨_, rfl, .ref h'.objs.size, upd H h'.objs.size (.lst ((sortS ks).map V.str)), I1.laid (t' := tk) (fun b u e => ?_) (Nat.le_refl _)
    (show ObjOk X.prog X.w _ _ _ (.lst ((sortS ks).map V.str)) from ⟨hlen, out, e', vals_of_strs g1, he'⟩), rfl, q _ (I1.hok.fresh (Nat.le_refl _))⟩
  have hb : b < h'.objs.size := Heap.lt_size e
  rw [PyProof.Rows.sortedHeap_old (Nat.ne_of_lt hb) (by rw [size_push']; exact Nat.lt_succ_of_lt hb)]
  exact Heap.get?_push_of_some _ e
/-- sorted(dict of texts, reverse=True) -/
def rSrtDR : List V → List V → Hp → VK → Prop := fun xs zs H Q => ∃ (a : Addr) (kvs : List (Key × V)) (ks : List Str), xs = [.ref a] ∧ zs = [.bl true] ∧ Rd H a (.dK kvs) ∧ kvs.map (·.1) = ks.map Sum.inr ∧
    ∀ p, H p = none → Q (.ref p) (upd H p (.lst ((sortS ks).reverse.map V.str)))
theorem strs_rev : ∀ {vs : List Value} {ss : List Str}, StrsAre vs ss → StrsAre vs.reverse ss.reverse := fun {vs ss} h => by
  have h1 : StrsAre vs.reverse (vs.reverse.map sv) := strs_sv fun v hv => strs_mem h v (List.mem_reverse.mp hv)
  rwa [List.map_reverse, sv_strs h] at h1
theorem cr_srtDR {X : Cx} (hcalm : X.calm = true) : CallRK X (.builtin "sorted") [Str.ofString "reverse"] rSrtDR := by
  intro pins s σ H xs zs us ws Q I r rz q
  obtain ⟨a, kvs, ks, ex, ez, hd, hks, q⟩ := q
  subst ex
  subst ez
  obtain ⟨u, eu, rx⟩ := vals1 r
  subst eu
  cases rx
  obtain ⟨w1, rfl, e1⟩ := vals1 rz
  obtain rfl : w1 = Value.bool true := e1
  obtain ⟨z, lo, vs, rel, dd⟩ := dk_rd I.hok hd
  obtain ⟨ep, hat⟩ := dd.dictAt
  have hkeys : vs.map (·.1) = ks.map Sum.inr := rel.keys.symm.trans hks
  have hl : vs.length = ks.length := by
    have e := congrArg List.length hkeys
    rw [List.length_map, List.length_map] at e
    exact e
  have h16 : vs.length ≤ sizeLine := by rw [← rel.length]; exact z
  refine call_function_entry_kw PyProof.Rows.kind_sorted PyProof.Rows.plain_sorted PyProof.Rows.entry_sorted (PyProof.Rows.args_sorted_rev _ _) ?_
  unfold Builtin.«sorted»
  refine wpAny_bind (m := checkCount "sorted" 1 1 _) (wpAny_pure ?_)
  refine wpAny_bind (PySem.W.kdu_collect (A := X.A.in1) (PySem.W.kdl_dict (knd := mixKind X.prog X.w) (kvs := vs) (ep := ep) lo) (I.ok.hd hcalm) hat h16 fun h' tk acc hk hacc => ?_)
  have hS : StrsAre acc.toList ks := dict_keys (X := X) hkeys hl hacc.1 hacc.2
  have hal : acc.toList.length = ks.length := by rw [Array.length_toList, hacc.1, hl]
  have I1 : Inv X pins σ H { s with heap := h', toks := tk } := I.kept hk
  have hz2 : acc.toList.length ≤ sizeLine := by
    rw [hal, ← hl]
    exact h16
  refine wpAny_bind (wpAny_newList ?_ hz2)
  have hoL : (h'.push (seqObj "list" acc.toList.toArray 0)).get? h'.objs.size = some (seqObj "list" acc.toList.toArray 0) := Heap.get?_push_size _ rfl
  show wpAny _ _ _ _ _ { s with heap := h'.push (seqObj "list" acc.toList.toArray 0), toks := tk }
  refine wpAny_bind (wpAny_holding (wpAny_call_entry_kw PyProof.Rows.slot_list_sort ⟨_, hoL, rfl⟩ PyProof.Rows.entry_list_sort
    (SrtR.list_sort_ordR (b := true) (s := { s with heap := h'.push (seqObj "list" acc.toList.toArray 0), toks := tk }) swo_str hoL hz2 (fun h2 => strs_sortable hS h2) fun out hs hb => ⟨_, rfl, ?_⟩)
    (PyProof.Rows.args_list_sort_rev _ _)))
  have g1 := strs_rev (strs_out hS hs (hb.perm.trans (List.reverse_perm _)))
  obtain ⟨e', he'⟩ := PyProof.Rows.sortedHeap_at (vs := acc.toList) (out := out.toArray.reverse) hoL
  have hlen : ((sortS ks).reverse.map V.str).length ≤ sizeLine := by
    rw [List.length_map, List.length_reverse, (sortS_perm ks).length_eq, ← hl]
    exact h16
  have e0 : out.reverse.toArray = out.toArray.reverse := by simp
  refine wpAny_pure ⟨_, rfl, .ref h'.objs.size, upd H h'.objs.size (.lst ((sortS ks).reverse.map V.str)), I1.laid (t' := tk) (fun b u e => ?_) (Nat.le_refl _)
    (show ObjOk X.prog X.w _ _ _ (.lst ((sortS ks).reverse.map V.str)) from ⟨hlen, out.reverse, e', vals_of_strs g1, by rw [e0]; exact he'⟩), rfl, q _ (I1.hok.fresh (Nat.le_refl _))⟩
  have hb : b < h'.objs.size := Heap.lt_size e
  rw [PyProof.Rows.sortedHeap_old (Nat.ne_of_lt hb) (by rw [size_push']; exact Nat.lt_succ_of_lt hb)]
  exact Heap.get?_push_of_some _ e
def sortI (ks : List Int) : List Int := ks.mergeSort fun a b => decide (a ≤ b)
theorem sortI_perm (ks : List Int) : (sortI ks).Perm ks := List.mergeSort_perm ks _
theorem sortI_pw (ks : List Int) : (sortI ks).Pairwise (· ≤ ·) := by
  have h := List.pairwise_mergeSort (le := fun a b : Int => decide (a ≤ b)) (fun a b c h1 h2 => decide_eq_true (Int.le_trans (of_decide_eq_true h1) (of_decide_eq_true h2))) (fun a b => by
    rcases Int.le_total a b with q | q
    · rw [decide_eq_true q, Bool.true_or]
    · rw [decide_eq_true q, Bool.or_true]) ks
  exact h.imp fun q => of_decide_eq_true q
theorem sortedI_only {ks ys : List Int} (hp : ys.Perm ks) (h : ys.Pairwise (· ≤ ·)) : ys = sortI ks :=
  List.Perm.eq_of_pairwise (le := (· ≤ ·)) (fun _ _ _ _ h1 h2 => Int.le_antisymm h1 h2) h (sortI_pw ks) (hp.trans (sortI_perm ks).symm)
end Q.So
namespace Q
open PySem PySem.Spec PyProof.Rows L2 Evl
open So (sMax sMin sortS sortI)
/-! built-in functions -/
abbrev FB := List W → Mu → Po → Prop
def rB (K : Frag) (f : FB) : List V → Hp → VK → Prop := fun vs H Q => ∃ ws μ P, RwAll K H μ vs ws ∧ Mem K H μ ∧ f ws μ P ∧ VL K Q μ H P
theorem callR_imp {X : Cx} {c : Value} {r r' : List V → Hp → VK → Prop} (h : CallR X c r) (k : ∀ vs H Q, r' vs H Q → r vs H Q) : CallR X c r' := fun pins s σ H xs us Q I rx q => h pins s σ H xs us Q I rx (k xs H Q q)
theorem callR_or {X : Cx} {c : Value} {r r' : List V → Hp → VK → Prop} (h : CallR X c r) (h' : CallR X c r') : CallR X c (fun vs H Q => r vs H Q ∨ r' vs H Q) := fun pins s σ H xs us Q I rx q => q.elim (h pins s σ H xs us Q I rx) (h' pins s σ H xs us Q I rx)
@[reducible] def eB (f : FB) (a : FA) : FE := fun ρ μ P X => a ρ μ (fun ws μ1 => f ws μ1 P) X
theorem tB_of {K : Frag} {E : L2.St → XK} {f : FB} {fa : FA} {r : List V → Hp → VK → Prop} (k : ∀ vs H Q, rB K f vs H Q → r vs H Q) {σ : L2.St} {H : Hp} {Q : VK} (h : tE K E (eB f fa) σ H Q) : tCB r (tA K E fa) σ H Q := by
  obtain ⟨ρ, μ, P, XX, hh, hm, hf, hv, hx⟩ := h
  exact ⟨ρ, μ, _, XX, hh, hm, hf, fun ws μ1 vs H1 p1 e1 m1 r1 => k vs H1 Q ⟨ws, μ1, P, r1, m1, p1, hv.stp e1⟩, hx⟩
section
variable {X : Cx} {E : L2.St → XK} {x : Str} {p pos : Pos} {e : Expr} {es : List Expr} {fa : FA} {id T : String} {f : FB}
theorem qe_b (hc : CallR X (.builtin id) (rB X.K f)) (hg : Gl X x) (hm : X.mg x = none) (hv : bootBuiltins x = some (.builtin id)) (ha : QA X E (e :: es) fa) (hn : x ≠ "__name__" := by decide) (hdb : (x == ("__debug__" : Str)) = false := by decide)
    (he : starEach (e :: es) X.env = (false, eval e X.env) :: starEach es X.env := by rfl) (hpl : (backTo pos (starEach es X.env)).any (·.1) = false := by rfl) : QE X E (.Call (.Name x p) (e :: es) [] pos) (eB f fa) :=
  ⟨(pe_callB hc hg hm hv ha.pa hn hdb he hpl).qimp fun σ H Q h => tB_of (fun _ _ _ h => h) h⟩
theorem qe_ty (hc : CallR X (.type T) (rB X.K f)) (hg : Gl X x) (hm : X.mg x = none) (hv : bootBuiltins x = some (.type T)) (ha : QA X E (e :: es) fa) (hn : x ≠ "__name__" := by decide) (hdb : (x == ("__debug__" : Str)) = false := by decide)
    (he : starEach (e :: es) X.env = (false, eval e X.env) :: starEach es X.env := by rfl) (hpl : (backTo pos (starEach es X.env)).any (·.1) = false := by rfl) : QE X E (.Call (.Name x p) (e :: es) [] pos) (eB f fa) :=
  ⟨(pe_callTy hc hg hm hv ha.pa hn hdb he hpl).qimp fun σ H Q h => tB_of (fun _ _ _ h => h) h⟩
end
section
variable {X : Cx}
/-! len -/
@[reducible] def bLen : FB := fun ws μ P => match ws with
  | [.str z] => z.length ≤ 16000000 ∧ P (.int (z.length : Int)) μ
  | [.tup us] => P (.int (us.length : Int)) μ
  | [w] => (match rdL μ w with
    | some us => P (.int (us.length : Int)) μ
    | none => (match w with
      | .ref a => (match μ a with
        | some (.dk kvs) => P (.int (kvs.length : Int)) μ
        | _ => False)
      | _ => False))
  | _ => False
theorem cb_len : CallR X (.builtin "len") (rB X.K bLen) := callR_imp (callR_or call_len call_lenD) fun vs H Q h => by
  obtain ⟨ws, μ, P, r, m, h, l⟩ := h
  unfold bLen at h
  split at h
  · obtain ⟨v, rfl, r1⟩ := r.one
    exact .inl ⟨v, _, rfl, by rw [rw_str r1]; exact ⟨big h.1, rfl⟩, l.now h.2 m (.int _)⟩
  · obtain ⟨v, rfl, r1⟩ := r.one
    cases r1 with
    | tup q hs => exact .inl ⟨_, _, rfl, .inr ⟨_, tup_sq q, hs.len.symm⟩, l.now h m (.int _)⟩
  · obtain ⟨v, rfl, r1⟩ := r.one
    split at h
    · rename_i us eu
      obtain ⟨a, vs, rfl, q, hs⟩ := rdL_at eu r1 m
      exact .inl ⟨_, _, rfl, .inl ⟨_, q, hs.len.symm⟩, l.now h m (.int _)⟩
    · split at h
      · split at h
        · rename_i kvs ea
          cases r1
          obtain ⟨kv, h1, h2⟩ := m _ _ ea
          exact .inr ⟨_, kv, rfl, h1, by rw [h2.len]; exact l.now h m (.int _)⟩
        · exact h.elim
      · exact h.elim
  · exact h.elim
/-! int, ord, abs, str, max, min -/
@[reducible] def bInt : FB := fun ws μ P => match ws with
  | [.int i] => P (.int i) μ
  | [.bl b] => P (.int (if b then 1 else 0)) μ
  | _ => False
theorem cb_int : CallR X (.type "int") (rB X.K bInt) := callR_imp call_int1 fun vs H Q h => by
  obtain ⟨ws, μ, P, r, m, h, l⟩ := h
  unfold bInt at h
  split at h
  · obtain ⟨v, rfl, r1⟩ := r.one
    exact .inl ⟨_, by rw [rw_int r1], l.now h m (.int _)⟩
  · obtain ⟨v, rfl, r1⟩ := r.one
    exact .inr ⟨_, by rw [rw_bl r1], l.now h m (.int _)⟩
  · exact h.elim
theorem max_is (i j : Int) : (if j > i then j else i) = max i j := by
  split <;> omega
theorem min_is (i j : Int) : (if j < i then j else i) = min i j := by
  split <;> omega
@[reducible] def bMax : FB := fun ws μ P => match ws with
  | [.int i, .int j] => P (.int (max i j)) μ
  | [.str i, .str j] => P (.str (sMax i j)) μ
  | [w] => ∃ ns : List Int, rdL μ w = some (ns.map W.int) ∧ 0 < ns.length ∧ ∀ m, m ∈ ns → (∀ y, y ∈ ns → y ≤ m) → P (.int m) μ
  | _ => False
@[reducible] def bMin : FB := fun ws μ P => match ws with
  | [.int i, .int j] => P (.int (min i j)) μ
  | [.str i, .str j] => P (.str (sMin i j)) μ
  | [w] => ∃ ns : List Int, rdL μ w = some (ns.map W.int) ∧ 0 < ns.length ∧ ∀ m, m ∈ ns → (∀ y, y ∈ ns → m ≤ y) → P (.int m) μ
  | _ => False
theorem cb_max (hc : X.calm = true) : CallR X (.builtin "max") (rB X.K bMax) := callR_imp (callR_or (call_max2 hc) (callR_or (So.cr_maxS hc) (cr_max hc))) fun vs H Q h => by
  obtain ⟨ws, μ, P, r, m, h, l⟩ := h
  unfold bMax at h
  split at h
  · obtain ⟨v, w, rfl, r1, r2⟩ := r.two
    exact .inl ⟨_, _, by rw [rw_int r1, rw_int r2], by rw [max_is]; exact l.now h m (.int _)⟩
  · obtain ⟨v, w, rfl, r1, r2⟩ := r.two
    exact .inr (.inl ⟨_, _, by rw [rw_str r1, rw_str r2], l.now h m (.str _)⟩)
  · obtain ⟨v, rfl, r1⟩ := r.one
    obtain ⟨ns, en, h0, h⟩ := h
    obtain ⟨a, vs, rfl, q, hs⟩ := rdL_at en r1 m
    have ev := ints_of hs
    subst ev
    exact .inr (.inr ⟨a, ns, rfl, q, h0, fun k k1 k2 => l.now (h k k1 k2) m (.int _)⟩)
  · exact h.elim
theorem cb_min (hc : X.calm = true) : CallR X (.builtin "min") (rB X.K bMin) := callR_imp (callR_or (call_min2 hc) (callR_or (So.cr_minS hc) (cr_min hc))) fun vs H Q h => by
  obtain ⟨ws, μ, P, r, m, h, l⟩ := h
  unfold bMin at h
  split at h
  · obtain ⟨v, w, rfl, r1, r2⟩ := r.two
    exact .inl ⟨_, _, by rw [rw_int r1, rw_int r2], by rw [min_is]; exact l.now h m (.int _)⟩
  · obtain ⟨v, w, rfl, r1, r2⟩ := r.two
    exact .inr (.inl ⟨_, _, by rw [rw_str r1, rw_str r2], l.now h m (.str _)⟩)
  · obtain ⟨v, rfl, r1⟩ := r.one
    obtain ⟨ns, en, h0, h⟩ := h
    obtain ⟨a, vs, rfl, q, hs⟩ := rdL_at en r1 m
    have ev := ints_of hs
    subst ev
    exact .inr (.inr ⟨a, ns, rfl, q, h0, fun k k1 k2 => l.now (h k k1 k2) m (.int _)⟩)
  · exact h.elim
/-! tuple, list, dict -/
theorem VL.dk {K : Frag} {Q : VK} {μ : Mu} {H : Hp} {P : Po} (l : VL K Q μ H P) {kvs : List (Key × W)} {kv : List (Key × V)} (p : ∀ p, μ p = none → P (.ref p) (mset μ p (.dk kvs))) (m : Mem K H μ) (r : RwP K H μ kv kvs) {a : Addr} (ha : H a = none) : Q (.ref a) (upd H a (.dK kv)) := l _ _ _ _ (p a (m.free ha)) (Stp.newT ha) (m.put (Stp.newT ha) ⟨kv, upd_same, r.stp (Stp.newT ha)⟩) (.ref a)
/-! sorted, of texts, of a dict with text keys, with int keys -/
@[reducible] def bSrS : FB := fun ws μ P => match ws with
  | [w] => ∃ ks : List Str, rdL μ w = some (ks.map W.str) ∧ P (.lst ((sortS ks).map W.str)) μ
  | _ => False
theorem cb_srS : CallR X (.builtin "sorted") (rB X.K bSrS) := callR_imp So.cr_srtSA fun vs H Q h => by
  obtain ⟨ws, μ, P, r, m, h, l⟩ := h
  unfold bSrS at h
  split at h
  · obtain ⟨v, rfl, r1⟩ := r.one
    obtain ⟨ks, ek, h⟩ := h
    obtain ⟨a, vs, rfl, q, hs⟩ := rdL_at ek r1 m
    have ev := strs_of hs
    subst ev
    exact ⟨a, ks, rfl, q, fun p hp => l.lst h m (rw_strs _) hp⟩
  · exact h.elim
end
/-! isinstance of a built-in type -/
inductive T7 where
  | non | bl | int | str | tup | lst | dct
deriving DecidableEq
def T7.nm : T7 → String
  | .non => "NoneType"
  | .bl => "bool"
  | .int => "int"
  | .str => "str"
  | .tup => "tuple"
  | .lst => "list"
  | .dct => "dict"
@[reducible] def T7.is : T7 → T7 → Bool
  | .bl, .int => true
  | .non, .non => true
  | .bl, .bl => true
  | .int, .int => true
  | .str, .str => true
  | .tup, .tup => true
  | .lst, .lst => true
  | .dct, .dct => true
  | _, _ => false
theorem T7.kit (a b : T7) : kitB a.nm b.nm = some (a.is b) := by
  cases a <;> cases b <;> decide +kernel
@[reducible] def tyW (μ : Mu) (w : W) : Option T7 := match w with
  | .non => some .non
  | .bl _ => some .bl
  | .int _ => some .int
  | .str _ => some .str
  | .tup _ => some .tup
  | .lst _ => some .lst
  | .rol _ => some .lst
  | .ref a => (match μ a with
    | some (.ls _) => some .lst
    | some (.dk _) => some .dct
    | some (.rk _) => some .dct
    | some (.dt _) => some .dct
    | _ => none)
  | _ => none
theorem tyx_at {K : Frag} {H : Hp} {μ : Mu} {v : V} {w : W} {t : T7} (h : tyW μ w = some t) (r : Rw K H μ v w) (m : Mem K H μ) : TyX K H v (.type t.nm) := by
  cases r with
  | non => cases h; exact .base .non
  | bl b => cases h; exact .base (.bl b)
  | int i => cases h; exact .base (.int i)
  | str x => cases h; exact .base (.str x)
  | tup q _ =>
    cases h
    rcases q with q | ⟨o, its, n, e, c, _⟩
    · exact .base (.tup q.1)
    · exact .kTuple e c
  | lst q _ =>
    cases h
    exact .base (.lst q.1)
  | rol q _ =>
    cases h
    rcases q.1 with q | ⟨o, q⟩
    · exact .base (.lst q)
    · exact .base (.frz q)
  | ref a =>
    unfold tyW at h
    dsimp only at h
    split at h
    · rename_i e
      cases h
      obtain ⟨vs, h1, _⟩ := m _ _ e
      exact .base (.lst h1)
    · rename_i e
      cases h
      obtain ⟨vs, h1, _⟩ := m _ _ e
      exact .base (.dK h1)
    · rename_i e
      cases h
      obtain ⟨o, vs, h1, _⟩ := m _ _ e
      exact .fDict h1
    · rename_i e
      cases h
      obtain ⟨vs, h1, _⟩ := m _ _ e
      exact .base (.dT h1)
    · cases h
  | _ => cases h
@[reducible] def eIsi (t : T7) (e : FE) : FE := fun ρ μ P X => e ρ μ (fun w μ1 => match tyW μ1 w with
  | some s => P (.bl (s.is t)) μ1
  | none => False) X
theorem qe_isi {X : Cx} {E : L2.St → XK} {x : Str} {p p2 pos : Pos} {e : Expr} {fe : FE} (t : T7) (hg : Gl X "isinstance") (hm : X.mg "isinstance" = none) (hg2 : Gl X x) (hm2 : X.mg x = none) (hv2 : bootBuiltins x = some (.type t.nm)) (he : QE X E e fe)
    (hst : starEach [e, .Name x p2] X.env = (false, eval e X.env) :: starEach [.Name x p2] X.env := by rfl) (hpl : (backTo pos (starEach [.Name x p2] X.env)).any (·.1) = false := by rfl)
    (hn2 : x ≠ "__name__" := by decide) (hd2 : (x == ("__debug__" : Str)) = false := by decide) : QE X E (.Call (.Name "isinstance" p) [e, .Name x p2] [] pos) (eIsi t fe) :=
  ⟨(pe_callB call_isi hg hm (by decide +kernel) (pa_cons he.pe (pa_cons (pe_bltn (v := V.ty t.nm) hg2 hm2 hv2 rfl hn2 hd2) pa_nil) hst) (by decide) (by decide) hst hpl).qimp fun σ H Q h => by
  obtain ⟨ρ, μ, P, XX, hh, hm, hf, hv, hx⟩ := h
  refine ⟨ρ, μ, _, XX, hh, hm, hf, fun w μ1 v H1 p1 e1 m1 r1 => ?_, hx⟩
  dsimp only at p1
  split at p1
  · rename_i s es
    exact ⟨v, .ty t.nm, _, _, s.is t, rfl, .ty t.nm, tyx_at es r1 m1, kit_ty (T7.kit s t), hv _ μ1 _ H1 p1 e1 m1 (.bl _)⟩
  · exact p1.elim⟩
end Q
namespace Q
open PySem PySem.Spec PyProof.Rows L2 Evl
/-! methods of built-in types -/
abbrev FM := W → List W → Mu → Po → Prop
def rM (K : Frag) (f : FM) : V → List V → Hp → VK → Prop := fun x vs H Q => ∃ w ws μ P, Rw K H μ x w ∧ RwAll K H μ vs ws ∧ Mem K H μ ∧ f w ws μ P ∧ VL K Q μ H P
theorem mtR_imp {X : Cx} {id : String} {r r' : V → List V → Hp → VK → Prop} (h : MtR X id r) (k : ∀ x vs H Q, r' x vs H Q → r x vs H Q) : MtR X id r' := fun pins s σ H x xs v us Q I rx rv q => h pins s σ H x xs v us Q I rx rv (k x xs H Q q)
@[reducible] def tyL : Mu → W → Prop := fun μ w => (rdL μ w).isSome = true
@[reducible] def tyD : Mu → W → Prop := fun μ w => match w with
  | .ref a => (match μ a with
    | some (.dk _) => True
    | _ => False)
  | _ => False
def TyM (K : Frag) (T : String) (ty : Mu → W → Prop) : Prop := ∀ H μ v w, Rw K H μ v w → Mem K H μ → ty μ w → tyV K T v H
theorem tym_l {K : Frag} : TyM K "list" tyL := fun H μ v w r m h => by
  obtain ⟨us, e⟩ := Option.isSome_iff_exists.mp h
  obtain ⟨a, vs, rfl, q, _⟩ := rdL_at e r m
  exact .inl ⟨rfl, vs, q⟩
@[reducible] def eBm (ty : Mu → W → Prop) (f : FM) (o : FE) (a : FA) : FE := fun ρ μ P X => o ρ μ (fun w μ1 => ty μ1 w ∧ a ρ μ1 (fun ws μ2 => f w ws μ2 P) X) X
section
variable {X : Cx} {E : L2.St → XK} {o e : Expr} {es : List Expr} {fo : FE} {fa : FA} {name : Str} {apos cpos : Pos} {T id : String} {f : FM} {ty : Mu → W → Prop}
theorem qe_bm (tm : TyM X.K T ty) (pa : PlainAttrs T) (slot : Slot T name id) (hty : typeOf (.builtin id) = pure (.type "method_descriptor")) (hm : MtR X id (rM X.K f)) (ho : QE X E o fo) (ha : QA X E (e :: es) fa)
    (hbase : attributeBase o name X.env (eval o X.env) = eval o X.env := by rfl)
    (hfew : ((backTo cpos (starEach (e :: es) X.env)).all (fun x => !x.1) && (backToKw cpos (keywordEach [] X.env)).all (fun x => x.1.isSome)
      && decide ((e :: es).length + ([] : List Keyword).length + (if ([] : List Keyword).isEmpty then 0 else 1) < 30)) = true := by rfl)
    (hline : (apos.endLine == cpos.line) = true := by rfl) (hs : starEach (e :: es) X.env = (false, eval e X.env) :: starEach es X.env := by rfl) (hplain : (backTo cpos (starEach es X.env)).any (·.1) = false := by rfl) :
    QE X E (.Call (.Attribute o name apos) (e :: es) [] cpos) (eBm ty f fo fa) := ⟨(pe_bm pa slot hty hm ho.pe ha.pa hbase hfew hline hs hplain).qimp fun σ H Q h => by
  obtain ⟨ρ, μ, P, XX, hh, hm, hf, hv, hx⟩ := h
  exact ⟨ρ, μ, _, XX, hh, hm, hf, fun w μ1 v H1 p1 e1 m1 r1 => ⟨tm H1 μ1 v w r1 m1 p1.1, ρ, μ1, _, XX, hh.stp e1, m1, p1.2, fun ws μ2 vs H2 p2 e2 m2 r2 => ⟨w, ws, μ2, P, r1.stp e2, r2, m2, p2, hv.stp (e1.trans e2)⟩, hx.stp e1⟩, hx⟩⟩
end
section
variable {X : Cx}
/-! lists -/
@[reducible] def mApp : FM := fun w ws μ P => match w with
  | .ref a => (match μ a with
    | some (.ls us) => (match ws with
      | [x] => us.length < 16000000 ∧ P .non (mset μ a (.ls (us ++ [x])))
      | _ => False)
    | _ => False)
  | _ => False
theorem mU_app : MtR X "list.append" (rM X.K mApp) := mtR_imp mt_append fun x vs H Q h => by
  obtain ⟨w, ws, μ, P, r, rs, m, h, l⟩ := h
  unfold mApp at h
  split at h
  · split at h
    · split at h
      · rename_i us ea _ y
        cases r
        obtain ⟨v, rfl, r1⟩ := rs.one
        obtain ⟨xs, h1, h2⟩ := m _ _ ea
        have st : Stp μ H (mset μ _ (.ls (us ++ [y]))) (upd H _ (.lst (xs ++ [v]))) := Stp.put ea (nf_lst h1)
        exact ⟨_, xs, v, rfl, rfl, h1, by rw [h2.len]; exact biglt h.1, l _ _ _ _ h.2 st (m.put st ⟨_, upd_same, (h2.app (.cons r1 .nil)).stp st⟩) .non⟩
      · exact h.elim
    · exact h.elim
  · exact h.elim
@[reducible] def mPop : FM := fun w ws μ P => match w with
  | .ref a => (match μ a with
    | some (.ls us) => (match ws with
      | [] => (match us[us.length - 1]? with
        | some y => P y (mset μ a (.ls us.dropLast))
        | none => False)
      | [.int i] => (match ixN us.length i with
        | some k => (match us[k]? with
          | some y => (-(2 ^ 63) ≤ i ∧ i < 2 ^ 63) ∧ P y (mset μ a (.ls (us.eraseIdx k)))
          | none => False)
        | none => False)
      | _ => False)
    | _ => False)
  | _ => False
theorem RwAll.dropLast {K : Frag} {H : Hp} {μ : Mu} {vs : List V} {ws : List W} (h : RwAll K H μ vs ws) : RwAll K H μ vs.dropLast ws.dropLast := by
  rw [List.dropLast_eq_take, List.dropLast_eq_take, h.len]
  exact h.take _
theorem mU_pop : MtR X "list.pop" (rM X.K mPop) := mtR_imp (MtR.or mt_pop mt_popAt) fun x vs H Q h => by
  obtain ⟨w, ws, μ, P, r, rs, m, h, l⟩ := h
  unfold mPop at h
  split at h
  · split at h
    · rename_i us ea
      cases r
      obtain ⟨xs, h1, h2⟩ := m _ _ ea
      split at h
      · split at h
        · rename_i y ey
          cases rs
          obtain ⟨v, e1, r1⟩ := RwAll.at _ h2 ey
          have st : Stp μ H (mset μ _ (.ls us.dropLast)) (upd H _ (.lst xs.dropLast)) := Stp.put ea (nf_lst h1)
          exact .inl ⟨_, xs, v, rfl, rfl, h1, by rw [h2.len]; exact e1, l _ _ _ _ h st (m.put st ⟨_, upd_same, h2.dropLast.stp st⟩) (r1.stp st)⟩
        · exact h.elim
      · split at h
        · split at h
          · rename_i i _ k ek _ y ey
            obtain ⟨u, rfl, ru⟩ := rs.one
            have eu := rw_int ru
            subst eu
            obtain ⟨v, e1, r1⟩ := RwAll.at _ h2 ey
            have st : Stp μ H (mset μ _ (.ls (us.eraseIdx k))) (upd H _ (.lst (xs.eraseIdx k))) := Stp.put ea (nf_lst h1)
            exact .inr ⟨_, xs, _, k, v, rfl, rfl, h1, h.1.1, h.1.2, by rw [h2.len]; exact (ixN_seq ek).1, e1, l _ _ _ _ h.2 st (m.put st ⟨_, upd_same, (h2.erase k).stp st⟩) (r1.stp st)⟩
          · exact h.elim
        · exact h.elim
      · exact h.elim
    · exact h.elim
  · exact h.elim
@[reducible] def mIns : FM := fun w ws μ P => match w with
  | .ref a => (match μ a with
    | some (.ls us) => (match ws with
      | [.int i, y] => us.length < 16000000 ∧ (0 ≤ i ∧ i < 2 ^ 63) ∧ P .non (mset μ a (.ls (us.take i.toNat ++ [y] ++ us.drop i.toNat)))
      | _ => False)
    | _ => False)
  | _ => False
theorem mU_ins : MtR X "list.insert" (rM X.K mIns) := mtR_imp mt_insert fun x vs H Q h => by
  obtain ⟨w, ws, μ, P, r, rs, m, h, l⟩ := h
  unfold mIns at h
  split at h
  · split at h
    · rename_i us ea
      cases r
      obtain ⟨xs, h1, h2⟩ := m _ _ ea
      split at h
      · rename_i i y
        obtain ⟨v, u, rfl, r1, r2⟩ := rs.two
        have eu := rw_int r1
        subst eu
        have st : Stp μ H (mset μ _ (.ls (us.take i.toNat ++ [y] ++ us.drop i.toNat))) (upd H _ (.lst (xs.take i.toNat ++ [u] ++ xs.drop i.toNat))) := Stp.put ea (nf_lst h1)
        exact ⟨_, xs, i, u, rfl, rfl, h1, by rw [h2.len]; exact biglt h.1, h.2.1.1, h.2.1.2, l _ _ _ _ h.2.2 st (m.put st ⟨_, upd_same, (((h2.take _).app (.cons r2 .nil)).app (h2.drop _)).stp st⟩) .non⟩
      · exact h.elim
    · exact h.elim
  · exact h.elim
/-- xs.index(n), a list of numbers: the first place -/
@[reducible] def mIdx : FM := fun w ws μ P => match ws with
  | [.int n] => ∃ (ns : List Int) (j : Nat), rdL μ w = some (ns.map W.int) ∧ ns[j]? = some n ∧ (∀ (i : Nat) (z : Int), i < j → ns[i]? = some z → z ≠ n) ∧ P (.int (j : Int)) μ
  | _ => False
theorem mU_idx : MtR X "list.index" (rM X.K mIdx) := mtR_imp mt_index fun x vs H Q h => by
  obtain ⟨w, ws, μ, P, r, rs, m, h, l⟩ := h
  unfold mIdx at h
  split at h
  · rename_i n
    obtain ⟨ns, j, e1, e2, e3, h⟩ := h
    obtain ⟨v, rfl, r1⟩ := rs.one
    have eu := rw_int r1
    subst eu
    obtain ⟨a, us, rfl, q, hs⟩ := rdL_at e1 r m
    have ev := ints_of hs
    subst ev
    refine ⟨a, _, V.int n, j, V.int n, rfl, rfl, q, by rfl, List.all_eq_true.mpr fun y hy => ?_, by rw [List.getElem?_map, e2]; rfl, by simp [eqV], fun i z hi hz => ?_, l.now h m (.int _)⟩
    · obtain ⟨k, _, rfl⟩ := List.mem_map.mp hy
      rfl
    · rw [List.getElem?_map] at hz
      obtain ⟨k, hk, rfl⟩ := Option.map_eq_some_iff.mp hz
      have ne := e3 i k hi hk
      simp [eqV, ne]
  · exact h.elim
/-! texts -/
end
/-! ### dicts -/
section
variable {X : Cx} {E : L2.St → XK} {o e f : Expr} {apos cpos pos pos' : Pos} {fo fa fb : FE}
/-! a[i] = v, d[k] = v -/
@[reducible] def putIx (x y w : W) (μ : Mu) (k : Mu → Prop) : Prop := match x with
  | .ref a => (match μ a with
    | some (.ls ws) => (match y with
      | .int i => (match ixN ws.length i with
        | some j => k (mset μ a (.ls (ws.set j w)))
        | none => False)
      | _ => False)
    | some (.dk kvs) => (match kO y with
      | some q => kvs.length < 16000000 ∧ k (mset μ a (.dk (putW kvs q w)))
      | none => False)
    | _ => False)
  | _ => False
@[reducible] def sPut (o i e : FE) : FS := fun ρ μ N => e ρ μ (fun w μ1 => o ρ μ1 (fun x μ2 => i ρ μ2 (fun y μ3 => putIx x y w μ3 fun μ4 => N.nx ρ μ4) (N.ex ρ)) (N.ex ρ)) (N.ex ρ)
theorem put_at {K : Frag} {H : Hp} {μ : Mu} {vx vy vw : V} {x y w : W} {k : Mu → Prop} {Q : Hp → Prop} (h : putIx x y w μ k) (rx : Rw K H μ vx x) (ry : Rw K H μ vy y) (rw' : Rw K H μ vw w) (m : Mem K H μ) (q : ∀ μ' H', k μ' → Stp μ H μ' H' → Mem K H' μ' → Q H') : rSetL vx vy vw H Q ∨ rSetD vx vy vw H Q := by
  unfold putIx at h
  split at h
  · split at h
    · rename_i us ea
      cases rx
      obtain ⟨xs, h1, h2⟩ := m _ _ ea
      split at h
      · split at h
        · rename_i i _ j ej
          have ey := rw_int ry
          subst ey
          have st : Stp μ H (mset μ _ (.ls (us.set j w))) (upd H _ (.lst (xs.set j vw))) := Stp.put ea (nf_lst h1)
          exact .inl ⟨_, xs, i, j, rfl, rfl, h1, by rw [h2.len]; exact ej, q _ _ h st (m.put st ⟨_, upd_same, (RwAll.set rw' j h2).stp st⟩)⟩
        · exact h.elim
      · exact h.elim
    · rename_i kvs ea
      cases rx
      obtain ⟨kv, h1, h2⟩ := m _ _ ea
      split at h
      · rename_i q1 eq1
        have ey := kO_rw ry eq1
        subst ey
        have st : Stp μ H (mset μ _ (.dk (putW kvs q1 w))) (upd H _ (.dK (putK kv q1 vw))) := Stp.put ea (nf_dk h1)
        exact .inr ⟨_, _, rfl, .inl ⟨kv, q1, h1, rfl, by rw [h2.len]; exact biglt h.1, rfl⟩, q _ _ h.2 st (m.put st ⟨_, upd_same, (rwp_put rw' h2).stp st⟩)⟩
      · exact h.elim
    · exact h.elim
  · exact h.elim
theorem pset_or {t t' : TSet} (h : PSet X t) (h' : PSet X t') : PSet X (fun o i v H Q => t o i v H Q ∨ t' o i v H Q) := fun pins s σ H o i v ov iv u Q I ro ri rv q => q.elim (h pins s σ H o i v ov iv u Q I ro ri rv) (h' pins s σ H o i v ov iv u Q I ro ri rv)
theorem qs_put {i value : Expr} {fi fe : FE} (hu : X.A.units + 1 < cLine) (ho : QE X E o fo) (hi : QE X E i fi) (he : QE X E value fe) (hs : swapsWithSole [.Subscript o i pos'] value pos.line X.env = pure false := by rfl) (hw : swappedStores [.Subscript o i pos'] value X.env = pure none := by rfl)
    (h1 : (assignEach [.Subscript o i pos'] X.env).map (·.2) = [assign (.Subscript o i pos') X.env] := by rfl)
    (ha : ∀ v, assign (.Subscript o i pos') X.env v = (do
      let ov ← holding [v] (eval o X.env)
      let iv ← holding [v, ov] (eval i X.env)
      standAt pos'
      holding [v, ov, iv] (setItem ov iv v)
      release [v, ov, iv] []) := by intro _; rfl) : QS X E (.Assign [.Subscript o i pos'] value pos) (sPut fo fi fe) := ⟨(ps_asg he.pe (pg_sub ho.pe hi.pe (pset_or set_list (set_dict hu)) ha) hs hw h1).qimp fun D σ H h => by
  obtain ⟨ρ, μ, N, hh, hm, hf, l⟩ := h
  refine ⟨ρ, μ, _, _, hh, hm, hf, fun w μ1 v H1 p1 e1 m1 r1 => ⟨ρ, μ1, _, _, hh.stp e1, m1, p1, fun x μ2 u H2 p2 e2 m2 r2 => ⟨ρ, μ2, _, _, hh.stp (e1.trans e2), m2, p2, fun y μ3 z H3 p3 e3 m3 r3 => ?_, (l.stp (e1.trans e2)).xl (hh.stp (e1.trans e2))⟩, (l.stp e1).xl (hh.stp e1)⟩, l.xl hh⟩
  have e13 := (e1.trans e2).trans e3
  exact put_at p3 (r2.stp e3) r3 (r1.stp (e2.trans e3)) m3 fun μ' H' k e m => l.nx ρ μ' σ H' k (e13.trans e) m (hh.stp (e13.trans e))⟩
/-! del a[i], del d[k] -/
/-! displays -/
end
end Q
namespace Q
open PySem PySem.Spec PyProof.Rows L2 Evl
/-! exceptions -/
abbrev Tk (X : Cx) (E : L2.St → XK) : Prop := L2N.Takes X (fun c d σ H => E σ c d H)
theorem Tk.px {X : Cx} {E : L2.St → XK} (t : Tk X E) : Px X E := fun σ => L2N.passAt t σ
/-! try -/
/-! calls in a suite -/
end Q
namespace Q
open PySem PySem.Spec PyProof.Rows L2 Evl
/-- a statement with more than one way on: the reading stops here -/
def sJn (a b : FS) : FS := sSeq a b
theorem qss_jn {X : Cx} {E : L2.St → XK} {st : Stmt} {r : List Stmt} {f g : FS} (h : QS X E st f) (hr : QSs X E r g) : QSs X E (st :: r) (sJn f g) := show QSs X E (st :: r) (sSeq f g) from qss_cons h hr
/-! what the printed terms use -/
section
variable {X : Cx} {E : L2.St → XK}
theorem qv (i : Nat) {x : Str} {pos : Pos} (hN : X.N[i]? = some x := by rfl) (hv : Vis X.env.scope x := by first | exact Or.inl rfl | exact Or.inr (Or.inl rfl) | exact Or.inr (Or.inr rfl)) (hd : (x == ("__debug__" : Str)) = false := by decide)
    (hcd : (x == ("__classdict__" : Str)) = false := by decide) : QE X E (.Name x pos) (eV i) := qe_var hN hv hd hcd
theorem qt_chain {op op' : CmpOp} {o o' : F2} {a b c : Expr} {fa fb fc : FE} {pos : Pos} (ho : OpR X (compareOp op) (rW X.K o)) (ho' : OpR X (compareOp op') (rW X.K o')) (ha : QE X E a fa) (hb : QE X E b fb) (hc : QE X E c fc) (hm : lastMarks [op, op'] [b, c] = false := by with_unfolding_all rfl) : QT X E (.Compare a [op, op'] [b, c] pos) (cV (eChain o o' fa fb fc)) :=
  ⟨(L2.pt_chain ho ho' ha.pe hb.pe hc.pe hm).qimp fun σ H Q h => tE_chain (tT_of h)⟩
end
section
variable {P : Program} {w : World} {K : Frag} {mg : Str → Option Value} {base : Heap}
theorem fn_w {x qual : Str} {st : Stmt} {f : Addr} {fd : FuncData} {N ps : List Str} {k : Nat} {fb : FS} (F : FnM K x qual st f fd) (S : FnScope N ps (defScope st)) (hl : ps.length ≤ N.length)
    (body : ∀ (cdv : Value) (A : Around) (outer : List PySem.Env) (s : Shared) (H : Hp) (E : XK), Room k (A.deeper (PyProof.Rows.envOfC qual (defScope st) s.heap.objs.size f cdv)) → Tk (cxOf (L2N.CX P w) P w K mg base N qual (defScope st) f cdv A outer s H E) (fun _ => E) →
      PassesOwn (model P w) (cxOf (L2N.CX P w) P w K mg base N qual (defScope st) f cdv A outer s H E).A (cxOf (L2N.CX P w) P w K mg base N qual (defScope st) f cdv A outer s H E).env (cxOf (L2N.CX P w) P w K mg base N qual (defScope st) f cdv A outer s H E).xe →
      (∀ hd : Option Value, PassesOwnAt (model P w) ((cxOf (L2N.CX P w) P w K mg base N qual (defScope st) f cdv A outer s H E).A.mark hd) (cxOf (L2N.CX P w) P w K mg base N qual (defScope st) f cdv A outer s H E).A (cxOf (L2N.CX P w) P w K mg base N qual (defScope st) f cdv A outer s H E).env (cxOf (L2N.CX P w) P w K mg base N qual (defScope st) f cdv A outer s H E).xe) →
      QSs (cxOf (L2N.CX P w) P w K mg base N qual (defScope st) f cdv A outer s H E) (fun _ => E) (defBody st) fb) : FnOk P w K mg base (L2N.CX P w) (k + 1) f fd ps (spF K (fDef ps.length N.length fb)) :=
  fn_q F S hl fun cdv A outer s H E hr => body cdv A outer s H E hr (L2N.takes_of rfl rfl rfl rfl) PassesOwn.leaving fun _ => PassesOwnAt.leaving
theorem dq_mk {k : Nat} {x : Str} {st : Stmt} {f : Addr} {fd : FuncData} {ps : List Str} {fw : FW} (F : FnM K x x st f fd) (g : mg x = some (.ref f)) (b : Binds K fd ps []) (h : FnOk P w K mg base (L2N.CX P w) k f fd ps (spF K fw)) : DefQ P w K mg base k x ps fw := ⟨f, fd, h, g, F.kp, b⟩
end
/-- nothing that is looked at is a list -/
theorem noLst_no {K : Frag} {a : Addr} {o : Obj} (h : noLst K = true) (e : K.lookup a = some o) : o.cls ≠ .type "list" := fun q => by
  have h2 := List.all_eq_true.mp h _ (He.lookup_mem e)
  rw [show ((a, o) : Addr × Obj).2.cls = .type "list" from q] at h2
  simp at h2
/-- what a law is to do, at every script -/
def LawOk (f : FW) (n : Nat) : Prop := ∀ ns : List Int, ns.length ≤ n → ∀ (P : Po) (X : Xo), (∀ μ, P (.bl true) μ) → f [.rol (ns.map W.int)] (fun _ => none) P X
/-- the law's own def: nothing is let out -/
def spL (K : Frag) (f : FW) : Sp := fun vs H Q _ => ∃ ws μ P, RwAll K H μ vs ws ∧ Mem K H μ ∧ f ws μ P (fun _ _ _ => False) ∧ VL K Q μ H P
theorem tk_no {X : Cx} : Tk X EN := fun _ _ x => by
  obtain ⟨_, _, _, _, _, _, _, _, _, _, _, _, _, _, _, _, z⟩ := x
  exact z.elim
theorem fn_l {P : Program} {w : World} {K : Frag} {mg : Str → Option Value} {base : Heap} {x qual : Str} {st : Stmt} {f : Addr} {fd : FuncData} {N ps : List Str} {k : Nat} {fb : FS} (F : FnM K x qual st f fd) (S : FnScope N ps (defScope st)) (hl : ps.length ≤ N.length)
    (body : ∀ (cdv : Value) (A : Around) (outer : List PySem.Env) (s : Shared) (H : Hp) (E : XK), Room k (A.deeper (PyProof.Rows.envOfC qual (defScope st) s.heap.objs.size f cdv)) → Tk (cxOf CX0 P w K mg base N qual (defScope st) f cdv A outer s H E) EN →
      PassesOwn (model P w) (cxOf CX0 P w K mg base N qual (defScope st) f cdv A outer s H E).A (cxOf CX0 P w K mg base N qual (defScope st) f cdv A outer s H E).env (cxOf CX0 P w K mg base N qual (defScope st) f cdv A outer s H E).xe →
      (∀ hd : Option Value, PassesOwnAt (model P w) ((cxOf CX0 P w K mg base N qual (defScope st) f cdv A outer s H E).A.mark hd) (cxOf CX0 P w K mg base N qual (defScope st) f cdv A outer s H E).A (cxOf CX0 P w K mg base N qual (defScope st) f cdv A outer s H E).env (cxOf CX0 P w K mg base N qual (defScope st) f cdv A outer s H E).xe) →
      QSs (cxOf CX0 P w K mg base N qual (defScope st) f cdv A outer s H E) EN (defBody st) fb) : FnOk P w K mg base CX0 (k + 1) f fd ps (spL K (fDef ps.length N.length fb)) := by
  refine L2.FunD.ok F S (fun vs H Q E h => ?_) (fun cdv A outer s H vs Q E hr h => ?_)
  · obtain ⟨ws, μ, Pq, h1, _, h2, _⟩ := h
    rw [h1.len]
    exact h2.1
  · obtain ⟨ws, μ, Pq, h1, hm, h2, v⟩ := h
    have h0 := Holds.start (N := N) h1
    rw [← rho0_is _ _ (by rw [h2.1]; exact hl)] at h0
    refine ⟨_, (body cdv A outer s H E hr tk_no PassesOwn.leaving fun _ => PassesOwnAt.leaving).pss, _, μ, _, h0, hm, h2.2, ?_⟩
    have e := el_def (E := fun _ _ _ => False) v (fun _ _ _ _ _ x => x.elim : XL K (fun _ _ _ => False) μ H fun _ _ _ => False)
    exact ⟨e.nx, e.rt, e.bk, e.ct, e.ex⟩
theorem law_end {K : Frag} {H : Hp} {a : Addr} {ns : List Int} {n : Nat} {f : FW} (hn : noLst K = true) (hl : ns.length ≤ n) (h : SqL K H a (ns.map V.int)) (ok : LawOk f n) : spL K f [.ref a] H (fun v _ => v = .bl true) (fun _ _ _ => False) := by
  have r : Rd H a (.lst (ns.map V.int)) := by
    rcases h with h | ⟨o, its, n, e, c, _⟩
    · exact h
    · exact absurd c (noLst_no hn e)
  have m0 : Mem K H (fun _ => none) := fun b o q => by
    have q : (none : Option O) = some o := q
    cases q
  refine ⟨[.rol (ns.map W.int)], fun _ => none, fun w _ => w = .bl true, .cons (.rol ⟨r, rfl⟩ (rw_ints ns)) .nil, m0, ok ns hl _ _ (fun _ => rfl), fun w μ' v H' p _ _ d => ?_⟩
  have p : w = .bl true := p
  subst p
  exact rw_bl d
/-! tuples of texts that the module names -/
end Q
namespace Q
open PySem L2
/-! steps of a def's reading -/
theorem q_t {c : Bool} {A B : Prop} (h : c = true) (a : A) : if c = true then A else B := by
  rw [if_pos h]
  exact a
theorem q_f {c : Bool} {A B : Prop} (h : c = false) (b : B) : if c = true then A else B := by
  rw [if_neg (by rw [h]; exact Bool.false_ne_true)]
  exact b
theorem q_if {c : Bool} {A B : Prop} (a : c = true → A) (b : c = false → B) : if c = true then A else B := by
  cases c with
  | true => exact iteT (a rfl)
  | false => exact iteF (b rfl)
theorem q_and {A B : Prop} (a : A) (b : B) : A ∧ B := ⟨a, b⟩
theorem q_jn {a b : FS} {ρ : Rho} {μ : Mu} {N : En} (M : Rho → Mu → Prop) (h : ∀ K : Rho → Mu → Prop, (∀ ρ' μ', M ρ' μ' → K ρ' μ') → a ρ μ { N with nx := K }) (k : ∀ ρ' μ', M ρ' μ' → b ρ' μ' N) : sJn a b ρ μ N := h _ k
theorem q_ifP {p : Prop} [Decidable p] {A B : Prop} (a : p → A) (b : ¬p → B) : if decide p = true then A else B := by
  by_cases h : p
  · rw [if_pos (decide_eq_true h)]
    exact a h
  · rw [if_neg (by rw [decide_eq_false h]; exact Bool.false_ne_true)]
    exact b h
theorem q_ifN {p : Prop} [Decidable p] {A B : Prop} (a : p → B) (b : ¬p → A) : if (!decide p) = true then A else B := by
  by_cases h : p
  · rw [if_neg (by rw [decide_eq_true h]; decide)]
    exact a h
  · rw [if_pos (by rw [decide_eq_false h]; rfl)]
    exact b h
/-! walks -/
/-- each turn goes on, the store as it was, or returns v -/
theorem itS_ret {std : Mu → Prop} {g : FG} {b : FS} {N : En} {μ : Mu} {v : W} (ok : W → Bool) (I : Rho → Prop) (hstd : std μ) : ∀ (ws : List W) {ρ : Rho}, I ρ →
    (∀ w ∈ ws, ∀ ρ, I ρ → ∀ K : Rho → Mu → Prop, (ok w = true → ∀ ρ', I ρ' → K ρ' μ) → (ok w = false → N.rt v μ) → g w ρ μ fun ρ1 μ1 => b ρ1 μ1 { nx := K, ct := K, bk := N.nx, rt := N.rt, ex := N.ex }) →
    (ws.all ok = true → ∀ ρ', I ρ' → N.nx ρ' μ) → (ws.all ok = false → N.rt v μ) → itS std g b ws ρ μ N
  | [], ρ, h0, hs, ht, hf => ⟨hstd, ht rfl ρ h0⟩
  | w :: ws, ρ, h0, hs, ht, hf => ⟨hstd, hs w List.mem_cons_self ρ h0 _ (fun e ρ' h' => itS_ret ok I hstd ws h' (fun u hu => hs u (List.mem_cons_of_mem _ hu)) (fun a => ht (by rw [List.all_cons, e, a]; rfl)) fun a => hf (by rw [List.all_cons, e, a]; rfl)) fun e => hf (by rw [List.all_cons, e]; rfl)⟩
/-! texts -/
theorem slt_one (a b : Nat) : sLt ⟨#[a]⟩ ⟨#[b]⟩ = decide (a < b) := by
  unfold sLt
  simp [List.cons_lt_cons_iff]
theorem pick_c0 {α : Type} (a : α) (l : List α) : pick (a :: l) 0 = some a := pick_nat (Int.le_refl 0) rfl
theorem pick_c1 {α : Type} (a b : α) (l : List α) : pick (a :: b :: l) 1 = some b := pick_nat (by decide) rfl
theorem pick_c2 {α : Type} (a b c : α) (l : List α) : pick (a :: b :: c :: l) 2 = some c := pick_nat (by decide) rfl
theorem pick_c3 {α : Type} (a b c d : α) (l : List α) : pick (a :: b :: c :: d :: l) 3 = some d := pick_nat (by decide) rfl
theorem pick_c4 {α : Type} (a b c d e : α) (l : List α) : pick (a :: b :: c :: d :: e :: l) 4 = some e := pick_nat (by decide) rfl
theorem pick_c5 {α : Type} (a b c d e f : α) (l : List α) : pick (a :: b :: c :: d :: e :: f :: l) 5 = some f := pick_nat (by decide) rfl
/-! comprehensions over things that stand for values -/
section
variable {α : Type} {std : Mu → Prop} {g : FG} {c : FT} {e : FE} {ρ : Rho} {μ : Mu} {P : Po}
abbrev LcOf (g : FG) (c : FT) (e : FE) (ρ : Rho) (w : W) (r : Option W) (μ' : Mu) : Prop := ∀ (N : Mu → Prop) (Y : W → Mu → Prop), (r = none → N μ') → (∀ y, r = some y → Y y μ') → g w ρ μ' fun ρ2 μ2 => c ρ2 μ2 (fun b μ3 => if b = true then e ρ2 μ3 Y noX else N μ3) noX
theorem lc_of {p : Addr} {k : List W → Mu → Prop} (enc : α → W) (f : α → Option W) (hp : μ p = none) (hstd : ∀ μ', Ext μ μ' → std μ') : ∀ (xs : List α) (acc : List W), acc.length + xs.length ≤ 16000000 →
    (∀ x ∈ xs, ∀ μ', Ext μ μ' → LcOf g c e ρ (enc x) (f x) μ') → k (acc ++ xs.filterMap f) (mset μ p (.ls (acc ++ xs.filterMap f))) → lcS std g c e p k ρ (xs.map enc) acc (mset μ p (.ls acc))
  | [], acc, _, _, hk => by
    rw [List.filterMap_nil, List.append_nil] at hk
    exact ⟨hstd _ (Ext.new hp), hk⟩
  | x :: xs, acc, hz, h, hk => by
    rw [List.length_cons] at hz
    refine ⟨hstd _ (Ext.new hp), h x List.mem_cons_self _ (Ext.new hp) (fun μ3 => μ3 p = some (.ls acc) ∧ lcS std g c e p k ρ (xs.map enc) acc μ3) (fun y μ4 => μ4 p = some (.ls acc) ∧ acc.length < 16000000 ∧ lcS std g c e p k ρ (xs.map enc) (acc ++ [y]) (mset μ4 p (.ls (acc ++ [y])))) (fun hf => ?_) fun y hf => ?_⟩
    · rw [List.filterMap_cons_none hf] at hk
      exact ⟨mset_same, lc_of enc f hp hstd xs acc (by omega) (fun x hx => h x (List.mem_cons_of_mem _ hx)) hk⟩
    · rw [List.filterMap_cons_some hf] at hk
      refine ⟨mset_same, by omega, ?_⟩
      rw [mset_mset]
      exact lc_of enc f hp hstd xs (acc ++ [y]) (by rw [List.length_append, List.length_singleton]; omega) (fun x hx => h x (List.mem_cons_of_mem _ hx)) (by rw [List.append_assoc, List.singleton_append]; exact hk)
theorem lcV_fm (enc : α → W) (f : α → Option W) (xs : List α) (hz : xs.length ≤ 16000000) (hstd : ∀ μ', Ext μ μ' → std μ') (h : ∀ x ∈ xs, ∀ μ', Ext μ μ' → LcOf g c e ρ (enc x) (f x) μ') (hk : P (.lst (xs.filterMap f)) μ) : lcVK std g c e ρ (xs.map enc) P μ := fun p hp =>
  lc_of enc f hp hstd xs [] (by simpa using hz) h ⟨μ, Sub.new hp, hp, hk⟩
theorem fm_filter (enc : α → W) (t : α → Bool) : ∀ xs : List α, xs.filterMap (fun x => if t x = true then some (enc x) else none) = (xs.filter t).map enc
  | [] => rfl
  | x :: xs => by
    rw [List.filterMap_cons, List.filter_cons, fm_filter enc t xs]
    cases t x <;> rfl
theorem fm_map (f : α → W) : ∀ xs : List α, xs.filterMap (fun x => some (f x)) = xs.map f
  | [] => rfl
  | x :: xs => by
    rw [List.filterMap_cons, List.map_cons, fm_map f xs]
/-- [f x for x in xs if t x] -/
theorem lcV_tm (enc f : α → W) (t : α → Bool) (xs : List α) (hz : xs.length ≤ 16000000) (hstd : ∀ μ', Ext μ μ' → std μ')
    (h : ∀ x ∈ xs, ∀ μ', Ext μ μ' → ∀ (N : Mu → Prop) (Y : W → Mu → Prop), (t x = false → N μ') → (t x = true → Y (f x) μ') → g (enc x) ρ μ' fun ρ2 μ2 => c ρ2 μ2 (fun b μ3 => if b = true then e ρ2 μ3 Y noX else N μ3) noX)
    (hk : P (.lst ((xs.filter t).map f)) μ) : lcVK std g c e ρ (xs.map enc) P μ :=
  lcV_fm enc (fun x => if t x = true then some (f x) else none) xs hz hstd (fun x hx μ' he N Y hn hy => h x hx μ' he N Y (fun q => hn (by rw [q]; rfl)) fun q => hy _ (by rw [q]; rfl)) (by rw [fm_filter]; exact hk)
/-- [f x for x in xs] -/
theorem lcV_m (enc f : α → W) (xs : List α) (hz : xs.length ≤ 16000000) (hstd : ∀ μ', Ext μ μ' → std μ')
    (h : ∀ x ∈ xs, ∀ μ', Ext μ μ' → ∀ (Y : W → Mu → Prop), Y (f x) μ' → g (enc x) ρ μ' fun ρ2 μ2 => e ρ2 μ2 Y noX) (hk : P (.lst (xs.map f)) μ) : lcVK std g cYes e ρ (xs.map enc) P μ :=
  lcV_fm enc (fun x => some (f x)) xs hz hstd (fun x hx μ' he N Y _ hy => by
    simp only [cYes, if_true]
    exact h x hx μ' he Y (hy _ rfl)) (by rw [fm_map]; exact hk)
end
/-- a loop over things that stand for values, with an invariant: what is done, what is left -/
theorem itS_of {α : Type} {std : Mu → Prop} {g : FG} {b : FS} {N : En} (enc : α → W) (I : List α → List α → Rho → Mu → Prop) : ∀ (xs done : List α) {ρ : Rho} {μ : Mu}, I done xs ρ μ →
    (∀ done x r ρ μ, I done (x :: r) ρ μ → std μ ∧ ∀ K : Rho → Mu → Prop, (∀ ρ' μ', I (done ++ [x]) r ρ' μ' → K ρ' μ') → g (enc x) ρ μ fun ρ1 μ1 => b ρ1 μ1 { nx := K, ct := K, bk := N.nx, rt := N.rt, ex := N.ex }) →
    (∀ done ρ μ, I done [] ρ μ → std μ ∧ N.nx ρ μ) → itS std g b (xs.map enc) ρ μ N
  | [], done, ρ, μ, h0, hs, hd => hd done ρ μ h0
  | x :: r, done, ρ, μ, h0, hs, hd => ⟨(hs done x r ρ μ h0).1, (hs done x r ρ μ h0).2 _ fun ρ' μ' h' => itS_of enc I r (done ++ [x]) h' hs hd⟩
theorem pick_map {α : Type} {enc : α → W} {xs : List α} {i : Int} {x : α} (h0 : 0 ≤ i) (h : xs[i.toNat]? = some x) : pick (xs.map enc) i = some (enc x) := pick_nat h0 (by rw [List.getElem?_map, h]; rfl)
theorem pick_mapN {α : Type} {enc : α → W} {xs : List α} {i : Nat} {x : α} (h : xs[i]? = some x) : pick (xs.map enc) (i : Int) = some (enc x) := pick_map (Int.natCast_nonneg i) (by simpa using h)
theorem new_ne {μ : Mu} {p q : Addr} {o : O} (h : mset μ p o q = none) : q ≠ p ∧ μ q = none := by
  have ne : q ≠ p := fun e => by
    rw [e, mset_same] at h
    cases h
  rw [mset_ne ne] at h
  exact ⟨ne, h⟩
theorem tyL_ref {μ : Mu} {p : Addr} {ws : List W} (h : μ p = some (.ls ws)) : tyL μ (.ref p) := by
  show (match μ p with
    | some (.ls ws) => some ws
    | _ => none).isSome = true
  rw [h]
  rfl
theorem tyD_ref {μ : Mu} {p : Addr} {kvs : List (Key × W)} (h : μ p = some (.dk kvs)) : tyD μ (.ref p) := by
  show (match μ p with
    | some (.dk _) => True
    | _ => False)
  rw [h]
  trivial
theorem rdD_ref {μ : Mu} {p : Addr} {kvs : List (Key × W)} (h : μ p = some (.dk kvs)) : (rdD μ (.ref p)).isSome = true := by
  show (match μ p with
    | some (.dk kvs) => some kvs
    | some (.rk kvs) => some kvs
    | _ => none).isSome = true
  rw [h]
  rfl
theorem cutL_map {α β : Type} (f : α → β) (xs : List α) (lo hi : Option Int) : cutL (xs.map f) lo hi = (cutL xs lo hi).map f := by
  unfold cutL
  rw [List.length_map, List.map_take, List.map_drop]
theorem ixN_nat {n k : Nat} (h : k < n) : ixN n (k : Int) = some k := by
  unfold ixN
  rw [if_pos (by omega), if_pos (by omega)]
  congr 1
theorem rdL_ref {μ : Mu} {p : Addr} {ws : List W} (h : μ p = some (.ls ws)) : rdL μ (.ref p) = some ws := by
  show (match μ p with
    | some (.ls ws) => some ws
    | _ => none) = some ws
  rw [h]
theorem rdM_ref {μ : Mu} {p : Addr} {ws : List W} (h : μ p = some (.ls ws)) : rdM μ (.ref p) = some ws := by
  show (match μ p with
    | some (.ls ws) => some ws
    | _ => none) = some ws
  rw [h]
theorem rdL_refD {μ : Mu} {p : Addr} {kvs : List (Key × W)} (h : μ p = some (.dk kvs)) : rdL μ (.ref p) = none := by
  show (match μ p with
    | some (.ls ws) => some ws
    | _ => none) = none
  rw [h]
theorem rdD_refD {μ : Mu} {p : Addr} {kvs : List (Key × W)} (h : μ p = some (.dk kvs)) : rdD μ (.ref p) = some kvs := by
  show (match μ p with
    | some (.dk kvs) => some kvs
    | some (.rk kvs) => some kvs
    | _ => none) = some kvs
  rw [h]
theorem rdL_refK {μ : Mu} {p : Addr} {kvs : List (Key × W)} (h : μ p = some (.rk kvs)) : rdL μ (.ref p) = none := by
  show (match μ p with
    | some (.ls ws) => some ws
    | _ => none) = none
  rw [h]
theorem rdD_refK {μ : Mu} {p : Addr} {kvs : List (Key × W)} (h : μ p = some (.rk kvs)) : rdD μ (.ref p) = some kvs := by
  show (match μ p with
    | some (.dk kvs) => some kvs
    | some (.rk kvs) => some kvs
    | _ => none) = some kvs
  rw [h]
theorem drf_ref {μ : Mu} {p : Addr} {ws : List W} (h : μ p = some (.ls ws)) : drf μ (.ref p) = .lst ws := by
  show (match μ p with
    | some (.ls ws) => W.lst ws
    | _ => .ref p) = _
  rw [h]
theorem tyW_refL {μ : Mu} {p : Addr} {ws : List W} (h : μ p = some (.ls ws)) : tyW μ (.ref p) = some .lst := by
  show (match μ p with
    | some (.ls _) => some T7.lst
    | some (.dk _) => some .dct
    | some (.rk _) => some .dct
    | some (.dt _) => some .dct
    | _ => none) = _
  rw [h]
theorem tyW_refD {μ : Mu} {p : Addr} {kvs : List (Key × W)} (h : μ p = some (.dk kvs)) : tyW μ (.ref p) = some .dct := by
  show (match μ p with
    | some (.ls _) => some T7.lst
    | some (.dk _) => some .dct
    | some (.rk _) => some .dct
    | some (.dt _) => some .dct
    | _ => none) = _
  rw [h]
theorem nums_at {lo : Int} {n i : Nat} {w : W} (h : (nums lo n)[i]? = some w) : i < n ∧ w = .int (lo + i) := by
  unfold nums at h
  rw [List.getElem?_map] at h
  obtain ⟨j, h1, h2⟩ := Option.map_eq_some_iff.mp h
  obtain ⟨h3, h4⟩ := List.getElem?_eq_some_iff.mp h1
  rw [List.getElem_range] at h4
  rw [List.length_range] at h3
  subst h4
  exact ⟨h3, h2.symm⟩
theorem nums_len (lo : Int) (n : Nat) : (nums lo n).length = n := by
  unfold nums
  rw [List.length_map, List.length_range]
/-- over a range, by the turn -/
theorem itS_nums {std : Mu → Prop} {g : FG} {b : FS} {N : En} {lo : Int} {n : Nat} (I : Nat → Rho → Mu → Prop) {ρ : Rho} {μ : Mu} (h0 : I 0 ρ μ) (hstd : ∀ μ, std μ)
    (hs : ∀ k, k < n → ∀ ρ μ, I k ρ μ → ∀ K : Rho → Mu → Prop, (∀ ρ' μ', I (k + 1) ρ' μ' → K ρ' μ') → g (.int (lo + k)) ρ μ fun ρ1 μ1 => b ρ1 μ1 { nx := K, ct := K, bk := N.nx, rt := N.rt, ex := N.ex })
    (hd : ∀ ρ μ, I n ρ μ → N.nx ρ μ) : itS std g b (nums lo n) ρ μ N :=
  itS_inv (nums lo n) I h0 (fun i w ρ μ hw h => ⟨hstd μ, fun K hK => by
    obtain ⟨h1, rfl⟩ := nums_at hw
    exact hs i h1 ρ μ h K hK⟩) fun ρ μ h => ⟨hstd μ, hd ρ μ (by rw [nums_len] at h; exact h)⟩
theorem q_len {ws : List W} {n : Nat} {B : Prop} (h : Nat.ble ws.length n = true) (b : B) : ws.length ≤ n ∧ B := ⟨Nat.le_of_ble_eq_true h, b⟩
theorem q_leq {ws : List W} {n : Nat} {B : Prop} (h : ws.length = n) (b : B) : ws.length = n ∧ B := ⟨h, b⟩
theorem q_le {a b : Nat} {B : Prop} (h : Nat.ble a b = true) (k : B) : a ≤ b ∧ B := ⟨Nat.le_of_ble_eq_true h, k⟩
theorem tyL_lst {μ : Mu} {ws : List W} : tyL μ (.lst ws) := rfl
theorem tyL_rol {μ : Mu} {ws : List W} : tyL μ (.rol ws) := rfl
theorem q_nn {p : Prop} [Decidable p] (h : p) : (!decide p) = false := by rw [decide_eq_true h]; rfl
theorem q_nt {p : Prop} [Decidable p] (h : ¬p) : (!decide p) = true := by rw [decide_eq_false h]; rfl
end Q
namespace Q
open PySem PySem.Spec PyProof.Rows L2 Evl
/-! exceptions with two fields, set by the class's own __init__ -/
section
variable {X : Cx} {E : L2.St → XK} {k : Nat} {x f g : Str} {e1 e2 : Expr} {p pos pos' : Pos} {fa : FA}
/-! except C as n -/
theorem Pay.rw {K : Frag} {H : Hp} {μ : Mu} {d : Option Addr} {fs : List (Str × W)} {a : Addr} {c : Str} (p : Pay K H μ d fs) : Rw K H μ (.ref a) (.exc a d c fs) := by
  cases p with
  | none => exact .exc
  | some h n r _ => exact .excf h n r
theorem Holds.hv {K : Frag} {H : Hp} {μ : Mu} {σ : L2.St} {ρ : Rho} (i : Nat) (h : Holds K H μ σ ρ) : Holds K H μ (σ.set i none) (Q.hv ρ i) := by
  rw [hv_set]
  exact h.hide i
end
/-! steps over what is tracked -/
@[reducible] def mo {α : Type} (x : Option α) (A : α → Prop) : Prop := match x with
  | some y => A y
  | none => False
theorem lk_hit {β : Type} {f : Str} {x : β} {r : List (Str × β)} : lk f ((f, x) :: r) = some x := by
  unfold lk
  rw [if_pos rfl]
theorem lk_skip {β : Type} {f g : Str} {x : β} {o : Option β} {r : List (Str × β)} (h : f ≠ g) (e : lk f r = o) : lk f ((g, x) :: r) = o := by
  unfold lk
  rw [if_neg h]
  exact e
theorem lk_nil {β : Type} {f : Str} : lk f ([] : List (Str × β)) = none := rfl
theorem lk_skip1 {β : Type} {f g : Str} {x : β} {r : List (Str × β)} (h : f ≠ g) : lk f ((g, x) :: r) = lk f r := lk_skip h rfl
theorem q_lkn {f : Str} {fs : List (Str × W)} {B : Prop} (h : lk f fs = none) (b : B) : lk f fs = none ∧ B := ⟨h, b⟩
theorem q_memc {c : Str} {cs : List Str} {B : Prop} (b : B) : c ∈ c :: cs ∧ B := ⟨List.mem_cons_self, b⟩
theorem q_pow {i j : Int} {B : Prop} (h : (decide (0 ≤ j) && (decide (j ≤ 1000000) && decide (i.natAbs < 2 ^ 64))) = true) (b : B) : CPow i j ∧ B := by
  obtain ⟨h1, h⟩ := Bool.and_eq_true_iff.mp h
  obtain ⟨h2, h3⟩ := Bool.and_eq_true_iff.mp h
  exact ⟨⟨of_decide_eq_true h1, of_decide_eq_true h2, of_decide_eq_true h3⟩, b⟩
theorem isD_drf {n : Nat} {w : W} {μ : Mu} (h : isD n w = true) : drf μ w = w := by
  cases w <;> first | rfl | (cases n <;> cases h)
/-! == and != that are not opened at values that are not known -/
def wEqu : F2 := wEq
def wNeq : F2 := wNe
theorem opU_equ {X : Cx} (hu : X.A.units + 64 < cLine) : OpR X (compareOp .Eq) (rW X.K wEqu) := opU_eq hu
theorem opU_neq {X : Cx} (hu : X.A.units + 64 < cLine) : OpR X (compareOp .NotEq) (rW X.K wNeq) := opU_ne hu
section
variable {μ : Mu} {P : Po}
theorem q_eqI {i j : Int} (h : P (.bl (decide (i = j))) μ) : wEqu (.int i) (.int j) μ P := h
theorem q_eqS {i j : Str} (h : P (.bl (decide (i = j))) μ) : wEqu (.str i) (.str j) μ P := h
theorem q_eqB {i j : Bool} (h : P (.bl (decide (i = j))) μ) : wEqu (.bl i) (.bl j) μ P := h
theorem q_neI {i j : Int} (h : P (.bl (!decide (i = j))) μ) : wNeq (.int i) (.int j) μ P := h
theorem q_neS {i j : Str} (h : P (.bl (!decide (i = j))) μ) : wNeq (.str i) (.str j) μ P := h
theorem q_neB {i j : Bool} (h : P (.bl (!decide (i = j))) μ) : wNeq (.bl i) (.bl j) μ P := h
end
end Q
namespace Q
open PySem PySem.Spec PyProof.Rows L2 Evl
/-! tables of the module: dicts with text keys that nobody changes -/
def wTin (x : Str) (kvs : List (Str × W)) (neg : Bool) : F2 := fun y t μ P => t = .fn x ∧ (match y with
  | .str z => P (.bl (if neg then !decide (z ∈ kvs.map (·.1)) else decide (z ∈ kvs.map (·.1)))) μ
  | _ => False)
def wTix (x : Str) (kvs : List (Str × W)) : F2 := fun t y μ P => t = .fn x ∧ (match y with
  | .str z => (match lk z kvs with
    | some w => P w μ
    | none => False)
  | _ => False)
theorem q_tin {x : Str} {kvs : List (Str × W)} {neg : Bool} {z : Str} {μ : Mu} {P : Po} (h : P (.bl (if neg then !decide (z ∈ kvs.map (·.1)) else decide (z ∈ kvs.map (·.1)))) μ) : wTin x kvs neg (.str z) (.fn x) μ P := ⟨rfl, h⟩
theorem q_tix {x : Str} {kvs : List (Str × W)} {z : Str} {w : W} {μ : Mu} {P : Po} (e : lk z kvs = some w) (h : P w μ) : wTix x kvs (.fn x) (.str z) μ P := ⟨rfl, by
  show (match lk z kvs with
    | some w => P w μ
    | none => False)
  rw [e]
  exact h⟩
section
variable {X : Cx} {E : L2.St → XK} {x : Str} {kvs : List (Str × W)} {p pos : Pos}
/-! calls of a local name that holds one of some defs -/
theorem DefQ.mono {P : Program} {w : World} {K : Frag} {mg : Str → Option Value} {base : Heap} {j k : Nat} {y : Str} {ps : List Str} {f : FW} (h : DefQ P w K mg base j y ps f) (l : j ≤ k) : DefQ P w K mg base k y ps f := by
  obtain ⟨a, fd, F, r⟩ := h.ex
  exact ⟨a, fd, F.mono l, r⟩
end
theorem pf_hit {f : Str} {w x : W} {r : List (Str × W)} : pf f w ((f, x) :: r) = (f, w) :: r := by
  unfold pf
  rw [if_pos rfl]
theorem pf_skip {f g : Str} {w x : W} {r : List (Str × W)} (h : g ≠ f) : pf f w ((g, x) :: r) = (g, x) :: pf f w r := by
  rw [pf.eq_def]
  exact if_neg h
theorem pf_nil {f : Str} {w : W} : pf f w [] = [(f, w)] := rfl
theorem q_nisT {w : W} {A B : Prop} (h : isN w = false) (a : A) : if (!isN w) = true then A else B := q_t (by rw [h]; rfl) a
theorem q_nisF {w : W} {A B : Prop} (h : isN w = true) (b : B) : if (!isN w) = true then A else B := q_f (by rw [h]; rfl) b
end Q
namespace Q
open PySem PySem.Spec PyProof.Rows L2 Evl
/-! sorted(xs, key=lambda x: x[k]) -/
/-! ### a lambda made: only the maker's own table is written -/
/-! ### over W -/
end Q
namespace Q
open PySem PySem.Spec PyProof.Rows L2 Evl
/-! defs that make lambdas: their code object is known; a law that starts with the tables -/
end Q
namespace Q
open PySem PySem.Spec PyProof.Rows L2 Evl
/-! defs that call themselves: by levels -/
/-! 'c' + x.replace('y', 'z') -/
/-! int(text) -/
end Q
namespace Q
open PySem PySem.Spec PyProof.Rows L2 Evl
/-! a, b, c = x, y, z -/
end Q
namespace PySem
open Sem (wp)
end PySem
namespace Q
open PySem PySem.Spec PyProof.Rows L2 Evl
/-! {**a, **b} -/
end Q
namespace L2
open PySem PySem.Spec PyProof.Rows
end L2
namespace Q
open PySem PySem.Spec PyProof.Rows L2 Evl
end Q
/-! a try whose clauses may have names -/
namespace Q
open PySem PySem.Spec PyProof.Rows L2 Evl
/-! except C as n, beside other clauses -/
/-! a, b, .. = a list -/
@[reducible] def gL (n : Nat) (r : FGs) : FG := fun w ρ μ P => match rdL μ w with
  | some ws => ws.length = n ∧ r ws ρ μ P
  | none => False
theorem qg_lst {X : Cx} {es : List Expr} {k : Nat} {g : FGs} {n : Nat} {pos : Pos} (hc : X.calm = true) (h : QGs X es g)
    (hn : (assignEach es X.env).length = n := by rfl) (hst : (assignEach es X.env).findIdx? (·.1) = none := by rfl) : QG X (.Tuple es k pos) (gL n g) := ⟨(pg_lst hc h.pgs hn hst).qimp fun v σ H Q h => by
  obtain ⟨w, ρ, μ, P, r, hh, hm, hg, q⟩ := h
  unfold gL at hg
  split at hg
  · rename_i ws e
    obtain ⟨a, vs, e1, hq, hs⟩ := rdL_at e r hm
    exact ⟨a, vs, e1, hq, hs.len.trans hg.1, _, ρ, μ, P, hs, hh, hm, hg.2, q⟩
  · exact hg.elim⟩
end Q
namespace Q
open PySem
/-! the defs as functions -/
def f__law_cell_B : FW := fDef 2 2 (sSeq (sIf (cV (eOp wLt (eV 1) (eB bLen (aCons (eV 0) (aNil))))) (sRt (eOp wIx (eV 0) (eV 1))) (sNx))
  (sRt (eC (.int 0))))
noncomputable def f__law_cell_S : { f : FW // f = f__law_cell_B } := Classical.choice ⟨⟨_, rfl⟩⟩
noncomputable def f__law_cell : FW := f__law_cell_S.1
theorem f__law_cell_eq : f__law_cell = f__law_cell_B := f__law_cell_S.2
def f_is_key_B : FW := fDef 1 2 (sSeq (sIf (cOr (cNot (cV (eIsi .str (eV 0)))) (cNot (cV (eChain wLe wLe (eC (.int 1)) (eB bLen (aCons (eV 0) (aNil))) (eC (.int 8)))))) (sRt (eC (.bl false))) (sNx))
  (sSeq (sFor (iSq (eV 0)) (gN 1) (sIf (cNot (cV (eChain wLe wLe (eC (.str "a")) (eV 1) (eC (.str "z"))))) (sRt (eC (.bl false))) (sNx)))
  (sRt (eC (.bl true)))))
noncomputable def f_is_key_S : { f : FW // f = f_is_key_B } := Classical.choice ⟨⟨_, rfl⟩⟩
noncomputable def f_is_key : FW := f_is_key_S.1
theorem f_is_key_eq : f_is_key = f_is_key_B := f_is_key_S.2
def f_below_B : FW := fDef 2 2 (sSeq (sIf (cV (eOp wIs (eV 0) (eC .non))) (sRt (eC (.bl false))) (sNx))
  (sRt (eOr (eOp wIs (eV 1) (eC .non)) (eOp wLt (eV 0) (eV 1)))))
noncomputable def f_below_S : { f : FW // f = f_below_B } := Classical.choice ⟨⟨_, rfl⟩⟩
noncomputable def f_below : FW := f_below_S.1
theorem f_below_eq : f_below = f_below_B := f_below_S.2
def f_is_whole_B : FW := fDef 1 4 (sSeq (sAsg (eV 0) (gT 3 (gsCons (gN 1) (gsCons (gN 2) (gsCons (gN 3) (gsNil))))))
  (sRt (eAnd (eOp wEqu (eV 1) (eOp wIx (eV 3) (eC (.int 0)))) (eOp wEqu (eV 2) (eOp wIx (eV 3) (eC (.int 1)))))))
noncomputable def f_is_whole_S : { f : FW // f = f_is_whole_B } := Classical.choice ⟨⟨_, rfl⟩⟩
noncomputable def f_is_whole : FW := f_is_whole_S.1
theorem f_is_whole_eq : f_is_whole = f_is_whole_B := f_is_whole_S.2
def f__is_large_B : FW := fDef 1 6 (sSeq (sAsg (eV 0) (gT 6 (gsCons (gN 1) (gsCons (gN 2) (gsCons (gN 3) (gsCons (gN 3) (gsCons (gN 4) (gsCons (gN 5) (gsNil)))))))))
  (sRt (eAnd (eOp wGt (eV 4) (eC (.int 8))) (eAnd (eCall f_is_key (aCons (eV 5) (aNil))) (eAnd (eOp wLt (eV 1) (eV 5)) (eCall f_below (aCons (eV 5) (aCons (eV 2) (aNil)))))))))
noncomputable def f__is_large_S : { f : FW // f = f__is_large_B } := Classical.choice ⟨⟨_, rfl⟩⟩
noncomputable def f__is_large : FW := f__is_large_S.1
theorem f__is_large_eq : f__is_large = f__is_large_B := f__is_large_S.2
def f__split_B : FW := fDef 1 7 (sSeq (sAsg (eV 0) (gT 6 (gsCons (gN 1) (gsCons (gN 2) (gsCons (gN 3) (gsCons (gN 4) (gsCons (gN 5) (gsCons (gN 6) (gsNil)))))))))
  (sRt (eTup (aCons (eV 4) (aCons (eTup (aCons (eC (.str "split")) (aCons (eV 1) (aCons (eV 2) (aCons (eV 3) (aCons (eV 6) (aNil))))))) (aNil))))))
noncomputable def f__split_S : { f : FW // f = f__split_B } := Classical.choice ⟨⟨_, rfl⟩⟩
noncomputable def f__split : FW := f__split_S.1
theorem f__split_eq : f__split = f__split_B := f__split_S.2
def f__belong_together_B : FW := fDef 2 2 (sRt (eAnd (eOp wEqu (eOp wIx (eV 0) (eC (.int 1))) (eOp wIx (eV 1) (eC (.int 0)))) (eAnd (eOp wEqu (eOp wIx (eV 0) (eC (.int 3))) (eOp wIx (eV 1) (eC (.int 3)))) (eOp wLe (eOp wAdd (eOp wIx (eV 0) (eC (.int 4))) (eOp wIx (eV 1) (eC (.int 4)))) (eC (.int 4))))))
noncomputable def f__belong_together_S : { f : FW // f = f__belong_together_B } := Classical.choice ⟨⟨_, rfl⟩⟩
noncomputable def f__belong_together : FW := f__belong_together_S.1
theorem f__belong_together_eq : f__belong_together = f__belong_together_B := f__belong_together_S.2
def f__join_B : FW := fDef 2 7 (sSeq (sAsg (eV 0) (gT 6 (gsCons (gN 2) (gsCons (gN 3) (gsCons (gN 4) (gsCons (gN 5) (gsCons (gN 6) (gsCons (gN 6) (gsNil)))))))))
  (sRt (eTup (aCons (eV 5) (aCons (eTup (aCons (eC (.str "join")) (aCons (eV 2) (aCons (eV 3) (aCons (eV 4) (aCons (eOp wIx (eV 1) (eC (.int 1))) (aCons (eOp wIx (eV 1) (eC (.int 2))) (aNil)))))))) (aNil))))))
noncomputable def f__join_S : { f : FW // f = f__join_B } := Classical.choice ⟨⟨_, rfl⟩⟩
noncomputable def f__join : FW := f__join_S.1
theorem f__join_eq : f__join = f__join_B := f__join_S.2
def f__join_neighbours_B : FW := fDef 1 4 (sSeq (sSet 1 (eLR (aNil)))
  (sSeq (sSet 2 (eLR (aNil)))
  (sSeq (sSet 3 (eC (.int 0)))
  (sSeq (itWh (cV (eOp wLt (eV 3) (eB bLen (aCons (eV 0) (aNil))))) (sIf (cAnd (cV (eOp wLt (eOp wAdd (eV 3) (eC (.int 1))) (eB bLen (aCons (eV 0) (aNil))))) (cV (eCall f__belong_together (aCons (eOp wIx (eV 0) (eV 3)) (aCons (eOp wIx (eV 0) (eOp wAdd (eV 3) (eC (.int 1)))) (aNil)))))) (sSeq (sEx (eBm tyL mApp (eV 1) (aCons (eCall f__join (aCons (eOp wIx (eV 0) (eV 3)) (aCons (eOp wIx (eV 0) (eOp wAdd (eV 3) (eC (.int 1)))) (aNil)))) (aNil))))
  (sSet 3 (eOp wAdd (eV 3) (eC (.int 2))))) (sSeq (sEx (eBm tyL mApp (eV 2) (aCons (eOp wIx (eV 0) (eV 3)) (aNil))))
  (sSet 3 (eOp wAdd (eV 3) (eC (.int 1)))))))
  (sRt (eTup (aCons (eV 1) (aCons (eV 2) (aNil)))))))))
noncomputable def f__join_neighbours_S : { f : FW // f = f__join_neighbours_B } := Classical.choice ⟨⟨_, rfl⟩⟩
noncomputable def f__join_neighbours : FW := f__join_neighbours_S.1
theorem f__join_neighbours_eq : f__join_neighbours = f__join_neighbours_B := f__join_neighbours_S.2
def f__load_B : FW := fDef 2 3 (sRt (eB bLen (aCons (eLcV (iSq (eV 0)) [2] (gN 2) (cV (eOp wEqu (eOp wIx (eV 2) (eC (.int 3))) (eV 1))) (eV 2)) (aNil))))
noncomputable def f__load_S : { f : FW // f = f__load_B } := Classical.choice ⟨⟨_, rfl⟩⟩
noncomputable def f__load : FW := f__load_S.1
theorem f__load_eq : f__load = f__load_B := f__load_S.2
def f__even_out_B : FW := fDef 3 11 (sSeq (sSet 3 (eLcV (iR1 (aCons (eV 2) (aNil))) [9] (gN 9) cYes (eCall f__load (aCons (eV 0) (aCons (eV 9) (aNil))))))
  (sSeq (sSet 4 (eBm tyL mIdx (eV 3) (aCons (eB bMax (aCons (eV 3) (aNil))) (aNil))))
  (sSeq (sSet 5 (eBm tyL mIdx (eV 3) (aCons (eB bMin (aCons (eV 3) (aNil))) (aNil))))
  (sSeq (sIf (cV (eOp wLt (eOp wSub (eOp wIx (eV 3) (eV 4)) (eOp wIx (eV 3) (eV 5))) (eC (.int 2)))) (sRt (eLV (aNil))) (sNx))
  (sSeq (sFor (iSq (eV 1)) (gT 6 (gsCons (gN 6) (gsCons (gN 7) (gsCons (gN 8) (gsCons (gN 9) (gsCons (gN 10) (gsCons (gN 10) (gsNil)))))))) (sIf (cV (eOp wEqu (eV 9) (eV 4))) (sRt (eLV (aCons (eTup (aCons (eV 9) (aCons (eTup (aCons (eC (.str "move")) (aCons (eV 6) (aCons (eV 7) (aCons (eV 8) (aCons (eV 5) (aNil))))))) (aNil)))) (aNil)))) (sNx)))
  (sRt (eLV (aNil))))))))
noncomputable def f__even_out_S : { f : FW // f = f__even_out_B } := Classical.choice ⟨⟨_, rfl⟩⟩
noncomputable def f__even_out : FW := f__even_out_S.1
theorem f__even_out_eq : f__even_out = f__even_out_B := f__even_out_S.2
def f_plan_B : FW := fDef 2 8 (sSeq (sSet 2 (eLcV (iSq (eV 0)) [6] (gN 6) (cV (eCall f_is_whole (aCons (eV 6) (aNil)))) (eOp wIx (eV 6) (eC (.int 2)))))
  (sSeq (sSet 3 (eLcV (iSq (eV 2)) [7] (gN 7) (cV (eCall f__is_large (aCons (eV 7) (aNil)))) (eCall f__split (aCons (eV 7) (aNil)))))
  (sSeq (sAsg (eCall f__join_neighbours (aCons (eLcV (iSq (eV 2)) [7] (gN 7) (cNot (cV (eCall f__is_large (aCons (eV 7) (aNil))))) (eV 7)) (aNil))) (gT 2 (gsCons (gN 4) (gsCons (gN 5) (gsNil)))))
  (sRt (eOp wAdd (eOp wAdd (eV 3) (eV 4)) (eCall f__even_out (aCons (eV 2) (aCons (eV 5) (aCons (eV 1) (aNil))))))))))
noncomputable def f_plan_S : { f : FW // f = f_plan_B } := Classical.choice ⟨⟨_, rfl⟩⟩
noncomputable def f_plan : FW := f_plan_S.1
theorem f_plan_eq : f_plan = f_plan_B := f_plan_S.2
def f__law_key_2_B : FW := fDef 1 1 (sRt (eOp wAdd (eOp wIx (eC (.str "abcdefghijklmnopqrst")) (eOp wMod (eOp wFdv (eV 0) (eC (.int 20))) (eC (.int 20)))) (eOp wIx (eC (.str "abcdefghijklmnopqrst")) (eOp wMod (eV 0) (eC (.int 20))))))
noncomputable def f__law_key_2_S : { f : FW // f = f__law_key_2_B } := Classical.choice ⟨⟨_, rfl⟩⟩
noncomputable def f__law_key_2 : FW := f__law_key_2_S.1
theorem f__law_key_2_eq : f__law_key_2 = f__law_key_2_B := f__law_key_2_S.2
def f__law_table_B : FW := fDef 2 12 (sSeq (sSet 2 (eB bSrS (aCons (eLcV (iSq (eSl (eV 0) (foS (eC (.int 2))) (foS (eC (.int 42))))) [10] (gN 10) cYes (eCall f__law_key_2 (aCons (eOp wMod (eB bInt (aCons (eOp wFdv (eV 10) (eC (.int 7))) (aNil))) (eC (.int 400))) (aNil)))) (aNil))))
  (sSeq (sSet 2 (eLcV (iR1 (aCons (eB bLen (aCons (eV 2) (aNil))) (aNil))) [6] (gN 6) (cOr (cV (eOp wEqu (eV 6) (eC (.int 0)))) (cV (eOp wNeq (eOp wIx (eV 2) (eV 6)) (eOp wIx (eV 2) (eOp wSub (eV 6) (eC (.int 1))))))) (eOp wIx (eV 2) (eV 6))))
  (sSeq (sSet 3 (eB bSrS (aCons (eLcV (iSq (eSl (eV 0) (foS (eC (.int 2))) (foS (eC (.int 13))))) [10] (gN 10) cYes (eCall f__law_key_2 (aCons (eOp wMod (eB bInt (aCons (eOp wFdv (eV 10) (eC (.int 3000))) (aNil))) (eC (.int 400))) (aNil)))) (aNil))))
  (sSeq (sSet 3 (eLcV (iR1 (aCons (eB bLen (aCons (eV 3) (aNil))) (aNil))) [6] (gN 6) (cOr (cV (eOp wEqu (eV 6) (eC (.int 0)))) (cV (eOp wNeq (eOp wIx (eV 3) (eV 6)) (eOp wIx (eV 3) (eOp wSub (eV 6) (eC (.int 1))))))) (eOp wIx (eV 3) (eV 6))))
  (sSeq (sSet 4 (eOp wAdd (eLV (aCons (eC (.str "")) (aNil))) (eV 3)))
  (sSeq (sSet 5 (eLR (aNil)))
  (sSeq (sFor (iR1 (aCons (eB bLen (aCons (eV 4) (aNil))) (aNil))) (gN 6) (sSeq (sSet 7 (eC .non))
  (sJn (sIf (cV (eOp wLt (eOp wAdd (eV 6) (eC (.int 1))) (eB bLen (aCons (eV 4) (aNil))))) (sSet 7 (eOp wIx (eV 4) (eOp wAdd (eV 6) (eC (.int 1))))) (sNx))
  (sSeq (sSet 8 (eLcV (iSq (eV 2)) [11] (gN 11) (cAnd (cV (eOp wLe (eOp wIx (eV 4) (eV 6)) (eV 11))) (cOr (cV (eOp wIs (eV 7) (eC .non))) (cV (eOp wLt (eV 11) (eV 7))))) (eV 11)))
  (sSeq (sSet 9 (eOp wMod (eB bInt (aCons (eOp wAdd (eOp wFdv (eCall f__law_cell (aCons (eV 0) (aCons (eC (.int 1)) (aNil)))) (eOp wAdd (eV 6) (eC (.int 1)))) (eCall f__law_cell (aCons (eV 0) (aCons (eOp wAdd (eC (.int 42)) (eV 6)) (aNil))))) (aNil))) (eV 1)))
  (sEx (eBm tyL mApp (eV 5) (aCons (eLV (aCons (eOp wIx (eV 4) (eV 6)) (aCons (eV 7) (aCons (eOp wAdd (eC (.int 1)) (eOp wMod (eV 6) (eC (.int 3)))) (aCons (eV 9) (aCons (eV 8) (aNil))))))) (aNil)))))))))
  (sRt (eV 5)))))))))
noncomputable def f__law_table_S : { f : FW // f = f__law_table_B } := Classical.choice ⟨⟨_, rfl⟩⟩
noncomputable def f__law_table : FW := f__law_table_S.1
theorem f__law_table_eq : f__law_table = f__law_table_B := f__law_table_S.2
def f__law_at_B : FW := fDef 5 6 (sSeq (sFor (iR1 (aCons (eB bLen (aCons (eV 0) (aNil))) (aNil))) (gN 5) (sIf (cAnd (cV (eOp wEqu (eOp wIx (eOp wIx (eV 0) (eV 5)) (eC (.int 0))) (eV 1))) (cAnd (cV (eOp wEqu (eOp wIx (eOp wIx (eV 0) (eV 5)) (eC (.int 1))) (eV 2))) (cAnd (cV (eOp wEqu (eOp wIx (eOp wIx (eV 0) (eV 5)) (eC (.int 2))) (eV 3))) (cV (eOp wEqu (eOp wIx (eOp wIx (eV 0) (eV 5)) (eC (.int 3))) (eV 4)))))) (sRt (eV 5)) (sNx)))
  (sRt (eUn wNeg (eC (.int 1)))))
noncomputable def f__law_at_S : { f : FW // f = f__law_at_B } := Classical.choice ⟨⟨_, rfl⟩⟩
noncomputable def f__law_at : FW := f__law_at_S.1
theorem f__law_at_eq : f__law_at = f__law_at_B := f__law_at_S.2
def f__law_carried_B : FW := fDef 3 11 (sSeq (sSet 3 (eOp wIx (eV 2) (eC (.int 0))))
  (sSeq (sIf (cV (eOp wEqu (eV 3) (eC (.str "join")))) (sSeq (sSet 4 (eCall f__law_at (aCons (eV 0) (aCons (eOp wIx (eV 2) (eC (.int 1))) (aCons (eOp wIx (eV 2) (eC (.int 2))) (aCons (eOp wIx (eV 2) (eC (.int 3))) (aCons (eV 1) (aNil))))))))
  (sSeq (sSet 8 (eCall f__law_at (aCons (eV 0) (aCons (eOp wIx (eV 2) (eC (.int 2))) (aCons (eOp wIx (eV 2) (eC (.int 4))) (aCons (eOp wIx (eV 2) (eC (.int 5))) (aCons (eV 1) (aNil))))))))
  (sSeq (sIf (cOr (cV (eOp wLt (eV 4) (eC (.int 0)))) (cV (eOp wNeq (eV 8) (eOp wAdd (eV 4) (eC (.int 1)))))) (sRt (eC (.bl false))) (sNx))
  (sSeq (sSet 9 (eOp wAdd (eOp wIx (eOp wIx (eV 0) (eV 4)) (eC (.int 4))) (eOp wIx (eOp wIx (eV 0) (eV 8)) (eC (.int 4)))))
  (sSeq (sSet 5 (eLV (aCons (eOp wIx (eV 2) (eC (.int 1))) (aCons (eOp wIx (eV 2) (eC (.int 4))) (aCons (eOp wAdd (eB bMax (aCons (eOp wIx (eV 2) (eC (.int 3))) (aCons (eOp wIx (eV 2) (eC (.int 5))) (aNil)))) (eC (.int 1))) (aCons (eV 1) (aCons (eV 9) (aNil))))))))
  (sSeq (sEx (eBm tyL mPop (eV 0) (aCons (eV 8) (aNil))))
  (sSeq (sPut (eV 0) (eV 4) (eV 5))
  (sRt (eC (.bl true)))))))))) (sNx))
  (sSeq (sSet 4 (eCall f__law_at (aCons (eV 0) (aCons (eOp wIx (eV 2) (eC (.int 1))) (aCons (eOp wIx (eV 2) (eC (.int 2))) (aCons (eOp wIx (eV 2) (eC (.int 3))) (aCons (eV 1) (aNil))))))))
  (sSeq (sIf (cV (eOp wLt (eV 4) (eC (.int 0)))) (sRt (eC (.bl false))) (sNx))
  (sSeq (sSet 5 (eOp wIx (eV 0) (eV 4)))
  (sSeq (sIf (cV (eOp wEqu (eV 3) (eC (.str "move")))) (sSeq (sPut (eV 0) (eV 4) (eLV (aCons (eOp wIx (eV 5) (eC (.int 0))) (aCons (eOp wIx (eV 5) (eC (.int 1))) (aCons (eOp wAdd (eOp wIx (eV 5) (eC (.int 2))) (eC (.int 1))) (aCons (eOp wIx (eV 2) (eC (.int 4))) (aCons (eOp wIx (eV 5) (eC (.int 4))) (aNil))))))))
  (sRt (eC (.bl true)))) (sNx))
  (sSeq (sSet 6 (eLcV (iSq (eOp wIx (eV 5) (eC (.int 4)))) [10] (gN 10) (cV (eOp wLt (eV 10) (eOp wIx (eV 2) (eC (.int 4))))) (eV 10)))
  (sSeq (sSet 7 (eLcV (iSq (eOp wIx (eV 5) (eC (.int 4)))) [10] (gN 10) (cV (eOp wGe (eV 10) (eOp wIx (eV 2) (eC (.int 4))))) (eV 10)))
  (sSeq (sPut (eV 0) (eV 4) (eLV (aCons (eOp wIx (eV 5) (eC (.int 0))) (aCons (eOp wIx (eV 2) (eC (.int 4))) (aCons (eOp wAdd (eOp wIx (eV 5) (eC (.int 2))) (eC (.int 1))) (aCons (eV 1) (aCons (eV 6) (aNil))))))))
  (sSeq (sEx (eBm tyL mIns (eV 0) (aCons (eOp wAdd (eV 4) (eC (.int 1))) (aCons (eLV (aCons (eOp wIx (eV 2) (eC (.int 4))) (aCons (eOp wIx (eV 5) (eC (.int 1))) (aCons (eOp wAdd (eOp wIx (eV 5) (eC (.int 2))) (eC (.int 1))) (aCons (eV 1) (aCons (eV 7) (aNil))))))) (aNil)))))
  (sRt (eC (.bl true)))))))))))))
noncomputable def f__law_carried_S : { f : FW // f = f__law_carried_B } := Classical.choice ⟨⟨_, rfl⟩⟩
noncomputable def f__law_carried : FW := f__law_carried_S.1
theorem f__law_carried_eq : f__law_carried = f__law_carried_B := f__law_carried_S.2
def f__law_named_B : FW := fDef 3 3 (sSeq (sIf (cV (eOp wEqu (eOp wIx (eV 2) (eC (.int 0))) (eC (.str "join")))) (sRt (eAnd (eOp wIn (eLV (aCons (eOp wIx (eV 2) (eC (.int 1))) (aCons (eOp wIx (eV 2) (eC (.int 2))) (aCons (eOp wIx (eV 2) (eC (.int 3))) (aCons (eV 1) (aNil)))))) (eV 0)) (eOp wIn (eLV (aCons (eOp wIx (eV 2) (eC (.int 2))) (aCons (eOp wIx (eV 2) (eC (.int 4))) (aCons (eOp wIx (eV 2) (eC (.int 5))) (aCons (eV 1) (aNil)))))) (eV 0)))) (sNx))
  (sRt (eOp wIn (eLV (aCons (eOp wIx (eV 2) (eC (.int 1))) (aCons (eOp wIx (eV 2) (eC (.int 2))) (aCons (eOp wIx (eV 2) (eC (.int 3))) (aCons (eV 1) (aNil)))))) (eV 0))))
noncomputable def f__law_named_S : { f : FW // f = f__law_named_B } := Classical.choice ⟨⟨_, rfl⟩⟩
noncomputable def f__law_named : FW := f__law_named_S.1
theorem f__law_named_eq : f__law_named = f__law_named_B := f__law_named_S.2
def f__law_pieces_4_B : FW := fDef 1 8 (sSeq (sSet 1 (eLR (aNil)))
  (sSeq (sFor (iSq (eV 0)) (gL 5 (gsCons (gN 2) (gsCons (gN 3) (gsCons (gN 4) (gsCons (gN 5) (gsCons (gN 6) (gsNil))))))) (sSeq (sSet 7 (eC (.str "")))
  (sJn (sIf (cV (eOp wGe (eB bLen (aCons (eV 6) (aNil))) (eC (.int 2)))) (sSet 7 (eOp wIx (eV 6) (eOp wFdv (eB bLen (aCons (eV 6) (aNil))) (eC (.int 2))))) (sNx))
  (sEx (eBm tyL mApp (eV 1) (aCons (eTup (aCons (eV 2) (aCons (eV 3) (aCons (eTup (aCons (eV 2) (aCons (eV 3) (aCons (eV 4) (aCons (eV 5) (aCons (eB bLen (aCons (eV 6) (aNil))) (aCons (eV 7) (aNil)))))))) (aNil))))) (aNil)))))))
  (sRt (eV 1))))
noncomputable def f__law_pieces_4_S : { f : FW // f = f__law_pieces_4_B } := Classical.choice ⟨⟨_, rfl⟩⟩
noncomputable def f__law_pieces_4 : FW := f__law_pieces_4_S.1
theorem f__law_pieces_4_eq : f__law_pieces_4 = f__law_pieces_4_B := f__law_pieces_4_S.2
def f__law_rests_2_B : FW := fDef 2 10 (sSeq (sFor (iR1 (aCons (eB bLen (aCons (eV 0) (aNil))) (aNil))) (gN 2) (sSeq (sAsg (eOp wIx (eV 0) (eV 2)) (gL 5 (gsCons (gN 4) (gsCons (gN 5) (gsCons (gN 6) (gsCons (gN 7) (gsCons (gN 8) (gsNil))))))))
  (sSeq (sIf (cV (eOp wGt (eB bLen (aCons (eV 8) (aNil))) (eC (.int 8)))) (sRt (eC (.bl false))) (sNx))
  (sIf (cAnd (cV (eOp wLt (eOp wAdd (eV 2) (eC (.int 1))) (eB bLen (aCons (eV 0) (aNil))))) (cAnd (cV (eOp wEqu (eOp wIx (eOp wIx (eV 0) (eOp wAdd (eV 2) (eC (.int 1)))) (eC (.int 3))) (eV 7))) (cV (eOp wLe (eOp wAdd (eB bLen (aCons (eV 8) (aNil))) (eB bLen (aCons (eOp wIx (eOp wIx (eV 0) (eOp wAdd (eV 2) (eC (.int 1)))) (eC (.int 4))) (aNil)))) (eC (.int 4)))))) (sRt (eC (.bl false))) (sNx)))))
  (sSeq (sSet 3 (eLcV (iR1 (aCons (eV 1) (aNil))) [7] (gN 7) cYes (eB bLen (aCons (eLcV (iSq (eV 0)) [9] (gN 9) (cV (eOp wEqu (eOp wIx (eV 9) (eC (.int 3))) (eV 7))) (eV 9)) (aNil)))))
  (sRt (eOp wLt (eOp wSub (eB bMax (aCons (eV 3) (aNil))) (eB bMin (aCons (eV 3) (aNil)))) (eC (.int 2))))))
noncomputable def f__law_rests_2_S : { f : FW // f = f__law_rests_2_B } := Classical.choice ⟨⟨_, rfl⟩⟩
noncomputable def f__law_rests_2 : FW := f__law_rests_2_S.1
theorem f__law_rests_2_eq : f__law_rests_2 = f__law_rests_2_B := f__law_rests_2_S.2
def f_law_16_B : FW := fDef 1 9 (sSeq (sSet 1 (eOp wAdd (eC (.int 1)) (eOp wMod (eB bInt (aCons (eCall f__law_cell (aCons (eV 0) (aCons (eC (.int 0)) (aNil)))) (aNil))) (eC (.int 20)))))
  (sSeq (sSet 2 (eCall f__law_table (aCons (eV 0) (aCons (eV 1) (aNil)))))
  (sSeq (sFor (iR1 (aCons (eC (.int 450)) (aNil))) (gN 3) (sSeq (sSet 4 (eCall f_plan (aCons (eCall f__law_pieces_4 (aCons (eV 2) (aNil))) (aCons (eV 1) (aNil)))))
  (sSeq (sIf (cV (eOp wEqu (eB bLen (aCons (eV 4) (aNil))) (eC (.int 0)))) (sRt (eCall f__law_rests_2 (aCons (eV 2) (aCons (eV 1) (aNil))))) (sNx))
  (sSeq (sSet 5 (eLcV (iSq (eV 2)) [8] (gN 8) cYes (eSl (eV 8) foN (foS (eC (.int 4))))))
  (sFor (iSq (eV 4)) (gT 2 (gsCons (gN 6) (gsCons (gN 7) (gsNil)))) (sIf (cOr (cNot (cV (eCall f__law_named (aCons (eV 5) (aCons (eV 6) (aCons (eV 7) (aNil))))))) (cNot (cV (eCall f__law_carried (aCons (eV 2) (aCons (eV 6) (aCons (eV 7) (aNil)))))))) (sRt (eC (.bl false))) (sNx)))))))
  (sRt (eC (.bl false))))))
noncomputable def f_law_16_S : { f : FW // f = f_law_16_B } := Classical.choice ⟨⟨_, rfl⟩⟩
noncomputable def f_law_16 : FW := f_law_16_S.1
theorem f_law_16_eq : f_law_16 = f_law_16_B := f_law_16_S.2
end Q
namespace K50
open PySem PySem.Spec PyProof.Rows L2 Evl Q
section
variable {P : Program} {w : World} {K : Frag} {mg : Str → Option Value} {base : Heap}
theorem sc_is_key : FnScope ["value", "character"] ["value"] (defScope s_is_key) := ⟨rfl, rfl, rfl, by decide +kernel, rfl, by decide +kernel, by decide +kernel⟩
theorem ok_is_key {f : Addr} {fd : FuncData} (F : FnM K "is_key" "is_key" s_is_key f fd) (z_len : mg "len" = none) (c_MOST_KEY : ∃ t, mg "MOST_KEY" = some (.int 8 t)) (z_isinstance : mg "isinstance" = none) (z_str : mg "str" = none) :
    FnOk P w K mg base (L2N.CX P w) 1 f fd ["value"] (spF K f_is_key) := by
  rw [f_is_key_eq]
  exact fn_w F sc_is_key (by decide) fun cdv A outer s H E hr tk po pa => (qss_cons (qs_if (QW.qt (qw_or (qt_not (qt_val (qe_isi .str (by rfl) z_isinstance (by rfl) z_str (by decide +kernel) (qv 0)))) (qw_or1 (qt_not (qt_chain opU_le opU_le qe_int (qe_b cb_len (by rfl) z_len (by decide +kernel) (qa_cons (qv 0) qa_nil)) (qe_gint (by rfl) c_MOST_KEY)))))) (qss_one (qs_ret qe_bl)) qss_nil)
      (qss_cons (qs_for po (by rfl) (qi_seq (qv 0)) (qg_name (i := 1) sc_is_key.nd rfl (Or.inl rfl)) (qss_one (qs_if (qt_not (qt_chain opU_le opU_le qe_str (qv 1) qe_str)) (qss_one (qs_ret qe_bl)) qss_nil)))
      (qss_one (qs_ret qe_bl))))
theorem sc_below : FnScope ["one", "other"] ["one", "other"] (defScope s_below) := ⟨rfl, rfl, rfl, by decide +kernel, rfl, by decide +kernel, by decide +kernel⟩
theorem ok_below {f : Addr} {fd : FuncData} (F : FnM K "below" "below" s_below f fd)  :
    FnOk P w K mg base (L2N.CX P w) 1 f fd ["one", "other"] (spF K f_below) := by
  rw [f_below_eq]
  exact fn_w F sc_below (by decide) fun cdv A outer s H E hr tk po pa => (qss_cons (qs_if (qt_cmp opU_is (qv 0) qe_non (nomark _)) (qss_one (qs_ret qe_bl)) qss_nil)
      (qss_one (qs_ret (qe_or (qe_cmp opU_is (qv 1) qe_non (nomark _)) (qe_one (qe_cmp opU_lt (qv 0) (qv 1) (nomark _)))))))
theorem sc_is_whole : FnScope ["piece", "low", "high", "report"] ["piece"] (defScope s_is_whole) := ⟨rfl, rfl, rfl, by decide +kernel, rfl, by decide +kernel, by decide +kernel⟩
theorem ok_is_whole {f : Addr} {fd : FuncData} (F : FnM K "is_whole" "is_whole" s_is_whole f fd)  :
    FnOk P w K mg base (L2N.CX P w) 1 f fd ["piece"] (spF K f_is_whole) := by
  rw [f_is_whole_eq]
  exact fn_w F sc_is_whole (by decide) fun cdv A outer s H E hr tk po pa => (qss_cons (qs_asg (qv 0) (qg_tup (by rfl) (qgs_cons (qg_name (i := 1) sc_is_whole.nd rfl (Or.inl rfl)) (qgs_cons (qg_name (i := 2) sc_is_whole.nd rfl (Or.inl rfl)) (qgs_cons (qg_name (i := 3) sc_is_whole.nd rfl (Or.inl rfl)) qgs_nil)))))
      (qss_one (qs_ret (qe_and (qe_cmp (opU_equ hr.units) (qv 1) (qe_ix hr.units (qv 3) qe_int (fun _ _ => rfl)) (nomark _)) (qe_one (qe_cmp (opU_equ hr.units) (qv 2) (qe_ix hr.units (qv 3) qe_int (fun _ _ => rfl)) (nomark _)))))))
theorem sc__is_large : FnScope ["report", "low", "high", "_", "size", "middle"] ["report"] (defScope s__is_large) := ⟨rfl, rfl, rfl, by decide +kernel, rfl, by decide +kernel, by decide +kernel⟩
theorem ok__is_large {f : Addr} {fd : FuncData} (F : FnM K "_is_large" "_is_large" s__is_large f fd) (D_below : DefQ P w K mg base 1 "below" ["one", "other"] f_below) (D_is_key : DefQ P w K mg base 1 "is_key" ["value"] f_is_key) (c_MOST_ITEMS : ∃ t, mg "MOST_ITEMS" = some (.int 8 t)) :
    FnOk P w K mg base (L2N.CX P w) 2 f fd ["report"] (spF K f__is_large) := by
  rw [f__is_large_eq]
  exact fn_w F sc__is_large (by decide) fun cdv A outer s H E hr tk po pa => (qss_cons (qs_asg (qv 0) (qg_tup (by rfl) (qgs_cons (qg_name (i := 1) sc__is_large.nd rfl (Or.inl rfl)) (qgs_cons (qg_name (i := 2) sc__is_large.nd rfl (Or.inl rfl)) (qgs_cons (qg_name (i := 3) sc__is_large.nd rfl (Or.inl rfl)) (qgs_cons (qg_name (i := 3) sc__is_large.nd rfl (Or.inl rfl)) (qgs_cons (qg_name (i := 4) sc__is_large.nd rfl (Or.inl rfl)) (qgs_cons (qg_name (i := 5) sc__is_large.nd rfl (Or.inl rfl)) qgs_nil))))))))
      (qss_one (qs_ret (qe_and (qe_cmp opU_gt (qv 4) (qe_gint (by rfl) c_MOST_ITEMS) (nomark _)) (qe_and (qe_call tk.px D_is_key (hr.mono (by decide)) (by rfl) (qa_cons (qv 5) qa_nil)) (qe_and (qe_cmp opU_lt (qv 1) (qv 5) (nomark _)) (qe_one (qe_call tk.px D_below (hr.mono (by decide)) (by rfl) (qa_cons (qv 5) (qa_cons (qv 2) qa_nil))))))))))
theorem sc__split : FnScope ["report", "low", "high", "epoch", "server", "_", "middle"] ["report"] (defScope s__split) := ⟨rfl, rfl, rfl, by decide +kernel, rfl, by decide +kernel, by decide +kernel⟩
theorem ok__split {f : Addr} {fd : FuncData} (F : FnM K "_split" "_split" s__split f fd)  :
    FnOk P w K mg base (L2N.CX P w) 1 f fd ["report"] (spF K f__split) := by
  rw [f__split_eq]
  exact fn_w F sc__split (by decide) fun cdv A outer s H E hr tk po pa => (qss_cons (qs_asg (qv 0) (qg_tup (by rfl) (qgs_cons (qg_name (i := 1) sc__split.nd rfl (Or.inl rfl)) (qgs_cons (qg_name (i := 2) sc__split.nd rfl (Or.inl rfl)) (qgs_cons (qg_name (i := 3) sc__split.nd rfl (Or.inl rfl)) (qgs_cons (qg_name (i := 4) sc__split.nd rfl (Or.inl rfl)) (qgs_cons (qg_name (i := 5) sc__split.nd rfl (Or.inl rfl)) (qgs_cons (qg_name (i := 6) sc__split.nd rfl (Or.inl rfl)) qgs_nil))))))))
      (qss_one (qs_ret (qe_tup (qa_cons (qv 4) (qa_cons (qe_tup (qa_cons qe_str (qa_cons (qv 1) (qa_cons (qv 2) (qa_cons (qv 3) (qa_cons (qv 6) qa_nil)))))) qa_nil))))))
theorem sc__belong_together : FnScope ["one", "other"] ["one", "other"] (defScope s__belong_together) := ⟨rfl, rfl, rfl, by decide +kernel, rfl, by decide +kernel, by decide +kernel⟩
theorem ok__belong_together {f : Addr} {fd : FuncData} (F : FnM K "_belong_together" "_belong_together" s__belong_together f fd) (c_FEW_ITEMS : ∃ t, mg "FEW_ITEMS" = some (.int 4 t)) :
    FnOk P w K mg base (L2N.CX P w) 1 f fd ["one", "other"] (spF K f__belong_together) := by
  rw [f__belong_together_eq]
  exact fn_w F sc__belong_together (by decide) fun cdv A outer s H E hr tk po pa => (qss_one (qs_ret (qe_and (qe_cmp (opU_equ hr.units) (qe_ix hr.units (qv 0) qe_int (fun _ _ => rfl)) (qe_ix hr.units (qv 1) qe_int (fun _ _ => rfl)) (nomark _)) (qe_and (qe_cmp (opU_equ hr.units) (qe_ix hr.units (qv 0) qe_int (fun _ _ => rfl)) (qe_ix hr.units (qv 1) qe_int (fun _ _ => rfl)) (nomark _)) (qe_one (qe_cmp opU_le (qe_op opU_add (qe_ix hr.units (qv 0) qe_int (fun _ _ => rfl)) (qe_ix hr.units (qv 1) qe_int (fun _ _ => rfl))) (qe_gint (by rfl) c_FEW_ITEMS) (nomark _)))))))
theorem sc__join : FnScope ["one", "other", "low", "middle", "epoch", "server", "_"] ["one", "other"] (defScope s__join) := ⟨rfl, rfl, rfl, by decide +kernel, rfl, by decide +kernel, by decide +kernel⟩
theorem ok__join {f : Addr} {fd : FuncData} (F : FnM K "_join" "_join" s__join f fd)  :
    FnOk P w K mg base (L2N.CX P w) 1 f fd ["one", "other"] (spF K f__join) := by
  rw [f__join_eq]
  exact fn_w F sc__join (by decide) fun cdv A outer s H E hr tk po pa => (qss_cons (qs_asg (qv 0) (qg_tup (by rfl) (qgs_cons (qg_name (i := 2) sc__join.nd rfl (Or.inl rfl)) (qgs_cons (qg_name (i := 3) sc__join.nd rfl (Or.inl rfl)) (qgs_cons (qg_name (i := 4) sc__join.nd rfl (Or.inl rfl)) (qgs_cons (qg_name (i := 5) sc__join.nd rfl (Or.inl rfl)) (qgs_cons (qg_name (i := 6) sc__join.nd rfl (Or.inl rfl)) (qgs_cons (qg_name (i := 6) sc__join.nd rfl (Or.inl rfl)) qgs_nil))))))))
      (qss_one (qs_ret (qe_tup (qa_cons (qv 5) (qa_cons (qe_tup (qa_cons qe_str (qa_cons (qv 2) (qa_cons (qv 3) (qa_cons (qv 4) (qa_cons (qe_ix hr.units (qv 1) qe_int (fun _ _ => rfl)) (qa_cons (qe_ix hr.units (qv 1) qe_int (fun _ _ => rfl)) qa_nil))))))) qa_nil))))))
theorem sc__join_neighbours : FnScope ["reports", "joins", "rest", "at"] ["reports"] (defScope s__join_neighbours) := ⟨rfl, rfl, rfl, by decide +kernel, rfl, by decide +kernel, by decide +kernel⟩
theorem ok__join_neighbours {f : Addr} {fd : FuncData} (F : FnM K "_join_neighbours" "_join_neighbours" s__join_neighbours f fd) (z_len : mg "len" = none) (D__belong_together : DefQ P w K mg base 1 "_belong_together" ["one", "other"] f__belong_together) (D__join : DefQ P w K mg base 1 "_join" ["one", "other"] f__join) :
    FnOk P w K mg base (L2N.CX P w) 2 f fd ["reports"] (spF K f__join_neighbours) := by
  rw [f__join_neighbours_eq]
  exact fn_w F sc__join_neighbours (by decide) fun cdv A outer s H E hr tk po pa => (qss_cons (qs_set (i := 1) sc__join_neighbours.nd rfl (Or.inl rfl) (qe_lR qa_nil))
      (qss_cons (qs_set (i := 2) sc__join_neighbours.nd rfl (Or.inl rfl) (qe_lR qa_nil))
      (qss_cons (qs_set (i := 3) sc__join_neighbours.nd rfl (Or.inl rfl) qe_int)
      (qss_cons (qs_while po (qt_cmp opU_lt (qv 3) (qe_b cb_len (by rfl) z_len (by decide +kernel) (qa_cons (qv 0) qa_nil)) (nomark _)) (qss_one (qs_if (QW.qt (qw_and (qt_cmp opU_lt (qe_op opU_add (qv 3) qe_int) (qe_b cb_len (by rfl) z_len (by decide +kernel) (qa_cons (qv 0) qa_nil)) (nomark _)) (qw_and1 (qt_val (qe_call tk.px D__belong_together (hr.mono (by decide)) (by rfl) (qa_cons (qe_ix hr.units (qv 0) (qv 3) (fun _ _ => rfl)) (qa_cons (qe_ix hr.units (qv 0) (qe_op opU_add (qv 3) qe_int) (fun _ _ => rfl)) qa_nil))))))) (qss_cons (qs_expr (qe_bm tym_l PySem.F.plainAttrs_list PySem.F.slot_list_append PySem.F.type_list_append mU_app (qv 1) (qa_cons (qe_call tk.px D__join (hr.mono (by decide)) (by rfl) (qa_cons (qe_ix hr.units (qv 0) (qv 3) (fun _ _ => rfl)) (qa_cons (qe_ix hr.units (qv 0) (qe_op opU_add (qv 3) qe_int) (fun _ _ => rfl)) qa_nil))) qa_nil)))
      (qss_one (qs_set (i := 3) sc__join_neighbours.nd rfl (Or.inl rfl) (qe_op opU_add (qv 3) qe_int)))) (qss_cons (qs_expr (qe_bm tym_l PySem.F.plainAttrs_list PySem.F.slot_list_append PySem.F.type_list_append mU_app (qv 2) (qa_cons (qe_ix hr.units (qv 0) (qv 3) (fun _ _ => rfl)) qa_nil)))
      (qss_one (qs_set (i := 3) sc__join_neighbours.nd rfl (Or.inl rfl) (qe_op opU_add (qv 3) qe_int)))))))
      (qss_one (qs_ret (qe_tup (qa_cons (qv 1) (qa_cons (qv 2) qa_nil)))))))))
theorem sc__load : FnScope ["reports", "server", "report"] ["reports", "server"] (defScope s__load) := ⟨rfl, rfl, rfl, by decide +kernel, rfl, by decide +kernel, by decide +kernel⟩
theorem ok__load {f : Addr} {fd : FuncData} (F : FnM K "_load" "_load" s__load f fd) (z_len : mg "len" = none) :
    FnOk P w K mg base (L2N.CX P w) 1 f fd ["reports", "server"] (spF K f__load) := by
  rw [f__load_eq]
  exact fn_w F sc__load (by decide) fun cdv A outer s H E hr tk po pa => (qss_one (qs_ret (qe_b cb_len (by rfl) z_len (by decide +kernel) (qa_cons (qe_lcV (own := [("report", 2)]) (by rfl) sc__load.nd (qi_seq (qv 0)) (blkOk_by (own := [("report", 2)]) (N := ["reports", "server", "report"]) (sc := defScope s__load) (by decide +kernel)) (fun _ _ _ _ _ => qgv_name (i := 2) sc__load.nd rfl (Or.inl rfl)) (fun _ _ _ _ _ => qts_one (qt_cmp (opU_equ hr.units) (qe_ix hr.units (qv 2) qe_int (fun _ _ => rfl)) (qv 1) (nomark _))) (fun _ _ _ _ _ => (qv 2))) qa_nil))))
theorem sc__even_out : FnScope ["reports", "rest", "count", "loads", "busiest", "target", "low", "high", "epoch", "server", "_"] ["reports", "rest", "count"] (defScope s__even_out) := ⟨rfl, rfl, rfl, by decide +kernel, rfl, by decide +kernel, by decide +kernel⟩
theorem ok__even_out {f : Addr} {fd : FuncData} (F : FnM K "_even_out" "_even_out" s__even_out f fd) (z_range : mg "range" = none) (D__load : DefQ P w K mg base 1 "_load" ["reports", "server"] f__load) (z_max : mg "max" = none) (z_min : mg "min" = none) :
    FnOk P w K mg base (L2N.CX P w) 2 f fd ["reports", "rest", "count"] (spF K f__even_out) := by
  rw [f__even_out_eq]
  exact fn_w F sc__even_out (by decide) fun cdv A outer s H E hr tk po pa => (qss_cons (qs_setLcV (i := 3) (own := [("server", 9)]) (by rfl) sc__even_out.nd rfl rfl (L2.sw_true rfl rfl rfl (by decide +kernel)) (qi_range1 (by rfl) z_range (qa_cons (qv 2) qa_nil)) (blkOk_by (own := [("server", 9)]) (N := ["reports", "rest", "count", "loads", "busiest", "target", "low", "high", "epoch", "server", "_"]) (sc := defScope s__even_out) (by decide +kernel)) (fun _ _ _ _ _ => qgv_name (i := 9) sc__even_out.nd rfl (Or.inl rfl)) (fun _ _ _ _ _ => qts_nil) (fun _ _ _ _ _ => (qe_call px_no D__load (hr.mono (by decide)) (by rfl) (qa_cons (qv 0) (qa_cons (qv 9) qa_nil)))))
      (qss_cons (qs_set (i := 4) sc__even_out.nd rfl (Or.inl rfl) (qe_bm tym_l PySem.F.plainAttrs_list PySem.F.slot_list_index PySem.F.type_list_index mU_idx (qv 3) (qa_cons (qe_b (cb_max rfl) (by rfl) z_max (by decide +kernel) (qa_cons (qv 3) qa_nil)) qa_nil)))
      (qss_cons (qs_set (i := 5) sc__even_out.nd rfl (Or.inl rfl) (qe_bm tym_l PySem.F.plainAttrs_list PySem.F.slot_list_index PySem.F.type_list_index mU_idx (qv 3) (qa_cons (qe_b (cb_min rfl) (by rfl) z_min (by decide +kernel) (qa_cons (qv 3) qa_nil)) qa_nil)))
      (qss_cons (qs_if (qt_cmp opU_lt (qe_op opU_sub (qe_ix hr.units (qv 3) (qv 4) (fun _ _ => rfl)) (qe_ix hr.units (qv 3) (qv 5) (fun _ _ => rfl))) qe_int (nomark _)) (qss_one (qs_ret (qe_lV qa_nil))) qss_nil)
      (qss_cons (qs_for po (by rfl) (qi_seq (qv 1)) (qg_tup (by rfl) (qgs_cons (qg_name (i := 6) sc__even_out.nd rfl (Or.inl rfl)) (qgs_cons (qg_name (i := 7) sc__even_out.nd rfl (Or.inl rfl)) (qgs_cons (qg_name (i := 8) sc__even_out.nd rfl (Or.inl rfl)) (qgs_cons (qg_name (i := 9) sc__even_out.nd rfl (Or.inl rfl)) (qgs_cons (qg_name (i := 10) sc__even_out.nd rfl (Or.inl rfl)) (qgs_cons (qg_name (i := 10) sc__even_out.nd rfl (Or.inl rfl)) qgs_nil))))))) (qss_one (qs_if (qt_cmp (opU_equ hr.units) (qv 9) (qv 4) (nomark _)) (qss_one (qs_ret (qe_lV (qa_cons (qe_tup (qa_cons (qv 9) (qa_cons (qe_tup (qa_cons qe_str (qa_cons (qv 6) (qa_cons (qv 7) (qa_cons (qv 8) (qa_cons (qv 5) qa_nil)))))) qa_nil))) qa_nil)))) qss_nil)))
      (qss_one (qs_ret (qe_lV qa_nil))))))))
theorem sc_plan : FnScope ["pieces", "count", "reports", "splits", "joins", "rest", "piece", "report"] ["pieces", "count"] (defScope s_plan) := ⟨rfl, rfl, rfl, by decide +kernel, rfl, by decide +kernel, by decide +kernel⟩
theorem ok_plan {f : Addr} {fd : FuncData} (F : FnM K "plan" "plan" s_plan f fd) (D_is_whole : DefQ P w K mg base 1 "is_whole" ["piece"] f_is_whole) (D__is_large : DefQ P w K mg base 2 "_is_large" ["report"] f__is_large) (D__split : DefQ P w K mg base 1 "_split" ["report"] f__split) (D__join_neighbours : DefQ P w K mg base 2 "_join_neighbours" ["reports"] f__join_neighbours) (D__even_out : DefQ P w K mg base 2 "_even_out" ["reports", "rest", "count"] f__even_out) :
    FnOk P w K mg base (L2N.CX P w) 3 f fd ["pieces", "count"] (spF K f_plan) := by
  rw [f_plan_eq]
  exact fn_w F sc_plan (by decide) fun cdv A outer s H E hr tk po pa => (qss_cons (qs_setLcV (i := 2) (own := [("piece", 6)]) (by rfl) sc_plan.nd rfl rfl (L2.sw_true rfl rfl rfl (by decide +kernel)) (qi_seq (qv 0)) (blkOk_by (own := [("piece", 6)]) (N := ["pieces", "count", "reports", "splits", "joins", "rest", "piece", "report"]) (sc := defScope s_plan) (by decide +kernel)) (fun _ _ _ _ _ => qgv_name (i := 6) sc_plan.nd rfl (Or.inl rfl)) (fun _ _ _ _ _ => qts_one (qt_val (qe_call px_no D_is_whole (hr.mono (by decide)) (by rfl) (qa_cons (qv 6) qa_nil)))) (fun _ _ _ _ _ => (qe_ix hr.units (qv 6) qe_int (fun _ _ => rfl))))
      (qss_cons (qs_setLcV (i := 3) (own := [("report", 7)]) (by rfl) sc_plan.nd rfl rfl (L2.sw_true rfl rfl rfl (by decide +kernel)) (qi_seq (qv 2)) (blkOk_by (own := [("report", 7)]) (N := ["pieces", "count", "reports", "splits", "joins", "rest", "piece", "report"]) (sc := defScope s_plan) (by decide +kernel)) (fun _ _ _ _ _ => qgv_name (i := 7) sc_plan.nd rfl (Or.inl rfl)) (fun _ _ _ _ _ => qts_one (qt_val (qe_call px_no D__is_large (hr.mono (by decide)) (by rfl) (qa_cons (qv 7) qa_nil)))) (fun _ _ _ _ _ => (qe_call px_no D__split (hr.mono (by decide)) (by rfl) (qa_cons (qv 7) qa_nil))))
      (qss_cons (qs_asg (qe_call tk.px D__join_neighbours (hr.mono (by decide)) (by rfl) (qa_cons (qe_lcV (own := [("report", 7)]) (by rfl) sc_plan.nd (qi_seq (qv 2)) (blkOk_by (own := [("report", 7)]) (N := ["pieces", "count", "reports", "splits", "joins", "rest", "piece", "report"]) (sc := defScope s_plan) (by decide +kernel)) (fun _ _ _ _ _ => qgv_name (i := 7) sc_plan.nd rfl (Or.inl rfl)) (fun _ _ _ _ _ => qts_one (qt_not (qt_val (qe_call px_no D__is_large (hr.mono (by decide)) (by rfl) (qa_cons (qv 7) qa_nil))))) (fun _ _ _ _ _ => (qv 7))) qa_nil)) (qg_tup (by rfl) (qgs_cons (qg_name (i := 4) sc_plan.nd rfl (Or.inl rfl)) (qgs_cons (qg_name (i := 5) sc_plan.nd rfl (Or.inl rfl)) qgs_nil))))
      (qss_one (qs_ret (qe_op opU_add (qe_op opU_add (qv 3) (qv 4)) (qe_call tk.px D__even_out (hr.mono (by decide)) (by rfl) (qa_cons (qv 2) (qa_cons (qv 5) (qa_cons (qv 1) qa_nil))))))))))
theorem sc__law_cell : FnScope ["script", "k"] ["script", "k"] (defScope s__law_cell) := ⟨rfl, rfl, rfl, by decide +kernel, rfl, by decide +kernel, by decide +kernel⟩
theorem ok__law_cell {f : Addr} {fd : FuncData} (F : FnM K "_law_cell" "_law_cell" s__law_cell f fd) (z_len : mg "len" = none) :
    FnOk P w K mg base (L2N.CX P w) 1 f fd ["script", "k"] (spF K f__law_cell) := by
  rw [f__law_cell_eq]
  exact fn_w F sc__law_cell (by decide) fun cdv A outer s H E hr tk po pa => (qss_cons (qs_if (qt_cmp opU_lt (qv 1) (qe_b cb_len (by rfl) z_len (by decide +kernel) (qa_cons (qv 0) qa_nil)) (nomark _)) (qss_one (qs_ret (qe_ix hr.units (qv 0) (qv 1) (fun _ _ => rfl)))) qss_nil)
      (qss_one (qs_ret qe_int)))
theorem sc__law_key : FnScope ["number"] ["number"] (defScope s__law_key) := ⟨rfl, rfl, rfl, by decide +kernel, rfl, by decide +kernel, by decide +kernel⟩
theorem ok__law_key {f : Addr} {fd : FuncData} (F : FnM K "_law_key" "_law_key" s__law_key f fd)  :
    FnOk P w K mg base (L2N.CX P w) 1 f fd ["number"] (spF K f__law_key_2) := by
  rw [f__law_key_2_eq]
  exact fn_w F sc__law_key (by decide) fun cdv A outer s H E hr tk po pa => (qss_one (qs_ret (qe_op opU_add (qe_ix hr.units qe_str (qe_op opU_mod (qe_op opU_fdv (qv 0) qe_int) qe_int) (fun _ _ => rfl)) (qe_ix hr.units qe_str (qe_op opU_mod (qv 0) qe_int) (fun _ _ => rfl)))))
theorem sc__law_table : FnScope ["script", "count", "keys", "cuts", "lows", "table", "k", "high", "held", "server", "cell", "key"] ["script", "count"] (defScope s__law_table) := ⟨rfl, rfl, rfl, by decide +kernel, rfl, by decide +kernel, by decide +kernel⟩
theorem ok__law_table {f : Addr} {fd : FuncData} (F : FnM K "_law_table" "_law_table" s__law_table f fd) (z_sorted : mg "sorted" = none) (z_int : mg "int" = none) (D__law_key : DefQ P w K mg base 1 "_law_key" ["number"] f__law_key_2) (z_range : mg "range" = none) (z_len : mg "len" = none) (D__law_cell : DefQ P w K mg base 1 "_law_cell" ["script", "k"] f__law_cell) :
    FnOk P w K mg base (L2N.CX P w) 2 f fd ["script", "count"] (spF K f__law_table) := by
  rw [f__law_table_eq]
  exact fn_w F sc__law_table (by decide) fun cdv A outer s H E hr tk po pa => (qss_cons (qs_set (i := 2) sc__law_table.nd rfl (Or.inr rfl) (qe_b cb_srS (by rfl) z_sorted (by decide +kernel) (qa_cons (qe_lcV (own := [("cell", 10)]) (by rfl) sc__law_table.nd (qi_seq (qe_sl (qv 0) (qo_some qe_int) (qo_some qe_int))) (blkOk_by (own := [("cell", 10)]) (N := ["script", "count", "keys", "cuts", "lows", "table", "k", "high", "held", "server", "cell", "key"]) (sc := defScope s__law_table) (by decide +kernel)) (fun _ _ _ _ _ => qgv_name (i := 10) sc__law_table.nd rfl (Or.inl rfl)) (fun _ _ _ _ _ => qts_nil) (fun _ _ _ _ _ => (qe_call px_no D__law_key (hr.mono (by decide)) (by rfl) (qa_cons (qe_op opU_mod (qe_ty cb_int (by rfl) z_int (by decide +kernel) (qa_cons (qe_op opU_fdv (qv 10) qe_int) qa_nil)) qe_int) qa_nil)))) qa_nil)))
      (qss_cons (qs_set (i := 2) sc__law_table.nd rfl (Or.inr rfl) (qe_lcV (own := [("k", 6)]) (by rfl) sc__law_table.nd (qi_range1 (by rfl) z_range (qa_cons (qe_b cb_len (by rfl) z_len (by decide +kernel) (qa_cons (qv 2) qa_nil)) qa_nil)) (blkOk_by (own := [("k", 6)]) (N := ["script", "count", "keys", "cuts", "lows", "table", "k", "high", "held", "server", "cell", "key"]) (sc := defScope s__law_table) (by decide +kernel)) (fun _ _ _ _ _ => qgv_name (i := 6) sc__law_table.nd rfl (Or.inl rfl)) (fun _ _ _ _ _ => qts_one (QW.qt (qw_or (qt_cmp (opU_equ hr.units) (qv 6) qe_int (nomark _)) (qw_or1 (qt_cmp (opU_neq hr.units) (qe_ix hr.units (qv 2) (qv 6) (fun _ _ => rfl)) (qe_ix hr.units (qv 2) (qe_op opU_sub (qv 6) qe_int) (fun _ _ => rfl)) (nomark _)))))) (fun _ _ _ _ _ => (qe_ix hr.units (qv 2) (qv 6) (fun _ _ => rfl)))))
      (qss_cons (qs_set (i := 3) sc__law_table.nd rfl (Or.inr rfl) (qe_b cb_srS (by rfl) z_sorted (by decide +kernel) (qa_cons (qe_lcV (own := [("cell", 10)]) (by rfl) sc__law_table.nd (qi_seq (qe_sl (qv 0) (qo_some qe_int) (qo_some qe_int))) (blkOk_by (own := [("cell", 10)]) (N := ["script", "count", "keys", "cuts", "lows", "table", "k", "high", "held", "server", "cell", "key"]) (sc := defScope s__law_table) (by decide +kernel)) (fun _ _ _ _ _ => qgv_name (i := 10) sc__law_table.nd rfl (Or.inl rfl)) (fun _ _ _ _ _ => qts_nil) (fun _ _ _ _ _ => (qe_call px_no D__law_key (hr.mono (by decide)) (by rfl) (qa_cons (qe_op opU_mod (qe_ty cb_int (by rfl) z_int (by decide +kernel) (qa_cons (qe_op opU_fdv (qv 10) qe_int) qa_nil)) qe_int) qa_nil)))) qa_nil)))
      (qss_cons (qs_set (i := 3) sc__law_table.nd rfl (Or.inr rfl) (qe_lcV (own := [("k", 6)]) (by rfl) sc__law_table.nd (qi_range1 (by rfl) z_range (qa_cons (qe_b cb_len (by rfl) z_len (by decide +kernel) (qa_cons (qv 3) qa_nil)) qa_nil)) (blkOk_by (own := [("k", 6)]) (N := ["script", "count", "keys", "cuts", "lows", "table", "k", "high", "held", "server", "cell", "key"]) (sc := defScope s__law_table) (by decide +kernel)) (fun _ _ _ _ _ => qgv_name (i := 6) sc__law_table.nd rfl (Or.inl rfl)) (fun _ _ _ _ _ => qts_one (QW.qt (qw_or (qt_cmp (opU_equ hr.units) (qv 6) qe_int (nomark _)) (qw_or1 (qt_cmp (opU_neq hr.units) (qe_ix hr.units (qv 3) (qv 6) (fun _ _ => rfl)) (qe_ix hr.units (qv 3) (qe_op opU_sub (qv 6) qe_int) (fun _ _ => rfl)) (nomark _)))))) (fun _ _ _ _ _ => (qe_ix hr.units (qv 3) (qv 6) (fun _ _ => rfl)))))
      (qss_cons (qs_set (i := 4) sc__law_table.nd rfl (Or.inr rfl) (qe_op opU_add (qe_lV (qa_cons qe_str qa_nil)) (qv 3)))
      (qss_cons (qs_set (i := 5) sc__law_table.nd rfl (Or.inl rfl) (qe_lR qa_nil))
      (qss_cons (qs_for po (by rfl) (qi_range1 (by rfl) z_range (qa_cons (qe_b cb_len (by rfl) z_len (by decide +kernel) (qa_cons (qv 4) qa_nil)) qa_nil)) (qg_name (i := 6) sc__law_table.nd rfl (Or.inr rfl)) (qss_cons (qs_set (i := 7) sc__law_table.nd rfl (Or.inr rfl) qe_non)
      (qss_jn (qs_if (qt_cmp opU_lt (qe_op opU_add (qv 6) qe_int) (qe_b cb_len (by rfl) z_len (by decide +kernel) (qa_cons (qv 4) qa_nil)) (nomark _)) (qss_one (qs_set (i := 7) sc__law_table.nd rfl (Or.inr rfl) (qe_ix hr.units (qv 4) (qe_op opU_add (qv 6) qe_int) (fun _ _ => rfl)))) qss_nil)
      (qss_cons (qs_setLcV (i := 8) (own := [("key", 11)]) (by rfl) sc__law_table.nd rfl rfl (L2.sw_true rfl rfl rfl (by decide +kernel)) (qi_seq (qv 2)) (blkOk_by (own := [("key", 11)]) (N := ["script", "count", "keys", "cuts", "lows", "table", "k", "high", "held", "server", "cell", "key"]) (sc := defScope s__law_table) (by decide +kernel)) (fun _ _ _ _ _ => qgv_name (i := 11) sc__law_table.nd rfl (Or.inl rfl)) (fun _ _ _ _ _ => qts_one (QW.qt (qw_and (qt_cmp opU_le (qe_ix hr.units (qv 4) (qv 6) (fun _ _ => rfl)) (qv 11) (nomark _)) (qw_and1 (QW.qt (qw_or (qt_cmp opU_is (qv 7) qe_non (nomark _)) (qw_or1 (qt_cmp opU_lt (qv 11) (qv 7) (nomark _))))))))) (fun _ _ _ _ _ => (qv 11)))
      (qss_cons (qs_set (i := 9) sc__law_table.nd rfl (Or.inl rfl) (qe_op opU_mod (qe_ty cb_int (by rfl) z_int (by decide +kernel) (qa_cons (qe_op opU_add (qe_op opU_fdv (qe_call tk.px D__law_cell (hr.mono (by decide)) (by rfl) (qa_cons (qv 0) (qa_cons qe_int qa_nil))) (qe_op opU_add (qv 6) qe_int)) (qe_call tk.px D__law_cell (hr.mono (by decide)) (by rfl) (qa_cons (qv 0) (qa_cons (qe_op opU_add qe_int (qv 6)) qa_nil)))) qa_nil)) (qv 1)))
      (qss_one (qs_expr (qe_bm tym_l PySem.F.plainAttrs_list PySem.F.slot_list_append PySem.F.type_list_append mU_app (qv 5) (qa_cons (qe_lV (qa_cons (qe_ix hr.units (qv 4) (qv 6) (fun _ _ => rfl)) (qa_cons (qv 7) (qa_cons (qe_op opU_add qe_int (qe_op opU_mod (qv 6) qe_int)) (qa_cons (qv 9) (qa_cons (qv 8) qa_nil)))))) qa_nil)))))))))
      (qss_one (qs_ret (qv 5))))))))))
theorem sc__law_pieces : FnScope ["table", "pieces", "low", "high", "epoch", "server", "held", "middle"] ["table"] (defScope s__law_pieces) := ⟨rfl, rfl, rfl, by decide +kernel, rfl, by decide +kernel, by decide +kernel⟩
theorem ok__law_pieces {f : Addr} {fd : FuncData} (F : FnM K "_law_pieces" "_law_pieces" s__law_pieces f fd) (z_len : mg "len" = none) :
    FnOk P w K mg base (L2N.CX P w) 1 f fd ["table"] (spF K f__law_pieces_4) := by
  rw [f__law_pieces_4_eq]
  exact fn_w F sc__law_pieces (by decide) fun cdv A outer s H E hr tk po pa => (qss_cons (qs_set (i := 1) sc__law_pieces.nd rfl (Or.inl rfl) (qe_lR qa_nil))
      (qss_cons (qs_for po (by rfl) (qi_seq (qv 0)) (qg_lst (by rfl) (qgs_cons (qg_name (i := 2) sc__law_pieces.nd rfl (Or.inl rfl)) (qgs_cons (qg_name (i := 3) sc__law_pieces.nd rfl (Or.inl rfl)) (qgs_cons (qg_name (i := 4) sc__law_pieces.nd rfl (Or.inl rfl)) (qgs_cons (qg_name (i := 5) sc__law_pieces.nd rfl (Or.inl rfl)) (qgs_cons (qg_name (i := 6) sc__law_pieces.nd rfl (Or.inl rfl)) qgs_nil)))))) (qss_cons (qs_set (i := 7) sc__law_pieces.nd rfl (Or.inl rfl) qe_str)
      (qss_jn (qs_if (qt_cmp opU_ge (qe_b cb_len (by rfl) z_len (by decide +kernel) (qa_cons (qv 6) qa_nil)) qe_int (nomark _)) (qss_one (qs_set (i := 7) sc__law_pieces.nd rfl (Or.inl rfl) (qe_ix hr.units (qv 6) (qe_op opU_fdv (qe_b cb_len (by rfl) z_len (by decide +kernel) (qa_cons (qv 6) qa_nil)) qe_int) (fun _ _ => rfl)))) qss_nil)
      (qss_one (qs_expr (qe_bm tym_l PySem.F.plainAttrs_list PySem.F.slot_list_append PySem.F.type_list_append mU_app (qv 1) (qa_cons (qe_tup (qa_cons (qv 2) (qa_cons (qv 3) (qa_cons (qe_tup (qa_cons (qv 2) (qa_cons (qv 3) (qa_cons (qv 4) (qa_cons (qv 5) (qa_cons (qe_b cb_len (by rfl) z_len (by decide +kernel) (qa_cons (qv 6) qa_nil)) (qa_cons (qv 7) qa_nil))))))) qa_nil)))) qa_nil)))))))
      (qss_one (qs_ret (qv 1)))))
theorem sc__law_at : FnScope ["table", "low", "high", "epoch", "server", "k"] ["table", "low", "high", "epoch", "server"] (defScope s__law_at) := ⟨rfl, rfl, rfl, by decide +kernel, rfl, by decide +kernel, by decide +kernel⟩
theorem ok__law_at {f : Addr} {fd : FuncData} (F : FnM K "_law_at" "_law_at" s__law_at f fd) (z_range : mg "range" = none) (z_len : mg "len" = none) :
    FnOk P w K mg base (L2N.CX P w) 1 f fd ["table", "low", "high", "epoch", "server"] (spF K f__law_at) := by
  rw [f__law_at_eq]
  exact fn_w F sc__law_at (by decide) fun cdv A outer s H E hr tk po pa => (qss_cons (qs_for po (by rfl) (qi_range1 (by rfl) z_range (qa_cons (qe_b cb_len (by rfl) z_len (by decide +kernel) (qa_cons (qv 0) qa_nil)) qa_nil)) (qg_name (i := 5) sc__law_at.nd rfl (Or.inl rfl)) (qss_one (qs_if (QW.qt (qw_and (qt_cmp (opU_equ hr.units) (qe_ix hr.units (qe_ix hr.units (qv 0) (qv 5) (fun _ _ => rfl)) qe_int (fun _ _ => rfl)) (qv 1) (nomark _)) (qw_and (qt_cmp (opU_equ hr.units) (qe_ix hr.units (qe_ix hr.units (qv 0) (qv 5) (fun _ _ => rfl)) qe_int (fun _ _ => rfl)) (qv 2) (nomark _)) (qw_and (qt_cmp (opU_equ hr.units) (qe_ix hr.units (qe_ix hr.units (qv 0) (qv 5) (fun _ _ => rfl)) qe_int (fun _ _ => rfl)) (qv 3) (nomark _)) (qw_and1 (qt_cmp (opU_equ hr.units) (qe_ix hr.units (qe_ix hr.units (qv 0) (qv 5) (fun _ _ => rfl)) qe_int (fun _ _ => rfl)) (qv 4) (nomark _))))))) (qss_one (qs_ret (qv 5))) qss_nil)))
      (qss_one (qs_ret (qe_un unU_neg qe_int))))
theorem sc__law_carried : FnScope ["table", "server", "order", "kind", "first", "row", "left", "right", "second", "held", "key"] ["table", "server", "order"] (defScope s__law_carried) := ⟨rfl, rfl, rfl, by decide +kernel, rfl, by decide +kernel, by decide +kernel⟩
theorem ok__law_carried {f : Addr} {fd : FuncData} (F : FnM K "_law_carried" "_law_carried" s__law_carried f fd) (D__law_at : DefQ P w K mg base 1 "_law_at" ["table", "low", "high", "epoch", "server"] f__law_at) (z_max : mg "max" = none) :
    FnOk P w K mg base (L2N.CX P w) 2 f fd ["table", "server", "order"] (spF K f__law_carried) := by
  rw [f__law_carried_eq]
  exact fn_w F sc__law_carried (by decide) fun cdv A outer s H E hr tk po pa => (qss_cons (qs_set (i := 3) sc__law_carried.nd rfl (Or.inl rfl) (qe_ix hr.units (qv 2) qe_int (fun _ _ => rfl)))
      (qss_cons (qs_if (qt_cmp (opU_equ hr.units) (qv 3) qe_str (nomark _)) (qss_cons (qs_set (i := 4) sc__law_carried.nd rfl (Or.inl rfl) (qe_call tk.px D__law_at (hr.mono (by decide)) (by rfl) (qa_cons (qv 0) (qa_cons (qe_ix hr.units (qv 2) qe_int (fun _ _ => rfl)) (qa_cons (qe_ix hr.units (qv 2) qe_int (fun _ _ => rfl)) (qa_cons (qe_ix hr.units (qv 2) qe_int (fun _ _ => rfl)) (qa_cons (qv 1) qa_nil)))))))
      (qss_cons (qs_set (i := 8) sc__law_carried.nd rfl (Or.inl rfl) (qe_call tk.px D__law_at (hr.mono (by decide)) (by rfl) (qa_cons (qv 0) (qa_cons (qe_ix hr.units (qv 2) qe_int (fun _ _ => rfl)) (qa_cons (qe_ix hr.units (qv 2) qe_int (fun _ _ => rfl)) (qa_cons (qe_ix hr.units (qv 2) qe_int (fun _ _ => rfl)) (qa_cons (qv 1) qa_nil)))))))
      (qss_cons (qs_if (QW.qt (qw_or (qt_cmp opU_lt (qv 4) qe_int (nomark _)) (qw_or1 (qt_cmp (opU_neq hr.units) (qv 8) (qe_op opU_add (qv 4) qe_int) (nomark _))))) (qss_one (qs_ret qe_bl)) qss_nil)
      (qss_cons (qs_set (i := 9) sc__law_carried.nd rfl (Or.inl rfl) (qe_op opU_add (qe_ix hr.units (qe_ix hr.units (qv 0) (qv 4) (fun _ _ => rfl)) qe_int (fun _ _ => rfl)) (qe_ix hr.units (qe_ix hr.units (qv 0) (qv 8) (fun _ _ => rfl)) qe_int (fun _ _ => rfl))))
      (qss_cons (qs_set (i := 5) sc__law_carried.nd rfl (Or.inl rfl) (qe_lV (qa_cons (qe_ix hr.units (qv 2) qe_int (fun _ _ => rfl)) (qa_cons (qe_ix hr.units (qv 2) qe_int (fun _ _ => rfl)) (qa_cons (qe_op opU_add (qe_b (cb_max rfl) (by rfl) z_max (by decide +kernel) (qa_cons (qe_ix hr.units (qv 2) qe_int (fun _ _ => rfl)) (qa_cons (qe_ix hr.units (qv 2) qe_int (fun _ _ => rfl)) qa_nil))) qe_int) (qa_cons (qv 1) (qa_cons (qv 9) qa_nil)))))))
      (qss_cons (qs_expr (qe_bm tym_l PySem.F.plainAttrs_list PySem.F.slot_list_pop PySem.F.type_list_pop mU_pop (qv 0) (qa_cons (qv 8) qa_nil)))
      (qss_cons (qs_put (hu_of hr) (qv 0) (qv 4) (qv 5))
      (qss_one (qs_ret qe_bl))))))))) qss_nil)
      (qss_cons (qs_set (i := 4) sc__law_carried.nd rfl (Or.inl rfl) (qe_call tk.px D__law_at (hr.mono (by decide)) (by rfl) (qa_cons (qv 0) (qa_cons (qe_ix hr.units (qv 2) qe_int (fun _ _ => rfl)) (qa_cons (qe_ix hr.units (qv 2) qe_int (fun _ _ => rfl)) (qa_cons (qe_ix hr.units (qv 2) qe_int (fun _ _ => rfl)) (qa_cons (qv 1) qa_nil)))))))
      (qss_cons (qs_if (qt_cmp opU_lt (qv 4) qe_int (nomark _)) (qss_one (qs_ret qe_bl)) qss_nil)
      (qss_cons (qs_set (i := 5) sc__law_carried.nd rfl (Or.inl rfl) (qe_ix hr.units (qv 0) (qv 4) (fun _ _ => rfl)))
      (qss_cons (qs_if (qt_cmp (opU_equ hr.units) (qv 3) qe_str (nomark _)) (qss_cons (qs_put (hu_of hr) (qv 0) (qv 4) (qe_lV (qa_cons (qe_ix hr.units (qv 5) qe_int (fun _ _ => rfl)) (qa_cons (qe_ix hr.units (qv 5) qe_int (fun _ _ => rfl)) (qa_cons (qe_op opU_add (qe_ix hr.units (qv 5) qe_int (fun _ _ => rfl)) qe_int) (qa_cons (qe_ix hr.units (qv 2) qe_int (fun _ _ => rfl)) (qa_cons (qe_ix hr.units (qv 5) qe_int (fun _ _ => rfl)) qa_nil)))))))
      (qss_one (qs_ret qe_bl))) qss_nil)
      (qss_cons (qs_setLcV (i := 6) (own := [("key", 10)]) (by rfl) sc__law_carried.nd rfl rfl (L2.sw_true rfl rfl rfl (by decide +kernel)) (qi_seq (qe_ix hr.units (qv 5) qe_int (fun _ _ => rfl))) (blkOk_by (own := [("key", 10)]) (N := ["table", "server", "order", "kind", "first", "row", "left", "right", "second", "held", "key"]) (sc := defScope s__law_carried) (by decide +kernel)) (fun _ _ _ _ _ => qgv_name (i := 10) sc__law_carried.nd rfl (Or.inl rfl)) (fun _ _ _ _ _ => qts_one (qt_cmp opU_lt (qv 10) (qe_ix hr.units (qv 2) qe_int (fun _ _ => rfl)) (nomark _))) (fun _ _ _ _ _ => (qv 10)))
      (qss_cons (qs_setLcV (i := 7) (own := [("key", 10)]) (by rfl) sc__law_carried.nd rfl rfl (L2.sw_true rfl rfl rfl (by decide +kernel)) (qi_seq (qe_ix hr.units (qv 5) qe_int (fun _ _ => rfl))) (blkOk_by (own := [("key", 10)]) (N := ["table", "server", "order", "kind", "first", "row", "left", "right", "second", "held", "key"]) (sc := defScope s__law_carried) (by decide +kernel)) (fun _ _ _ _ _ => qgv_name (i := 10) sc__law_carried.nd rfl (Or.inl rfl)) (fun _ _ _ _ _ => qts_one (qt_cmp opU_ge (qv 10) (qe_ix hr.units (qv 2) qe_int (fun _ _ => rfl)) (nomark _))) (fun _ _ _ _ _ => (qv 10)))
      (qss_cons (qs_put (hu_of hr) (qv 0) (qv 4) (qe_lV (qa_cons (qe_ix hr.units (qv 5) qe_int (fun _ _ => rfl)) (qa_cons (qe_ix hr.units (qv 2) qe_int (fun _ _ => rfl)) (qa_cons (qe_op opU_add (qe_ix hr.units (qv 5) qe_int (fun _ _ => rfl)) qe_int) (qa_cons (qv 1) (qa_cons (qv 6) qa_nil)))))))
      (qss_cons (qs_expr (qe_bm tym_l PySem.F.plainAttrs_list PySem.F.slot_list_insert PySem.F.type_list_insert mU_ins (qv 0) (qa_cons (qe_op opU_add (qv 4) qe_int) (qa_cons (qe_lV (qa_cons (qe_ix hr.units (qv 2) qe_int (fun _ _ => rfl)) (qa_cons (qe_ix hr.units (qv 5) qe_int (fun _ _ => rfl)) (qa_cons (qe_op opU_add (qe_ix hr.units (qv 5) qe_int (fun _ _ => rfl)) qe_int) (qa_cons (qv 1) (qa_cons (qv 7) qa_nil)))))) qa_nil))))
      (qss_one (qs_ret qe_bl))))))))))))
theorem sc__law_named : FnScope ["names", "server", "order"] ["names", "server", "order"] (defScope s__law_named) := ⟨rfl, rfl, rfl, by decide +kernel, rfl, by decide +kernel, by decide +kernel⟩
theorem ok__law_named {f : Addr} {fd : FuncData} (F : FnM K "_law_named" "_law_named" s__law_named f fd)  :
    FnOk P w K mg base (L2N.CX P w) 1 f fd ["names", "server", "order"] (spF K f__law_named) := by
  rw [f__law_named_eq]
  exact fn_w F sc__law_named (by decide) fun cdv A outer s H E hr tk po pa => (qss_cons (qs_if (qt_cmp (opU_equ hr.units) (qe_ix hr.units (qv 2) qe_int (fun _ _ => rfl)) qe_str (nomark _)) (qss_one (qs_ret (qe_and (qe_cmp (opU_in hr.units) (qe_lV (qa_cons (qe_ix hr.units (qv 2) qe_int (fun _ _ => rfl)) (qa_cons (qe_ix hr.units (qv 2) qe_int (fun _ _ => rfl)) (qa_cons (qe_ix hr.units (qv 2) qe_int (fun _ _ => rfl)) (qa_cons (qv 1) qa_nil))))) (qv 0) (by rfl)) (qe_one (qe_cmp (opU_in hr.units) (qe_lV (qa_cons (qe_ix hr.units (qv 2) qe_int (fun _ _ => rfl)) (qa_cons (qe_ix hr.units (qv 2) qe_int (fun _ _ => rfl)) (qa_cons (qe_ix hr.units (qv 2) qe_int (fun _ _ => rfl)) (qa_cons (qv 1) qa_nil))))) (qv 0) (by rfl)))))) qss_nil)
      (qss_one (qs_ret (qe_cmp (opU_in hr.units) (qe_lV (qa_cons (qe_ix hr.units (qv 2) qe_int (fun _ _ => rfl)) (qa_cons (qe_ix hr.units (qv 2) qe_int (fun _ _ => rfl)) (qa_cons (qe_ix hr.units (qv 2) qe_int (fun _ _ => rfl)) (qa_cons (qv 1) qa_nil))))) (qv 0) (by rfl)))))
theorem sc__law_rests : FnScope ["table", "count", "k", "loads", "low", "high", "epoch", "server", "held", "row"] ["table", "count"] (defScope s__law_rests) := ⟨rfl, rfl, rfl, by decide +kernel, rfl, by decide +kernel, by decide +kernel⟩
theorem ok__law_rests {f : Addr} {fd : FuncData} (F : FnM K "_law_rests" "_law_rests" s__law_rests f fd) (z_range : mg "range" = none) (z_len : mg "len" = none) (z_max : mg "max" = none) (z_min : mg "min" = none) :
    FnOk P w K mg base (L2N.CX P w) 1 f fd ["table", "count"] (spF K f__law_rests_2) := by
  rw [f__law_rests_2_eq]
  exact fn_w F sc__law_rests (by decide) fun cdv A outer s H E hr tk po pa => (qss_cons (qs_for po (by rfl) (qi_range1 (by rfl) z_range (qa_cons (qe_b cb_len (by rfl) z_len (by decide +kernel) (qa_cons (qv 0) qa_nil)) qa_nil)) (qg_name (i := 2) sc__law_rests.nd rfl (Or.inl rfl)) (qss_cons (qs_asg (qe_ix hr.units (qv 0) (qv 2) (fun _ _ => rfl)) (qg_lst (by rfl) (qgs_cons (qg_name (i := 4) sc__law_rests.nd rfl (Or.inl rfl)) (qgs_cons (qg_name (i := 5) sc__law_rests.nd rfl (Or.inl rfl)) (qgs_cons (qg_name (i := 6) sc__law_rests.nd rfl (Or.inl rfl)) (qgs_cons (qg_name (i := 7) sc__law_rests.nd rfl (Or.inl rfl)) (qgs_cons (qg_name (i := 8) sc__law_rests.nd rfl (Or.inl rfl)) qgs_nil)))))))
      (qss_cons (qs_if (qt_cmp opU_gt (qe_b cb_len (by rfl) z_len (by decide +kernel) (qa_cons (qv 8) qa_nil)) qe_int (nomark _)) (qss_one (qs_ret qe_bl)) qss_nil)
      (qss_one (qs_if (QW.qt (qw_and (qt_cmp opU_lt (qe_op opU_add (qv 2) qe_int) (qe_b cb_len (by rfl) z_len (by decide +kernel) (qa_cons (qv 0) qa_nil)) (nomark _)) (qw_and (qt_cmp (opU_equ hr.units) (qe_ix hr.units (qe_ix hr.units (qv 0) (qe_op opU_add (qv 2) qe_int) (fun _ _ => rfl)) qe_int (fun _ _ => rfl)) (qv 7) (nomark _)) (qw_and1 (qt_cmp opU_le (qe_op opU_add (qe_b cb_len (by rfl) z_len (by decide +kernel) (qa_cons (qv 8) qa_nil)) (qe_b cb_len (by rfl) z_len (by decide +kernel) (qa_cons (qe_ix hr.units (qe_ix hr.units (qv 0) (qe_op opU_add (qv 2) qe_int) (fun _ _ => rfl)) qe_int (fun _ _ => rfl)) qa_nil))) qe_int (nomark _)))))) (qss_one (qs_ret qe_bl)) qss_nil)))))
      (qss_cons (qs_setLcV (i := 3) (own := [("server", 7)]) (by rfl) sc__law_rests.nd rfl rfl (L2.sw_true rfl rfl rfl (by decide +kernel)) (qi_range1 (by rfl) z_range (qa_cons (qv 1) qa_nil)) (blkOk_by (own := [("server", 7)]) (N := ["table", "count", "k", "loads", "low", "high", "epoch", "server", "held", "row"]) (sc := defScope s__law_rests) (by decide +kernel)) (fun _ _ _ _ _ => qgv_name (i := 7) sc__law_rests.nd rfl (Or.inr rfl)) (fun _ _ _ _ _ => qts_nil) (fun _ _ _ _ _ => (qe_b cb_len (by rfl) z_len (by decide +kernel) (qa_cons (qe_lcV (own := [("row", 9)]) (by rfl) sc__law_rests.nd (qi_seq (qv 0)) (blkOk_by (own := [("row", 9)]) (by kernel_rfl)) (fun _ _ _ _ _ => qgv_name (i := 9) sc__law_rests.nd rfl (Or.inl rfl)) (fun _ _ _ _ _ => qts_one (qt_cmp (opU_equ hr.units) (qe_ix hr.units (qv 9) qe_int (fun _ _ => rfl)) (qv 7) (nomark _))) (fun _ _ _ _ _ => (qv 9))) qa_nil))))
      (qss_one (qs_ret (qe_cmp opU_lt (qe_op opU_sub (qe_b (cb_max rfl) (by rfl) z_max (by decide +kernel) (qa_cons (qv 3) qa_nil)) (qe_b (cb_min rfl) (by rfl) z_min (by decide +kernel) (qa_cons (qv 3) qa_nil))) qe_int (nomark _))))))
theorem sc_law : FnScope ["script", "count", "table", "turn", "orders", "names", "server", "order", "row"] ["script"] (defScope s_law) := ⟨rfl, rfl, rfl, by decide +kernel, rfl, by decide +kernel, by decide +kernel⟩
theorem ok_law {f : Addr} {fd : FuncData} (F : FnM K "law" "law" s_law f fd) (z_int : mg "int" = none) (D__law_cell : DefQ P w K mg base 1 "_law_cell" ["script", "k"] f__law_cell) (D__law_table : DefQ P w K mg base 2 "_law_table" ["script", "count"] f__law_table) (z_range : mg "range" = none) (D__law_pieces : DefQ P w K mg base 1 "_law_pieces" ["table"] f__law_pieces_4) (D_plan : DefQ P w K mg base 3 "plan" ["pieces", "count"] f_plan) (z_len : mg "len" = none) (D__law_rests : DefQ P w K mg base 1 "_law_rests" ["table", "count"] f__law_rests_2) (D__law_carried : DefQ P w K mg base 2 "_law_carried" ["table", "server", "order"] f__law_carried) (D__law_named : DefQ P w K mg base 1 "_law_named" ["names", "server", "order"] f__law_named) :
    FnOk P w K mg base CX0 4 f fd ["script"] (spL K f_law_16) := by
  rw [f_law_16_eq]
  exact fn_l F sc_law (by decide) fun cdv A outer s H E hr tk po pa => (qss_cons (qs_set (i := 1) sc_law.nd rfl (Or.inl rfl) (qe_op opU_add qe_int (qe_op opU_mod (qe_ty cb_int (by rfl) z_int (by decide +kernel) (qa_cons (qe_call tk.px D__law_cell (hr.mono (by decide)) (by rfl) (qa_cons (qv 0) (qa_cons qe_int qa_nil))) qa_nil)) qe_int)))
      (qss_cons (qs_set (i := 2) sc_law.nd rfl (Or.inl rfl) (qe_call tk.px D__law_table (hr.mono (by decide)) (by rfl) (qa_cons (qv 0) (qa_cons (qv 1) qa_nil))))
      (qss_cons (qs_for po (by rfl) (qi_range1 (by rfl) z_range (qa_cons qe_int qa_nil)) (qg_name (i := 3) sc_law.nd rfl (Or.inl rfl)) (qss_cons (qs_set (i := 4) sc_law.nd rfl (Or.inl rfl) (qe_call tk.px D_plan (hr.mono (by decide)) (by rfl) (qa_cons (qe_call tk.px D__law_pieces (hr.mono (by decide)) (by rfl) (qa_cons (qv 2) qa_nil)) (qa_cons (qv 1) qa_nil))))
      (qss_cons (qs_if (qt_cmp (opU_equ hr.units) (qe_b cb_len (by rfl) z_len (by decide +kernel) (qa_cons (qv 4) qa_nil)) qe_int (nomark _)) (qss_one (qs_ret (qe_call tk.px D__law_rests (hr.mono (by decide)) (by rfl) (qa_cons (qv 2) (qa_cons (qv 1) qa_nil))))) qss_nil)
      (qss_cons (qs_setLcV (i := 5) (own := [("row", 8)]) (by rfl) sc_law.nd rfl rfl (L2.sw_true rfl rfl rfl (by decide +kernel)) (qi_seq (qv 2)) (blkOk_by (own := [("row", 8)]) (N := ["script", "count", "table", "turn", "orders", "names", "server", "order", "row"]) (sc := defScope s_law) (by decide +kernel)) (fun _ _ _ _ _ => qgv_name (i := 8) sc_law.nd rfl (Or.inl rfl)) (fun _ _ _ _ _ => qts_nil) (fun _ _ _ _ _ => (qe_sl (qv 8) qo_none (qo_some qe_int))))
      (qss_one (qs_for po (by rfl) (qi_seq (qv 4)) (qg_tup (by rfl) (qgs_cons (qg_name (i := 6) sc_law.nd rfl (Or.inl rfl)) (qgs_cons (qg_name (i := 7) sc_law.nd rfl (Or.inl rfl)) qgs_nil))) (qss_one (qs_if (QW.qt (qw_or (qt_not (qt_val (qe_call tk.px D__law_named (hr.mono (by decide)) (by rfl) (qa_cons (qv 5) (qa_cons (qv 6) (qa_cons (qv 7) qa_nil)))))) (qw_or1 (qt_not (qt_val (qe_call tk.px D__law_carried (hr.mono (by decide)) (by rfl) (qa_cons (qv 2) (qa_cons (qv 6) (qa_cons (qv 7) qa_nil))))))))) (qss_one (qs_ret qe_bl)) qss_nil))))))))
      (qss_one (qs_ret qe_bl)))))
end
end K50
namespace Q
open PySem L2
local macro_rules | `(tactic| walk_at "mu") => `(tactic| (repeat (first | exact mset_same | assumption | (rw [mset_ne]; rotate_left; (first | assumption | exact Ne.symm (by assumption))))))
local macro_rules | `(tactic| walk_at "lk") => `(tactic| (repeat (first | exact lk_hit | exact lk_nil | refine lk_skip (by decide +kernel) ?_)))
local macro_rules | `(tactic| walk_at "q") => `(tactic| ((with_reducible conv => whnf); repeat (first
  | (with_reducible refine q_t (by with_reducible rfl) ?_; with_reducible conv => whnf)
  | (with_reducible refine q_f (by with_reducible rfl) ?_; with_reducible conv => whnf)
  | (with_reducible refine q_t (by decide) ?_; with_reducible conv => whnf)
  | (with_reducible refine q_f (by decide) ?_; with_reducible conv => whnf)
  | (with_reducible refine q_t (decide_eq_true (by omega)) ?_; with_reducible conv => whnf)
  | (with_reducible refine q_f (decide_eq_false (by omega)) ?_; with_reducible conv => whnf)
  | (with_reducible refine q_f (q_nn (by omega)) ?_; with_reducible conv => whnf)
  | (with_reducible refine q_t (q_nt (by omega)) ?_; with_reducible conv => whnf)
  | (with_reducible refine q_len (by with_unfolding_all rfl) ?_; with_reducible conv => whnf)
  | (with_reducible refine q_leq (by with_unfolding_all rfl) ?_; with_reducible conv => whnf)
  | (with_reducible refine q_and (by first | assumption | exact True.intro | omega | (simp only [List.length_map, List.length_append, List.length_cons, List.length_nil]; omega) | decide) ?_; with_reducible conv => whnf)
  | (with_reducible refine q_le (by with_unfolding_all rfl) ?_; with_reducible conv => whnf)
  | (with_reducible refine q_and tyL_lst ?_; with_reducible conv => whnf)
  | (with_reducible refine q_and tyL_rol ?_; with_reducible conv => whnf)
  | (with_reducible refine q_and (tyL_ref (by walk_at "mu")) ?_; with_reducible conv => whnf)
  | (with_reducible refine q_and (tyD_ref (by walk_at "mu")) ?_; with_reducible conv => whnf)
  | (with_reducible refine q_and (rdD_ref (by walk_at "mu")) ?_; with_reducible conv => whnf)
  | (rw [pick_c0]; with_reducible conv => whnf)
  | (rw [pick_c1]; with_reducible conv => whnf)
  | (rw [pick_c2]; with_reducible conv => whnf)
  | (rw [pick_c3]; with_reducible conv => whnf)
  | (rw [pick_c4]; with_reducible conv => whnf)
  | (rw [pick_c5]; with_reducible conv => whnf)
  | (rw [mset_same]; with_reducible conv => whnf)
  | (rw [mset_ne (by assumption)]; with_reducible conv => whnf)
  | (rw [mset_ne]; rotate_left; (first | assumption | exact Ne.symm (by assumption)); with_reducible conv => whnf)
  | (rw [rdL_ref]; rotate_left; (focus (walk_at "mu"; done)); with_reducible conv => whnf)
  | (rw [rdL_refD]; rotate_left; (focus (walk_at "mu"; done)); with_reducible conv => whnf)
  | (rw [rdD_refD]; rotate_left; (focus (walk_at "mu"; done)); with_reducible conv => whnf)
  | (rw [rdM_ref]; rotate_left; (focus (walk_at "mu"; done)); with_reducible conv => whnf)
  | (rw [rdL_refK]; rotate_left; (focus (walk_at "mu"; done)); with_reducible conv => whnf)
  | (rw [rdD_refK]; rotate_left; (focus (walk_at "mu"; done)); with_reducible conv => whnf)
  | (rw [tyW_refL]; rotate_left; (focus (walk_at "mu"; done)); with_reducible conv => whnf)
  | (rw [tyW_refD]; rotate_left; (focus (walk_at "mu"; done)); with_reducible conv => whnf)
  | (rw [drf_ref]; rotate_left; (focus (walk_at "mu"; done)); with_reducible conv => whnf)
  | ((conv => (arg 2; tactic' => (walk_at "mu"; done))); with_reducible conv => whnf)
  | (with_reducible refine q_and (Eq.refl _) ?_; with_reducible conv => whnf)
  | (with_reducible refine q_and (MulO.r (by decide)) ?_; with_reducible conv => whnf)
  | (with_reducible refine q_and (MulO.l (by decide)) ?_; with_reducible conv => whnf)
  | (with_reducible refine q_and (MulO.r (by omega)) ?_; with_reducible conv => whnf)
  | (with_reducible refine q_and (MulO.l (by omega)) ?_; with_reducible conv => whnf)
  | (with_reducible refine q_pow (by decide) ?_; with_reducible conv => whnf)
  | (with_reducible refine q_eqI ?_; with_reducible conv => whnf)
  | (with_reducible refine q_eqS ?_; with_reducible conv => whnf)
  | (with_reducible refine q_eqB ?_; with_reducible conv => whnf)
  | (with_reducible refine q_neI ?_; with_reducible conv => whnf)
  | (with_reducible refine q_neS ?_; with_reducible conv => whnf)
  | (with_reducible refine q_neB ?_; with_reducible conv => whnf)
  | (with_reducible refine q_memc ?_; with_reducible conv => whnf)
  | (with_reducible refine q_lkn (by walk_at "lk") ?_; with_reducible conv => whnf)
  | (with_reducible refine q_tix (by walk_at "lk"; done) ?_; with_reducible conv => whnf)
  | (with_reducible refine q_tin ?_; with_reducible conv => whnf)
  | (rw [pf_hit]; with_reducible conv => whnf)
  | (rw [pf_skip]; rotate_left; (focus (decide +kernel; done)); with_reducible conv => whnf)
  | (rw [lk_hit]; with_reducible conv => whnf)
  | (rw [lk_skip1]; rotate_left; (focus (decide +kernel; done)); with_reducible conv => whnf))))
/-! integers, kinds -/
end Q
namespace Q
open PySem L2
local macro_rules | `(tactic| walk_at "mu") => `(tactic| (repeat (first | exact mset_same | assumption | (rw [mset_ne]; rotate_left; (first | assumption | exact Ne.symm (by assumption))))))
local macro_rules | `(tactic| walk_at "lk") => `(tactic| (repeat (first | exact lk_hit | exact lk_nil | refine lk_skip (by decide +kernel) ?_)))
local macro_rules | `(tactic| walk_at "q") => `(tactic| ((with_reducible conv => whnf); repeat (first
  | (with_reducible refine q_t (by assumption) ?_; with_reducible conv => whnf)
  | (with_reducible refine q_f (by assumption) ?_; with_reducible conv => whnf)
  | (with_reducible refine q_t (by with_reducible rfl) ?_; with_reducible conv => whnf)
  | (with_reducible refine q_f (by with_reducible rfl) ?_; with_reducible conv => whnf)
  | (with_reducible refine q_t (by decide) ?_; with_reducible conv => whnf)
  | (with_reducible refine q_f (by decide) ?_; with_reducible conv => whnf)
  | (with_reducible refine q_t (decide_eq_true (by omega)) ?_; with_reducible conv => whnf)
  | (with_reducible refine q_f (decide_eq_false (by omega)) ?_; with_reducible conv => whnf)
  | (with_reducible refine q_f (q_nn (by omega)) ?_; with_reducible conv => whnf)
  | (with_reducible refine q_t (q_nt (by omega)) ?_; with_reducible conv => whnf)
  | (with_reducible refine q_len (by with_unfolding_all rfl) ?_; with_reducible conv => whnf)
  | (with_reducible refine q_leq (by with_unfolding_all rfl) ?_; with_reducible conv => whnf)
  | (with_reducible refine q_and (by first | assumption | exact True.intro | omega | (simp only [List.length_map, List.length_append, List.length_cons, List.length_nil]; omega) | decide) ?_; with_reducible conv => whnf)
  | (with_reducible refine q_le (by with_unfolding_all rfl) ?_; with_reducible conv => whnf)
  | (with_reducible refine q_and tyL_lst ?_; with_reducible conv => whnf)
  | (with_reducible refine q_and tyL_rol ?_; with_reducible conv => whnf)
  | (with_reducible refine q_and (tyL_ref (by walk_at "mu")) ?_; with_reducible conv => whnf)
  | (with_reducible refine q_and (tyD_ref (by walk_at "mu")) ?_; with_reducible conv => whnf)
  | (with_reducible refine q_and (rdD_ref (by walk_at "mu")) ?_; with_reducible conv => whnf)
  | (rw [pick_c0]; with_reducible conv => whnf)
  | (rw [pick_c1]; with_reducible conv => whnf)
  | (rw [pick_c2]; with_reducible conv => whnf)
  | (rw [pick_c3]; with_reducible conv => whnf)
  | (rw [pick_c4]; with_reducible conv => whnf)
  | (rw [pick_c5]; with_reducible conv => whnf)
  | (rw [mset_same]; with_reducible conv => whnf)
  | (rw [mset_ne (by assumption)]; with_reducible conv => whnf)
  | (rw [mset_ne]; rotate_left; (first | assumption | exact Ne.symm (by assumption)); with_reducible conv => whnf)
  | (rw [rdL_ref]; rotate_left; (focus (walk_at "mu"; done)); with_reducible conv => whnf)
  | (rw [rdL_refD]; rotate_left; (focus (walk_at "mu"; done)); with_reducible conv => whnf)
  | (rw [rdD_refD]; rotate_left; (focus (walk_at "mu"; done)); with_reducible conv => whnf)
  | (rw [rdM_ref]; rotate_left; (focus (walk_at "mu"; done)); with_reducible conv => whnf)
  | (rw [rdL_refK]; rotate_left; (focus (walk_at "mu"; done)); with_reducible conv => whnf)
  | (rw [rdD_refK]; rotate_left; (focus (walk_at "mu"; done)); with_reducible conv => whnf)
  | (rw [tyW_refL]; rotate_left; (focus (walk_at "mu"; done)); with_reducible conv => whnf)
  | (rw [tyW_refD]; rotate_left; (focus (walk_at "mu"; done)); with_reducible conv => whnf)
  | (rw [drf_ref]; rotate_left; (focus (walk_at "mu"; done)); with_reducible conv => whnf)
  | ((conv => (arg 2; tactic' => (walk_at "mu"; done))); with_reducible conv => whnf)
  | (with_reducible refine q_and (Eq.refl _) ?_; with_reducible conv => whnf)
  | (with_reducible refine q_and (MulO.r (by decide)) ?_; with_reducible conv => whnf)
  | (with_reducible refine q_and (MulO.l (by decide)) ?_; with_reducible conv => whnf)
  | (with_reducible refine q_and (MulO.r (by omega)) ?_; with_reducible conv => whnf)
  | (with_reducible refine q_and (MulO.l (by omega)) ?_; with_reducible conv => whnf)
  | (with_reducible refine q_pow (by decide) ?_; with_reducible conv => whnf)
  | (with_reducible refine q_nisT (by first | assumption | with_reducible rfl) ?_; with_reducible conv => whnf)
  | (with_reducible refine q_nisF (by first | assumption | with_reducible rfl) ?_; with_reducible conv => whnf)
  | (with_reducible refine q_eqI ?_; with_reducible conv => whnf)
  | (with_reducible refine q_eqS ?_; with_reducible conv => whnf)
  | (with_reducible refine q_eqB ?_; with_reducible conv => whnf)
  | (with_reducible refine q_neI ?_; with_reducible conv => whnf)
  | (with_reducible refine q_neS ?_; with_reducible conv => whnf)
  | (with_reducible refine q_neB ?_; with_reducible conv => whnf)
  | (with_reducible refine q_memc ?_; with_reducible conv => whnf)
  | (with_reducible refine q_lkn (by walk_at "lk") ?_; with_reducible conv => whnf)
  | (with_reducible refine q_tix (by walk_at "lk"; done) ?_; with_reducible conv => whnf)
  | (with_reducible refine q_tin ?_; with_reducible conv => whnf)
  | (rw [pf_hit]; with_reducible conv => whnf)
  | (rw [pf_skip]; rotate_left; (focus (decide +kernel; done)); with_reducible conv => whnf)
  | (rw [lk_hit]; with_reducible conv => whnf)
  | (rw [lk_skip1]; rotate_left; (focus (decide +kernel; done)); with_reducible conv => whnf))))
/-! keys -/
def isKeyB (z : Str) : Bool := decide (1 ≤ z.length ∧ z.length ≤ 8) && z.cps.toList.all fun c => decide (97 ≤ c ∧ c ≤ 122)
theorem l_a : ("a" : Str) = ⟨#[97]⟩ := by decide +kernel
theorem l_z : ("z" : Str) = ⟨#[122]⟩ := by decide +kernel
def keyCh (w : W) : Bool := match w with
  | .str x => !sLt x "a" && !sLt "z" x
  | _ => false
theorem keyCh_all (z : Str) : (signs z).all keyCh = z.cps.toList.all fun c => decide (97 ≤ c ∧ c ≤ 122) := by
  unfold signs
  rw [List.all_map]
  congr 1
  funext c
  show (!sLt ⟨#[c]⟩ "a" && !sLt "z" ⟨#[c]⟩) = decide (97 ≤ c ∧ c ≤ 122)
  rw [l_a, l_z, slt_one, slt_one]
  by_cases h1 : c < 97 <;> by_cases h2 : 122 < c <;> simp [h1, h2] <;> omega
theorem sp_is_key {z : Str} {μ : Mu} {P : Po} {X : Xo} (hz : z.length ≤ 16000000) (h : P (.bl (isKeyB z)) μ) : f_is_key [.str z] μ P X := by
  rw [f_is_key_eq]; unfold f_is_key_B fDef
  refine ⟨rfl, ?_⟩
  have no : ¬(1 ≤ z.length ∧ z.length ≤ 8) → P (.bl false) μ := fun c => by
    unfold isKeyB at h
    rw [decide_eq_false c] at h
    exact h
  walk_at "q"
  refine q_ifP (fun c1 => ?_) fun c1 => ?_
  · walk_at "q"
    refine q_ifN (fun c2 => ?_) fun c2 => ?_
    · walk_at "q"
      have e : isKeyB z = (signs z).all keyCh := by
        rw [keyCh_all]
        unfold isKeyB
        rw [decide_eq_true (by omega)]
        rfl
      rw [e] at h
      refine itS_ret (v := .bl false) keyCh (fun ρ => ∃ x, ρ = [some (.str z), x]) trivial _ ⟨none, rfl⟩ (fun w hw ρ hρ K hy hn => ?_) (fun a ρ hρ => ?_) fun a => ?_
      · obtain ⟨x, rfl⟩ := hρ
        obtain ⟨c, _, rfl⟩ := List.mem_map.mp hw
        walk_at "q"
        have e2 : keyCh (.str ⟨#[c]⟩) = (!sLt ⟨#[c]⟩ "a" && !sLt "z" ⟨#[c]⟩) := rfl
        rw [e2] at hy hn
        refine q_if (fun c3 => ?_) fun c3 => ?_
        · rw [c3] at hy hn
          walk_at "q"
          refine q_if (fun c4 => ?_) fun c4 => ?_
          · walk_at "q"
            exact hn (by rw [show (!sLt "z" (⟨#[c]⟩ : Str)) = false by simpa using c4]; rfl)
          · walk_at "q"
            exact hy (by rw [show (!sLt "z" (⟨#[c]⟩ : Str)) = true by simpa using c4]; rfl) _ ⟨_, rfl⟩
        · rw [c3] at hy hn
          walk_at "q"
          exact hn rfl
      · rw [a] at h
        exact Rt.now h
      · rw [a] at h
        exact Rt.now h
    · walk_at "q"
      exact Rt.now (no fun q => c2 (by omega))
  · walk_at "q"
    exact Rt.now (no fun q => c1 (by omega))
@[reducible] def oS : Option Str → W
  | none => .non
  | some x => .str x
def belowB (x : Str) (y : Option Str) : Bool := match y with
  | none => true
  | some y => sLt x y
theorem sp_below {x : Str} {y : Option Str} {μ : Mu} {P : Po} {X : Xo} (h : P (.bl (belowB x y)) μ) : f_below [.str x, oS y] μ P X := by
  cases y with
  | none =>
    rw [f_below_eq]; unfold f_below_B fDef
    refine ⟨rfl, ?_⟩
    walk_at "q"
    exact Rt.now h
  | some y =>
    rw [f_below_eq]; unfold f_below_B fDef
    refine ⟨rfl, ?_⟩
    walk_at "q"
    exact Rt.now h
/-! operations -/
end Q
namespace Mspan
/-! lists of spans over numbered bounds: fusing, the parts in and outside of a range, filling -/
abbrev Sp (β : Type) : Type := Nat × Nat × β
section
variable {β : Type} [DecidableEq β]
/-- the last is the first: neighbours of the same worth as one -/
def step (r : List (Sp β)) (x : Sp β) : List (Sp β) := match r with
  | l :: t => if l.2.1 = x.1 ∧ l.2.2 = x.2.2 then (l.1, x.2.1, x.2.2) :: t else x :: l :: t
  | [] => [x]
def Pos (S : List (Sp β)) : Prop := ∀ x ∈ S, x.1 < x.2.1
/-! what fusing makes -/
/-! cell by cell -/
/-! ### the parts in and outside of a range -/
variable {lo hi : Nat} {S : List (Sp β)}
/-! ### filling -/
/-! ### the worths changed, sorted -/
end
end Mspan
namespace Q
open PySem L2
local macro_rules | `(tactic| walk_at "mu") => `(tactic| (repeat (first | exact mset_same | assumption | (rw [mset_ne]; rotate_left; (first | assumption | exact Ne.symm (by assumption))))))
local macro_rules | `(tactic| walk_at "lk") => `(tactic| (repeat (first | exact lk_hit | exact lk_nil | refine lk_skip (by decide +kernel) ?_)))
local macro_rules | `(tactic| walk_at "pf") => `(tactic| (repeat (first | rw [pf_nil] | rw [pf_hit] | (rw [pf_skip]; rotate_left; (focus (decide +kernel; done))))))
local macro_rules | `(tactic| walk_at "q") => `(tactic| ((with_reducible conv => whnf); repeat (first
  | (with_reducible refine q_t (by assumption) ?_; with_reducible conv => whnf)
  | (with_reducible refine q_f (by assumption) ?_; with_reducible conv => whnf)
  | (with_reducible refine q_t (by with_reducible rfl) ?_; with_reducible conv => whnf)
  | (with_reducible refine q_f (by with_reducible rfl) ?_; with_reducible conv => whnf)
  | (with_reducible refine q_t (by decide) ?_; with_reducible conv => whnf)
  | (with_reducible refine q_f (by decide) ?_; with_reducible conv => whnf)
  | (with_reducible refine q_t (decide_eq_true (by omega)) ?_; with_reducible conv => whnf)
  | (with_reducible refine q_f (decide_eq_false (by omega)) ?_; with_reducible conv => whnf)
  | (with_reducible refine q_f (q_nn (by omega)) ?_; with_reducible conv => whnf)
  | (with_reducible refine q_t (q_nt (by omega)) ?_; with_reducible conv => whnf)
  | (with_reducible refine q_len (by with_unfolding_all rfl) ?_; with_reducible conv => whnf)
  | (with_reducible refine q_leq (by with_unfolding_all rfl) ?_; with_reducible conv => whnf)
  | (with_reducible refine q_and (by first | assumption | exact True.intro | omega | (simp only [List.length_map, List.length_append, List.length_cons, List.length_nil]; omega) | decide) ?_; with_reducible conv => whnf)
  | (with_reducible refine q_le (by with_unfolding_all rfl) ?_; with_reducible conv => whnf)
  | (with_reducible refine q_and tyL_lst ?_; with_reducible conv => whnf)
  | (with_reducible refine q_and tyL_rol ?_; with_reducible conv => whnf)
  | (with_reducible refine q_and (tyL_ref (by walk_at "mu")) ?_; with_reducible conv => whnf)
  | (with_reducible refine q_and (tyD_ref (by walk_at "mu")) ?_; with_reducible conv => whnf)
  | (with_reducible refine q_and (rdD_ref (by walk_at "mu")) ?_; with_reducible conv => whnf)
  | (rw [pick_c0]; with_reducible conv => whnf)
  | (rw [pick_c1]; with_reducible conv => whnf)
  | (rw [pick_c2]; with_reducible conv => whnf)
  | (rw [pick_c3]; with_reducible conv => whnf)
  | (rw [pick_c4]; with_reducible conv => whnf)
  | (rw [pick_c5]; with_reducible conv => whnf)
  | (rw [mset_same]; with_reducible conv => whnf)
  | (rw [mset_ne (by assumption)]; with_reducible conv => whnf)
  | (rw [mset_ne]; rotate_left; (first | assumption | exact Ne.symm (by assumption)); with_reducible conv => whnf)
  | (rw [rdL_ref]; rotate_left; (focus (walk_at "mu"; done)); with_reducible conv => whnf)
  | (rw [rdL_refD]; rotate_left; (focus (walk_at "mu"; done)); with_reducible conv => whnf)
  | (rw [rdD_refD]; rotate_left; (focus (walk_at "mu"; done)); with_reducible conv => whnf)
  | (rw [rdM_ref]; rotate_left; (focus (walk_at "mu"; done)); with_reducible conv => whnf)
  | (rw [rdL_refK]; rotate_left; (focus (walk_at "mu"; done)); with_reducible conv => whnf)
  | (rw [rdD_refK]; rotate_left; (focus (walk_at "mu"; done)); with_reducible conv => whnf)
  | (rw [tyW_refL]; rotate_left; (focus (walk_at "mu"; done)); with_reducible conv => whnf)
  | (rw [tyW_refD]; rotate_left; (focus (walk_at "mu"; done)); with_reducible conv => whnf)
  | (rw [drf_ref]; rotate_left; (focus (walk_at "mu"; done)); with_reducible conv => whnf)
  | ((conv => (arg 2; tactic' => (walk_at "mu"; done))); with_reducible conv => whnf)
  | (with_reducible refine q_and (Eq.refl _) ?_; with_reducible conv => whnf)
  | (with_reducible refine q_and (MulO.r (by decide)) ?_; with_reducible conv => whnf)
  | (with_reducible refine q_and (MulO.l (by decide)) ?_; with_reducible conv => whnf)
  | (with_reducible refine q_and (MulO.r (by omega)) ?_; with_reducible conv => whnf)
  | (with_reducible refine q_and (MulO.l (by omega)) ?_; with_reducible conv => whnf)
  | (with_reducible refine q_pow (by decide) ?_; with_reducible conv => whnf)
  | (with_reducible refine q_nisT (by first | assumption | with_reducible rfl) ?_; with_reducible conv => whnf)
  | (with_reducible refine q_nisF (by first | assumption | with_reducible rfl) ?_; with_reducible conv => whnf)
  | (with_reducible refine q_eqI ?_; with_reducible conv => whnf)
  | (with_reducible refine q_eqS ?_; with_reducible conv => whnf)
  | (with_reducible refine q_eqB ?_; with_reducible conv => whnf)
  | (with_reducible refine q_neI ?_; with_reducible conv => whnf)
  | (with_reducible refine q_neS ?_; with_reducible conv => whnf)
  | (with_reducible refine q_neB ?_; with_reducible conv => whnf)
  | (with_reducible refine q_memc ?_; with_reducible conv => whnf)
  | (with_reducible refine q_lkn (by walk_at "lk") ?_; with_reducible conv => whnf)
  | (with_reducible refine q_tix (by walk_at "lk"; done) ?_; with_reducible conv => whnf)
  | (with_reducible refine q_tin ?_; with_reducible conv => whnf)
  | (rw [pf_hit]; with_reducible conv => whnf)
  | (rw [pf_skip]; rotate_left; (focus (decide +kernel; done)); with_reducible conv => whnf)
  | (rw [lk_hit]; with_reducible conv => whnf)
  | (rw [lk_skip1]; rotate_left; (focus (decide +kernel; done)); with_reducible conv => whnf))))
/-! spans: bounds told by their numbers -/
section
open Mspan
variable {n : Nat} {b : Nat → Str} {β : Type} [DecidableEq β] {ew : β → W}
def bo (b : Nat → Str) (n i : Nat) : Option Str := if i < n then some (b i) else none
abbrev bw (b : Nat → Str) (n i : Nat) : W := oS (bo b n i)
/-- a span as a row -/
def en (b : Nat → Str) (n : Nat) (ew : β → W) (x : Sp β) : W := .tup [bw b n x.1, bw b n x.2.1, ew x.2.2]
theorem wEqu_data {x y : W} {μ : Mu} {P : Po} (hx : isD 60 x = true) (hy : isD 60 y = true) (h : P (.bl (eqW x y)) μ) : wEqu x y μ P := by
  have ex := isD_drf (μ := μ) hx
  have ey := isD_drf (μ := μ) hy
  have g : wEqG false x y μ P := by
    refine ⟨by rw [ex]; exact hx, by rw [ey]; exact hy, ?_⟩
    rw [ex, ey, if_neg Bool.false_ne_true]
    exact h
  unfold wEqu wEq
  cases x <;> cases y <;> first
    | exact g
    | exact h
end
end Q
namespace Q
open PySem L2
local macro_rules | `(tactic| walk_at "mu") => `(tactic| (repeat (first | exact mset_same | assumption | (rw [mset_ne]; rotate_left; (first | assumption | exact Ne.symm (by assumption))))))
local macro_rules | `(tactic| walk_at "lk") => `(tactic| (repeat (first | exact lk_hit | exact lk_nil | refine lk_skip (by decide +kernel) ?_)))
local macro_rules | `(tactic| walk_at "pf") => `(tactic| (repeat (first | rw [pf_nil] | rw [pf_hit] | (rw [pf_skip]; rotate_left; (focus (decide +kernel; done))))))
local macro_rules | `(tactic| walk_at "q") => `(tactic| ((with_reducible conv => whnf); repeat (first
  | (with_reducible refine q_t (by assumption) ?_; with_reducible conv => whnf)
  | (with_reducible refine q_f (by assumption) ?_; with_reducible conv => whnf)
  | (with_reducible refine q_t (by with_reducible rfl) ?_; with_reducible conv => whnf)
  | (with_reducible refine q_f (by with_reducible rfl) ?_; with_reducible conv => whnf)
  | (with_reducible refine q_t (by decide) ?_; with_reducible conv => whnf)
  | (with_reducible refine q_f (by decide) ?_; with_reducible conv => whnf)
  | (with_reducible refine q_t (decide_eq_true (by omega)) ?_; with_reducible conv => whnf)
  | (with_reducible refine q_f (decide_eq_false (by omega)) ?_; with_reducible conv => whnf)
  | (with_reducible refine q_f (q_nn (by omega)) ?_; with_reducible conv => whnf)
  | (with_reducible refine q_t (q_nt (by omega)) ?_; with_reducible conv => whnf)
  | (with_reducible refine q_len (by with_unfolding_all rfl) ?_; with_reducible conv => whnf)
  | (with_reducible refine q_leq (by with_unfolding_all rfl) ?_; with_reducible conv => whnf)
  | (with_reducible refine q_and (by first | assumption | exact True.intro | omega | (simp only [List.length_map, List.length_append, List.length_cons, List.length_nil]; omega) | decide) ?_; with_reducible conv => whnf)
  | (with_reducible refine q_le (by with_unfolding_all rfl) ?_; with_reducible conv => whnf)
  | (with_reducible refine q_and tyL_lst ?_; with_reducible conv => whnf)
  | (with_reducible refine q_and tyL_rol ?_; with_reducible conv => whnf)
  | (with_reducible refine q_and (tyL_ref (by walk_at "mu")) ?_; with_reducible conv => whnf)
  | (with_reducible refine q_and (tyD_ref (by walk_at "mu")) ?_; with_reducible conv => whnf)
  | (with_reducible refine q_and (rdD_ref (by walk_at "mu")) ?_; with_reducible conv => whnf)
  | (rw [pick_c0]; with_reducible conv => whnf)
  | (rw [pick_c1]; with_reducible conv => whnf)
  | (rw [pick_c2]; with_reducible conv => whnf)
  | (rw [pick_c3]; with_reducible conv => whnf)
  | (rw [pick_c4]; with_reducible conv => whnf)
  | (rw [pick_c5]; with_reducible conv => whnf)
  | (rw [mset_same]; with_reducible conv => whnf)
  | (rw [mset_ne (by assumption)]; with_reducible conv => whnf)
  | (rw [mset_ne]; rotate_left; (first | assumption | exact Ne.symm (by assumption)); with_reducible conv => whnf)
  | (rw [rdL_ref]; rotate_left; (focus (walk_at "mu"; done)); with_reducible conv => whnf)
  | (rw [rdL_refD]; rotate_left; (focus (walk_at "mu"; done)); with_reducible conv => whnf)
  | (rw [rdD_refD]; rotate_left; (focus (walk_at "mu"; done)); with_reducible conv => whnf)
  | (rw [rdM_ref]; rotate_left; (focus (walk_at "mu"; done)); with_reducible conv => whnf)
  | (rw [rdL_refK]; rotate_left; (focus (walk_at "mu"; done)); with_reducible conv => whnf)
  | (rw [rdD_refK]; rotate_left; (focus (walk_at "mu"; done)); with_reducible conv => whnf)
  | (rw [tyW_refL]; rotate_left; (focus (walk_at "mu"; done)); with_reducible conv => whnf)
  | (rw [tyW_refD]; rotate_left; (focus (walk_at "mu"; done)); with_reducible conv => whnf)
  | (rw [drf_ref]; rotate_left; (focus (walk_at "mu"; done)); with_reducible conv => whnf)
  | ((conv => (arg 2; tactic' => (walk_at "mu"; done))); with_reducible conv => whnf)
  | (with_reducible refine q_and (Eq.refl _) ?_; with_reducible conv => whnf)
  | (with_reducible refine q_and (MulO.r (by decide)) ?_; with_reducible conv => whnf)
  | (with_reducible refine q_and (MulO.l (by decide)) ?_; with_reducible conv => whnf)
  | (with_reducible refine q_and (MulO.r (by omega)) ?_; with_reducible conv => whnf)
  | (with_reducible refine q_and (MulO.l (by omega)) ?_; with_reducible conv => whnf)
  | (with_reducible refine q_pow (by decide) ?_; with_reducible conv => whnf)
  | (with_reducible refine q_nisT (by first | assumption | with_reducible rfl) ?_; with_reducible conv => whnf)
  | (with_reducible refine q_nisF (by first | assumption | with_reducible rfl) ?_; with_reducible conv => whnf)
  | (with_reducible refine q_eqI ?_; with_reducible conv => whnf)
  | (with_reducible refine q_eqS ?_; with_reducible conv => whnf)
  | (with_reducible refine q_eqB ?_; with_reducible conv => whnf)
  | (with_reducible refine q_neI ?_; with_reducible conv => whnf)
  | (with_reducible refine q_neS ?_; with_reducible conv => whnf)
  | (with_reducible refine q_neB ?_; with_reducible conv => whnf)
  | (with_reducible refine q_memc ?_; with_reducible conv => whnf)
  | (with_reducible refine q_lkn (by walk_at "lk") ?_; with_reducible conv => whnf)
  | (with_reducible refine q_tix (by walk_at "lk"; done) ?_; with_reducible conv => whnf)
  | (with_reducible refine q_tin ?_; with_reducible conv => whnf)
  | (rw [pf_hit]; with_reducible conv => whnf)
  | (rw [pf_skip]; rotate_left; (focus (decide +kernel; done)); with_reducible conv => whnf)
  | (rw [lk_hit]; with_reducible conv => whnf)
  | (rw [lk_skip1]; rotate_left; (focus (decide +kernel; done)); with_reducible conv => whnf))))
/-! k48: reports, Routes -/
section
open Mspan
structure Rep where
  lo : Str
  hi : Option Str
  ep : Int
  x : Int
  y : Int
  mid : Str
deriving DecidableEq
def ew (r : Rep) : W := .tup [.str r.lo, oS r.hi, .int r.ep, .int r.x, .int r.y, .str r.mid]
theorem eqW_oS (a b : Option Str) : eqW (oS a) (oS b) = decide (a = b) := by
  cases a <;> cases b
  · rfl
  · simp [eqW]
  · simp [eqW]
  · rename_i x y
    show (x == y) = _
    by_cases c : x = y
    · simp [c]
    · rw [beq_eq_false_iff_ne.mpr c, decide_eq_false fun z => c (Option.some.inj z)]
end
end Q
namespace Q
open PySem L2
local macro_rules | `(tactic| walk_at "mu") => `(tactic| (repeat (first | exact mset_same | assumption | (rw [mset_ne]; rotate_left; (first | assumption | exact Ne.symm (by assumption))))))
local macro_rules | `(tactic| walk_at "lk") => `(tactic| (repeat (first | exact lk_hit | exact lk_nil | refine lk_skip (by decide +kernel) ?_)))
local macro_rules | `(tactic| walk_at "pf") => `(tactic| (repeat (first | rw [pf_nil] | rw [pf_hit] | (rw [pf_skip]; rotate_left; (focus (decide +kernel; done))))))
local macro_rules | `(tactic| walk_at "q") => `(tactic| ((with_reducible conv => whnf); repeat (first
  | (with_reducible refine q_t (by assumption) ?_; with_reducible conv => whnf)
  | (with_reducible refine q_f (by assumption) ?_; with_reducible conv => whnf)
  | (with_reducible refine q_t (by with_reducible rfl) ?_; with_reducible conv => whnf)
  | (with_reducible refine q_f (by with_reducible rfl) ?_; with_reducible conv => whnf)
  | (with_reducible refine q_t (by decide) ?_; with_reducible conv => whnf)
  | (with_reducible refine q_f (by decide) ?_; with_reducible conv => whnf)
  | (with_reducible refine q_t (decide_eq_true (by omega)) ?_; with_reducible conv => whnf)
  | (with_reducible refine q_f (decide_eq_false (by omega)) ?_; with_reducible conv => whnf)
  | (with_reducible refine q_f (q_nn (by omega)) ?_; with_reducible conv => whnf)
  | (with_reducible refine q_t (q_nt (by omega)) ?_; with_reducible conv => whnf)
  | (with_reducible refine q_len (by with_unfolding_all rfl) ?_; with_reducible conv => whnf)
  | (with_reducible refine q_leq (by with_unfolding_all rfl) ?_; with_reducible conv => whnf)
  | (with_reducible refine q_and (by first | assumption | exact True.intro | omega | (simp only [List.length_map, List.length_append, List.length_cons, List.length_nil]; omega) | decide) ?_; with_reducible conv => whnf)
  | (with_reducible refine q_le (by with_unfolding_all rfl) ?_; with_reducible conv => whnf)
  | (with_reducible refine q_and tyL_lst ?_; with_reducible conv => whnf)
  | (with_reducible refine q_and tyL_rol ?_; with_reducible conv => whnf)
  | (with_reducible refine q_and (tyL_ref (by walk_at "mu")) ?_; with_reducible conv => whnf)
  | (with_reducible refine q_and (tyD_ref (by walk_at "mu")) ?_; with_reducible conv => whnf)
  | (with_reducible refine q_and (rdD_ref (by walk_at "mu")) ?_; with_reducible conv => whnf)
  | (rw [pick_c0]; with_reducible conv => whnf)
  | (rw [pick_c1]; with_reducible conv => whnf)
  | (rw [pick_c2]; with_reducible conv => whnf)
  | (rw [pick_c3]; with_reducible conv => whnf)
  | (rw [pick_c4]; with_reducible conv => whnf)
  | (rw [pick_c5]; with_reducible conv => whnf)
  | (rw [mset_same]; with_reducible conv => whnf)
  | (rw [mset_ne (by assumption)]; with_reducible conv => whnf)
  | (rw [mset_ne]; rotate_left; (first | assumption | exact Ne.symm (by assumption)); with_reducible conv => whnf)
  | (rw [rdL_ref]; rotate_left; (focus (walk_at "mu"; done)); with_reducible conv => whnf)
  | (rw [rdL_refD]; rotate_left; (focus (walk_at "mu"; done)); with_reducible conv => whnf)
  | (rw [rdD_refD]; rotate_left; (focus (walk_at "mu"; done)); with_reducible conv => whnf)
  | (rw [rdM_ref]; rotate_left; (focus (walk_at "mu"; done)); with_reducible conv => whnf)
  | (rw [rdL_refK]; rotate_left; (focus (walk_at "mu"; done)); with_reducible conv => whnf)
  | (rw [rdD_refK]; rotate_left; (focus (walk_at "mu"; done)); with_reducible conv => whnf)
  | (rw [tyW_refL]; rotate_left; (focus (walk_at "mu"; done)); with_reducible conv => whnf)
  | (rw [tyW_refD]; rotate_left; (focus (walk_at "mu"; done)); with_reducible conv => whnf)
  | (rw [drf_ref]; rotate_left; (focus (walk_at "mu"; done)); with_reducible conv => whnf)
  | ((conv => (arg 2; tactic' => (walk_at "mu"; done))); with_reducible conv => whnf)
  | (with_reducible refine q_and (Eq.refl _) ?_; with_reducible conv => whnf)
  | (with_reducible refine q_and (MulO.r (by decide)) ?_; with_reducible conv => whnf)
  | (with_reducible refine q_and (MulO.l (by decide)) ?_; with_reducible conv => whnf)
  | (with_reducible refine q_and (MulO.r (by omega)) ?_; with_reducible conv => whnf)
  | (with_reducible refine q_and (MulO.l (by omega)) ?_; with_reducible conv => whnf)
  | (with_reducible refine q_pow (by decide) ?_; with_reducible conv => whnf)
  | (with_reducible refine q_nisT (by first | assumption | with_reducible rfl) ?_; with_reducible conv => whnf)
  | (with_reducible refine q_nisF (by first | assumption | with_reducible rfl) ?_; with_reducible conv => whnf)
  | (with_reducible refine q_eqI ?_; with_reducible conv => whnf)
  | (with_reducible refine q_eqS ?_; with_reducible conv => whnf)
  | (with_reducible refine q_eqB ?_; with_reducible conv => whnf)
  | (with_reducible refine q_neI ?_; with_reducible conv => whnf)
  | (with_reducible refine q_neS ?_; with_reducible conv => whnf)
  | (with_reducible refine q_neB ?_; with_reducible conv => whnf)
  | (with_reducible refine q_memc ?_; with_reducible conv => whnf)
  | (with_reducible refine q_lkn (by walk_at "lk") ?_; with_reducible conv => whnf)
  | (with_reducible refine q_tix (by walk_at "lk"; done) ?_; with_reducible conv => whnf)
  | (with_reducible refine q_tin ?_; with_reducible conv => whnf)
  | (rw [pf_hit]; with_reducible conv => whnf)
  | (rw [pf_skip]; rotate_left; (focus (decide +kernel; done)); with_reducible conv => whnf)
  | (rw [lk_hit]; with_reducible conv => whnf)
  | (rw [lk_skip1]; rotate_left; (focus (decide +kernel; done)); with_reducible conv => whnf))))
/-! k48: find, drop, pieces; the law's own defs -/
section
open Mspan
/-! what the law knows: a call and its report for each of the nine cells -/
abbrev Cell : Type := Option (Int × Rep)
end
end Q
namespace Q
open PySem L2
local macro_rules | `(tactic| walk_at "mu") => `(tactic| (repeat (first | exact mset_same | assumption | (rw [mset_ne]; rotate_left; (first | assumption | exact Ne.symm (by assumption))))))
local macro_rules | `(tactic| walk_at "lk") => `(tactic| (repeat (first | exact lk_hit | exact lk_nil | refine lk_skip (by decide +kernel) ?_)))
local macro_rules | `(tactic| walk_at "pf") => `(tactic| (repeat (first | rw [pf_nil] | rw [pf_hit] | (rw [pf_skip]; rotate_left; (focus (decide +kernel; done))))))
local macro_rules | `(tactic| walk_at "q") => `(tactic| ((with_reducible conv => whnf); repeat (first
  | (with_reducible refine q_t (by assumption) ?_; with_reducible conv => whnf)
  | (with_reducible refine q_f (by assumption) ?_; with_reducible conv => whnf)
  | (with_reducible refine q_t (by with_reducible rfl) ?_; with_reducible conv => whnf)
  | (with_reducible refine q_f (by with_reducible rfl) ?_; with_reducible conv => whnf)
  | (with_reducible refine q_t (by decide) ?_; with_reducible conv => whnf)
  | (with_reducible refine q_f (by decide) ?_; with_reducible conv => whnf)
  | (with_reducible refine q_t (decide_eq_true (by omega)) ?_; with_reducible conv => whnf)
  | (with_reducible refine q_f (decide_eq_false (by omega)) ?_; with_reducible conv => whnf)
  | (with_reducible refine q_f (q_nn (by omega)) ?_; with_reducible conv => whnf)
  | (with_reducible refine q_t (q_nt (by omega)) ?_; with_reducible conv => whnf)
  | (with_reducible refine q_len (by with_unfolding_all rfl) ?_; with_reducible conv => whnf)
  | (with_reducible refine q_leq (by with_unfolding_all rfl) ?_; with_reducible conv => whnf)
  | (with_reducible refine q_and (by first | assumption | exact True.intro | omega | (simp only [List.length_map, List.length_append, List.length_cons, List.length_nil]; omega) | decide) ?_; with_reducible conv => whnf)
  | (with_reducible refine q_le (by with_unfolding_all rfl) ?_; with_reducible conv => whnf)
  | (with_reducible refine q_and tyL_lst ?_; with_reducible conv => whnf)
  | (with_reducible refine q_and tyL_rol ?_; with_reducible conv => whnf)
  | (with_reducible refine q_and (tyL_ref (by walk_at "mu")) ?_; with_reducible conv => whnf)
  | (with_reducible refine q_and (tyD_ref (by walk_at "mu")) ?_; with_reducible conv => whnf)
  | (with_reducible refine q_and (rdD_ref (by walk_at "mu")) ?_; with_reducible conv => whnf)
  | (rw [pick_c0]; with_reducible conv => whnf)
  | (rw [pick_c1]; with_reducible conv => whnf)
  | (rw [pick_c2]; with_reducible conv => whnf)
  | (rw [pick_c3]; with_reducible conv => whnf)
  | (rw [pick_c4]; with_reducible conv => whnf)
  | (rw [pick_c5]; with_reducible conv => whnf)
  | (rw [mset_same]; with_reducible conv => whnf)
  | (rw [mset_ne (by assumption)]; with_reducible conv => whnf)
  | (rw [mset_ne]; rotate_left; (first | assumption | exact Ne.symm (by assumption)); with_reducible conv => whnf)
  | (rw [rdL_ref]; rotate_left; (focus (walk_at "mu"; done)); with_reducible conv => whnf)
  | (rw [rdL_refD]; rotate_left; (focus (walk_at "mu"; done)); with_reducible conv => whnf)
  | (rw [rdD_refD]; rotate_left; (focus (walk_at "mu"; done)); with_reducible conv => whnf)
  | (rw [rdM_ref]; rotate_left; (focus (walk_at "mu"; done)); with_reducible conv => whnf)
  | (rw [rdL_refK]; rotate_left; (focus (walk_at "mu"; done)); with_reducible conv => whnf)
  | (rw [rdD_refK]; rotate_left; (focus (walk_at "mu"; done)); with_reducible conv => whnf)
  | (rw [tyW_refL]; rotate_left; (focus (walk_at "mu"; done)); with_reducible conv => whnf)
  | (rw [tyW_refD]; rotate_left; (focus (walk_at "mu"; done)); with_reducible conv => whnf)
  | (rw [drf_ref]; rotate_left; (focus (walk_at "mu"; done)); with_reducible conv => whnf)
  | ((conv => (arg 2; tactic' => (walk_at "mu"; done))); with_reducible conv => whnf)
  | (with_reducible refine q_and (Eq.refl _) ?_; with_reducible conv => whnf)
  | (with_reducible refine q_and (MulO.r (by decide)) ?_; with_reducible conv => whnf)
  | (with_reducible refine q_and (MulO.l (by decide)) ?_; with_reducible conv => whnf)
  | (with_reducible refine q_and (MulO.r (by omega)) ?_; with_reducible conv => whnf)
  | (with_reducible refine q_and (MulO.l (by omega)) ?_; with_reducible conv => whnf)
  | (with_reducible refine q_pow (by decide) ?_; with_reducible conv => whnf)
  | (with_reducible refine q_nisT (by first | assumption | with_reducible rfl) ?_; with_reducible conv => whnf)
  | (with_reducible refine q_nisF (by first | assumption | with_reducible rfl) ?_; with_reducible conv => whnf)
  | (with_reducible refine q_eqI ?_; with_reducible conv => whnf)
  | (with_reducible refine q_eqS ?_; with_reducible conv => whnf)
  | (with_reducible refine q_eqB ?_; with_reducible conv => whnf)
  | (with_reducible refine q_neI ?_; with_reducible conv => whnf)
  | (with_reducible refine q_neS ?_; with_reducible conv => whnf)
  | (with_reducible refine q_neB ?_; with_reducible conv => whnf)
  | (with_reducible refine q_memc ?_; with_reducible conv => whnf)
  | (with_reducible refine q_lkn (by walk_at "lk") ?_; with_reducible conv => whnf)
  | (with_reducible refine q_tix (by walk_at "lk"; done) ?_; with_reducible conv => whnf)
  | (with_reducible refine q_tin ?_; with_reducible conv => whnf)
  | (rw [pf_hit]; with_reducible conv => whnf)
  | (rw [pf_skip]; rotate_left; (focus (decide +kernel; done)); with_reducible conv => whnf)
  | (rw [lk_hit]; with_reducible conv => whnf)
  | (rw [lk_skip1]; rotate_left; (focus (decide +kernel; done)); with_reducible conv => whnf))))
/-! k48: what the law adds and drops -/
section
open Mspan
/-- the cells below k are done -/
def DoneC (f : Nat → Cell → Cell) (L L' : List Cell) (k : Nat) : Prop := L'.length = 9 ∧ ∀ i, L'[i]? = if i < k then (L[i]?).map (f i) else L[i]?
theorem DoneC.put {f : Nat → Cell → Cell} {L L' : List Cell} {k : Nat} {c : Cell} (h : DoneC f L L' k) (hk : k < 9) (hc : L[k]? = some c) : DoneC f L (L'.set k (f k c)) (k + 1) := by
  refine ⟨by rw [List.length_set]; exact h.1, fun i => ?_⟩
  rw [List.getElem?_set]
  by_cases d : k = i
  · rw [if_pos d, if_pos (by rw [h.1]; exact hk), if_pos (by omega), ← d, hc]
    rfl
  · rw [if_neg d, h.2 i]
    by_cases d2 : i < k
    · rw [if_pos d2, if_pos (by omega)]
    · rw [if_neg d2, if_neg (by omega)]
end
end Q
namespace Q
open PySem L2
local macro_rules | `(tactic| walk_at "mu") => `(tactic| (repeat (first | exact mset_same | assumption | (rw [mset_ne]; rotate_left; (first | assumption | exact Ne.symm (by assumption))))))
local macro_rules | `(tactic| walk_at "lk") => `(tactic| (repeat (first | exact lk_hit | exact lk_nil | refine lk_skip (by decide +kernel) ?_)))
local macro_rules | `(tactic| walk_at "pf") => `(tactic| (repeat (first | rw [pf_nil] | rw [pf_hit] | (rw [pf_skip]; rotate_left; (focus (decide +kernel; done))))))
local macro_rules | `(tactic| walk_at "q") => `(tactic| ((with_reducible conv => whnf); repeat (first
  | (with_reducible refine q_t (by assumption) ?_; with_reducible conv => whnf)
  | (with_reducible refine q_f (by assumption) ?_; with_reducible conv => whnf)
  | (with_reducible refine q_t (by with_reducible rfl) ?_; with_reducible conv => whnf)
  | (with_reducible refine q_f (by with_reducible rfl) ?_; with_reducible conv => whnf)
  | (with_reducible refine q_t (by decide) ?_; with_reducible conv => whnf)
  | (with_reducible refine q_f (by decide) ?_; with_reducible conv => whnf)
  | (with_reducible refine q_t (decide_eq_true (by omega)) ?_; with_reducible conv => whnf)
  | (with_reducible refine q_f (decide_eq_false (by omega)) ?_; with_reducible conv => whnf)
  | (with_reducible refine q_f (q_nn (by omega)) ?_; with_reducible conv => whnf)
  | (with_reducible refine q_t (q_nt (by omega)) ?_; with_reducible conv => whnf)
  | (with_reducible refine q_len (by with_unfolding_all rfl) ?_; with_reducible conv => whnf)
  | (with_reducible refine q_leq (by with_unfolding_all rfl) ?_; with_reducible conv => whnf)
  | (with_reducible refine q_and (by first | assumption | exact True.intro | omega | (simp only [List.length_map, List.length_append, List.length_cons, List.length_nil]; omega) | decide) ?_; with_reducible conv => whnf)
  | (with_reducible refine q_le (by with_unfolding_all rfl) ?_; with_reducible conv => whnf)
  | (with_reducible refine q_and tyL_lst ?_; with_reducible conv => whnf)
  | (with_reducible refine q_and tyL_rol ?_; with_reducible conv => whnf)
  | (with_reducible refine q_and (tyL_ref (by walk_at "mu")) ?_; with_reducible conv => whnf)
  | (with_reducible refine q_and (tyD_ref (by walk_at "mu")) ?_; with_reducible conv => whnf)
  | (with_reducible refine q_and (rdD_ref (by walk_at "mu")) ?_; with_reducible conv => whnf)
  | (rw [pick_c0]; with_reducible conv => whnf)
  | (rw [pick_c1]; with_reducible conv => whnf)
  | (rw [pick_c2]; with_reducible conv => whnf)
  | (rw [pick_c3]; with_reducible conv => whnf)
  | (rw [pick_c4]; with_reducible conv => whnf)
  | (rw [pick_c5]; with_reducible conv => whnf)
  | (rw [mset_same]; with_reducible conv => whnf)
  | (rw [mset_ne (by assumption)]; with_reducible conv => whnf)
  | (rw [mset_ne]; rotate_left; (first | assumption | exact Ne.symm (by assumption)); with_reducible conv => whnf)
  | (rw [rdL_ref]; rotate_left; (focus (walk_at "mu"; done)); with_reducible conv => whnf)
  | (rw [rdL_refD]; rotate_left; (focus (walk_at "mu"; done)); with_reducible conv => whnf)
  | (rw [rdD_refD]; rotate_left; (focus (walk_at "mu"; done)); with_reducible conv => whnf)
  | (rw [rdM_ref]; rotate_left; (focus (walk_at "mu"; done)); with_reducible conv => whnf)
  | (rw [rdL_refK]; rotate_left; (focus (walk_at "mu"; done)); with_reducible conv => whnf)
  | (rw [rdD_refK]; rotate_left; (focus (walk_at "mu"; done)); with_reducible conv => whnf)
  | (rw [tyW_refL]; rotate_left; (focus (walk_at "mu"; done)); with_reducible conv => whnf)
  | (rw [tyW_refD]; rotate_left; (focus (walk_at "mu"; done)); with_reducible conv => whnf)
  | (rw [drf_ref]; rotate_left; (focus (walk_at "mu"; done)); with_reducible conv => whnf)
  | ((conv => (arg 2; tactic' => (walk_at "mu"; done))); with_reducible conv => whnf)
  | (with_reducible refine q_and (Eq.refl _) ?_; with_reducible conv => whnf)
  | (with_reducible refine q_and (MulO.r (by decide)) ?_; with_reducible conv => whnf)
  | (with_reducible refine q_and (MulO.l (by decide)) ?_; with_reducible conv => whnf)
  | (with_reducible refine q_and (MulO.r (by omega)) ?_; with_reducible conv => whnf)
  | (with_reducible refine q_and (MulO.l (by omega)) ?_; with_reducible conv => whnf)
  | (with_reducible refine q_pow (by decide) ?_; with_reducible conv => whnf)
  | (with_reducible refine q_nisT (by first | assumption | with_reducible rfl) ?_; with_reducible conv => whnf)
  | (with_reducible refine q_nisF (by first | assumption | with_reducible rfl) ?_; with_reducible conv => whnf)
  | (with_reducible refine q_eqI ?_; with_reducible conv => whnf)
  | (with_reducible refine q_eqS ?_; with_reducible conv => whnf)
  | (with_reducible refine q_eqB ?_; with_reducible conv => whnf)
  | (with_reducible refine q_neI ?_; with_reducible conv => whnf)
  | (with_reducible refine q_neS ?_; with_reducible conv => whnf)
  | (with_reducible refine q_neB ?_; with_reducible conv => whnf)
  | (with_reducible refine q_memc ?_; with_reducible conv => whnf)
  | (with_reducible refine q_lkn (by walk_at "lk") ?_; with_reducible conv => whnf)
  | (with_reducible refine q_tix (by walk_at "lk"; done) ?_; with_reducible conv => whnf)
  | (with_reducible refine q_tin ?_; with_reducible conv => whnf)
  | (rw [pf_hit]; with_reducible conv => whnf)
  | (rw [pf_skip]; rotate_left; (focus (decide +kernel; done)); with_reducible conv => whnf)
  | (rw [lk_hit]; with_reducible conv => whnf)
  | (rw [lk_skip1]; rotate_left; (focus (decide +kernel; done)); with_reducible conv => whnf))))
/-! k48: what the law asks of the pieces -/
section
open Mspan
theorem oS_D (o : Option Str) : isD 60 (oS o) = true := by
  cases o <;> rfl
end
end Q
namespace Q
open PySem L2
local macro_rules | `(tactic| walk_at "mu") => `(tactic| (repeat (first | exact mset_same | assumption | (rw [mset_ne]; rotate_left; (first | assumption | exact Ne.symm (by assumption))))))
local macro_rules | `(tactic| walk_at "lk") => `(tactic| (repeat (first | exact lk_hit | exact lk_nil | refine lk_skip (by decide +kernel) ?_)))
local macro_rules | `(tactic| walk_at "pf") => `(tactic| (repeat (first | rw [pf_nil] | rw [pf_hit] | (rw [pf_skip]; rotate_left; (focus (decide +kernel; done))))))
local macro_rules | `(tactic| walk_at "q") => `(tactic| ((with_reducible conv => whnf); repeat (first
  | (with_reducible refine q_t (by assumption) ?_; with_reducible conv => whnf)
  | (with_reducible refine q_f (by assumption) ?_; with_reducible conv => whnf)
  | (with_reducible refine q_t (by with_reducible rfl) ?_; with_reducible conv => whnf)
  | (with_reducible refine q_f (by with_reducible rfl) ?_; with_reducible conv => whnf)
  | (with_reducible refine q_t (by decide) ?_; with_reducible conv => whnf)
  | (with_reducible refine q_f (by decide) ?_; with_reducible conv => whnf)
  | (with_reducible refine q_t (decide_eq_true (by omega)) ?_; with_reducible conv => whnf)
  | (with_reducible refine q_f (decide_eq_false (by omega)) ?_; with_reducible conv => whnf)
  | (with_reducible refine q_f (q_nn (by omega)) ?_; with_reducible conv => whnf)
  | (with_reducible refine q_t (q_nt (by omega)) ?_; with_reducible conv => whnf)
  | (with_reducible refine q_len (by with_unfolding_all rfl) ?_; with_reducible conv => whnf)
  | (with_reducible refine q_leq (by with_unfolding_all rfl) ?_; with_reducible conv => whnf)
  | (with_reducible refine q_and (by first | assumption | exact True.intro | omega | (simp only [List.length_map, List.length_append, List.length_cons, List.length_nil]; omega) | decide) ?_; with_reducible conv => whnf)
  | (with_reducible refine q_le (by with_unfolding_all rfl) ?_; with_reducible conv => whnf)
  | (with_reducible refine q_and tyL_lst ?_; with_reducible conv => whnf)
  | (with_reducible refine q_and tyL_rol ?_; with_reducible conv => whnf)
  | (with_reducible refine q_and (tyL_ref (by walk_at "mu")) ?_; with_reducible conv => whnf)
  | (with_reducible refine q_and (tyD_ref (by walk_at "mu")) ?_; with_reducible conv => whnf)
  | (with_reducible refine q_and (rdD_ref (by walk_at "mu")) ?_; with_reducible conv => whnf)
  | (rw [pick_c0]; with_reducible conv => whnf)
  | (rw [pick_c1]; with_reducible conv => whnf)
  | (rw [pick_c2]; with_reducible conv => whnf)
  | (rw [pick_c3]; with_reducible conv => whnf)
  | (rw [pick_c4]; with_reducible conv => whnf)
  | (rw [pick_c5]; with_reducible conv => whnf)
  | (rw [mset_same]; with_reducible conv => whnf)
  | (rw [mset_ne (by assumption)]; with_reducible conv => whnf)
  | (rw [mset_ne]; rotate_left; (first | assumption | exact Ne.symm (by assumption)); with_reducible conv => whnf)
  | (rw [rdL_ref]; rotate_left; (focus (walk_at "mu"; done)); with_reducible conv => whnf)
  | (rw [rdL_refD]; rotate_left; (focus (walk_at "mu"; done)); with_reducible conv => whnf)
  | (rw [rdD_refD]; rotate_left; (focus (walk_at "mu"; done)); with_reducible conv => whnf)
  | (rw [rdM_ref]; rotate_left; (focus (walk_at "mu"; done)); with_reducible conv => whnf)
  | (rw [rdL_refK]; rotate_left; (focus (walk_at "mu"; done)); with_reducible conv => whnf)
  | (rw [rdD_refK]; rotate_left; (focus (walk_at "mu"; done)); with_reducible conv => whnf)
  | (rw [tyW_refL]; rotate_left; (focus (walk_at "mu"; done)); with_reducible conv => whnf)
  | (rw [tyW_refD]; rotate_left; (focus (walk_at "mu"; done)); with_reducible conv => whnf)
  | (rw [drf_ref]; rotate_left; (focus (walk_at "mu"; done)); with_reducible conv => whnf)
  | ((conv => (arg 2; tactic' => (walk_at "mu"; done))); with_reducible conv => whnf)
  | (with_reducible refine q_and (Eq.refl _) ?_; with_reducible conv => whnf)
  | (with_reducible refine q_and (MulO.r (by decide)) ?_; with_reducible conv => whnf)
  | (with_reducible refine q_and (MulO.l (by decide)) ?_; with_reducible conv => whnf)
  | (with_reducible refine q_and (MulO.r (by omega)) ?_; with_reducible conv => whnf)
  | (with_reducible refine q_and (MulO.l (by omega)) ?_; with_reducible conv => whnf)
  | (with_reducible refine q_pow (by decide) ?_; with_reducible conv => whnf)
  | (with_reducible refine q_nisT (by first | assumption | with_reducible rfl) ?_; with_reducible conv => whnf)
  | (with_reducible refine q_nisF (by first | assumption | with_reducible rfl) ?_; with_reducible conv => whnf)
  | (with_reducible refine q_eqI ?_; with_reducible conv => whnf)
  | (with_reducible refine q_eqS ?_; with_reducible conv => whnf)
  | (with_reducible refine q_eqB ?_; with_reducible conv => whnf)
  | (with_reducible refine q_neI ?_; with_reducible conv => whnf)
  | (with_reducible refine q_neS ?_; with_reducible conv => whnf)
  | (with_reducible refine q_neB ?_; with_reducible conv => whnf)
  | (with_reducible refine q_memc ?_; with_reducible conv => whnf)
  | (with_reducible refine q_lkn (by walk_at "lk") ?_; with_reducible conv => whnf)
  | (with_reducible refine q_tix (by walk_at "lk"; done) ?_; with_reducible conv => whnf)
  | (with_reducible refine q_tin ?_; with_reducible conv => whnf)
  | (rw [pf_hit]; with_reducible conv => whnf)
  | (rw [pf_skip]; rotate_left; (focus (decide +kernel; done)); with_reducible conv => whnf)
  | (rw [lk_hit]; with_reducible conv => whnf)
  | (rw [lk_skip1]; rotate_left; (focus (decide +kernel; done)); with_reducible conv => whnf))))
/-! plan: the program's side (k51) -/
section
open Mspan
@[reducible] def repW (r : Rep) : W := .tup [.str r.lo, oS r.hi, .int r.ep, .int r.x, .int r.y, .str r.mid]
theorem sp_oS_eq {x y : Option Str} {μ : Mu} {P : Po} (h : P (.bl (decide (x = y))) μ) : wEqu (oS x) (oS y) μ P := wEqu_data (oS_D x) (oS_D y) (by rw [eqW_oS]; exact h)
theorem sp_oS_eqS {x : Option Str} {y : Str} {μ : Mu} {P : Po} (h : P (.bl (decide (x = some y))) μ) : wEqu (oS x) (.str y) μ P := sp_oS_eq (y := some y) h
def largeB (r : Rep) : Bool := decide (8 < r.y) && (isKeyB r.mid && (sLt r.lo r.mid && belowB r.mid r.hi))
theorem sp__is_large {r : Rep} {μ : Mu} {P : Po} {X : Xo} (hz : r.mid.length ≤ 100) (h : P (.bl (largeB r)) μ) : f__is_large [repW r] μ P X := by
  rw [f__is_large_eq]; unfold f__is_large_B fDef
  refine ⟨rfl, ?_⟩
  unfold largeB at h
  walk_at "q"
  refine q_ifP (fun c => ?_) fun c => ?_
  · rw [decide_eq_true c] at h
    walk_at "q"
    refine sp_is_key (by omega) ?_
    walk_at "q"
    refine q_if (fun c2 => ?_) fun c2 => ?_
    · rw [c2] at h
      walk_at "q"
      refine q_if (fun c3 => ?_) fun c3 => ?_
      · rw [c3] at h
        walk_at "q"
        refine sp_below ?_
        exact Rt.now h
      · rw [c3] at h
        walk_at "q"
        exact Rt.now h
    · rw [c2] at h
      walk_at "q"
      exact Rt.now h
  · rw [decide_eq_false c] at h
    walk_at "q"
    exact Rt.now h
def splitW (r : Rep) : W := .tup [.int r.x, .tup [.str "split", .str r.lo, oS r.hi, .int r.ep, .str r.mid]]
theorem sp__split {r : Rep} {μ : Mu} {P : Po} {X : Xo} (h : P (splitW r) μ) : f__split [repW r] μ P X := by
  rw [f__split_eq]; unfold f__split_B fDef
  refine ⟨rfl, ?_⟩
  walk_at "q"
  exact Rt.now h
def joinW (a b : Rep) : W := .tup [.int a.x, .tup [.str "join", .str a.lo, oS a.hi, .int a.ep, oS b.hi, .int b.ep]]
theorem sp__join {a b : Rep} {μ : Mu} {P : Po} {X : Xo} (h : P (joinW a b) μ) : f__join [repW a, repW b] μ P X := by
  rw [f__join_eq]; unfold f__join_B fDef
  refine ⟨rfl, ?_⟩
  walk_at "q"
  exact Rt.now h
def togB (a b : Rep) : Bool := decide (a.hi = some b.lo) && (decide (a.x = b.x) && decide (a.y + b.y ≤ 4))
theorem sp__belong {a b : Rep} {μ : Mu} {P : Po} {X : Xo} (h : P (.bl (togB a b)) μ) : f__belong_together [repW a, repW b] μ P X := by
  rw [f__belong_together_eq]; unfold f__belong_together_B fDef
  refine ⟨rfl, ?_⟩
  unfold togB at h
  walk_at "q"
  refine sp_oS_eqS ?_
  walk_at "q"
  refine q_ifP (fun c => ?_) fun c => ?_
  · rw [decide_eq_true c] at h
    walk_at "q"
    refine q_ifP (fun c2 => ?_) fun c2 => ?_
    · rw [decide_eq_true c2] at h
      walk_at "q"
      exact Rt.now h
    · rw [decide_eq_false c2] at h
      walk_at "q"
      exact Rt.now h
  · rw [decide_eq_false c] at h
    walk_at "q"
    exact Rt.now h
/-- the loads: how many of these are a server's -/
def loadN (rs : List Rep) (s : Int) : Nat := (rs.filter fun r => decide (r.x = s)).length
theorem sp__load {rs : List Rep} {s : Int} {μ : Mu} {P : Po} {X : Xo} (hz : rs.length ≤ 1000) (h : P (.int (loadN rs s : Nat)) μ) : f__load [.lst (rs.map repW), .int s] μ P X := by
  rw [f__load_eq]; unfold f__load_B fDef
  refine ⟨rfl, ?_⟩
  walk_at "q"
  refine lcV_tm repW repW (fun r => decide (r.x = s)) rs (by omega) ?_ (fun r hr μ' he N Y hn hy => ?_) ?_
  · intros
    rfl
  · walk_at "q"
    refine q_ifP (fun c => ?_) fun c => ?_
    · walk_at "q"
      exact hy (decide_eq_true c)
    · walk_at "q"
      exact hn (decide_eq_false c)
  · walk_at "q"
    rw [List.length_map]
    exact Rt.now h
def jn : List Rep → List W × List Rep
  | a :: b :: t => if togB a b = true then (joinW a b :: (jn t).1, (jn t).2) else ((jn (b :: t)).1, a :: (jn (b :: t)).2)
  | [a] => ([], [a])
  | [] => ([], [])
theorem jn_yes {a b : Rep} {t : List Rep} (h : togB a b = true) : jn (a :: b :: t) = (joinW a b :: (jn t).1, (jn t).2) := by
  rw [jn, if_pos h]
theorem jn_no {a b : Rep} {t : List Rep} (h : togB a b = false) : jn (a :: b :: t) = ((jn (b :: t)).1, a :: (jn (b :: t)).2) := by
  rw [jn, if_neg (by rw [h]; exact Bool.false_ne_true)]
theorem sp__join_neighbours {rs : List Rep} {μ : Mu} {P : Po} {X : Xo} (hz : rs.length ≤ 1000) (h : P (.tup [.lst (jn rs).1, .lst ((jn rs).2.map repW)]) μ) : f__join_neighbours [.lst (rs.map repW)] μ P X := by
  rw [f__join_neighbours_eq]; unfold f__join_neighbours_B fDef
  refine ⟨rfl, ?_⟩
  walk_at "q"
  intro p hp
  walk_at "q"
  intro q hq
  obtain ⟨hqp, hq⟩ := new_ne hq
  walk_at "q"
  refine itWh.mk (fun n ρ μ' => ∃ (k : Nat) (js : List W) (rl : List Rep), n = rs.length - k ∧ k ≤ rs.length ∧ js.length + rl.length ≤ k ∧ ρ = [some (.lst (rs.map repW)), some (.ref p), some (.ref q), some (.int k)] ∧ μ' = mset (mset μ p (.ls js)) q (.ls (rl.map repW)) ∧
    js ++ (jn (rs.drop k)).1 = (jn rs).1 ∧ rl ++ (jn (rs.drop k)).2 = (jn rs).2) rs.length ⟨0, [], [], rfl, Nat.zero_le _, Nat.le_refl _, rfl, rfl, by simp, by simp⟩ ?_
  rintro n ρ μ' ⟨k, js, rl, rfl, hk, hl, rfl, rfl, h1, h2⟩
  walk_at "q"
  rw [List.length_map]
  have fin : k = rs.length → Rt P (.tup [.ref p, .ref q]) (mset (mset μ p (.ls js)) q (.ls (rl.map repW))) := fun e => by
    subst e
    rw [List.drop_length] at h1 h2
    refine Rt.as (.tup [.lst (jn rs).1, .lst ((jn rs).2.map repW)]) μ ((Sub.new hp).trans (Sub.new (by rw [mset_ne hqp]; exact hq))) (.tup (.cons ?_ (.cons ?_ (.same [])))) h
    · have e1 : js = (jn rs).1 := by simpa [jn] using h1
      rw [← e1]
      exact .lst (by rw [mset_ne (Ne.symm hqp), mset_same]) hp (.same _)
    · have e2 : rl = (jn rs).2 := by simpa [jn] using h2
      rw [← e2]
      exact .lst mset_same hq (.same _)
  refine q_ifP (fun c => ?_) fun c => ?_
  · have hk' : k < rs.length := by omega
    have g1 : rs[k]? = some rs[k] := List.getElem?_eq_getElem hk'
    have d1 : rs.drop k = rs[k] :: rs.drop (k + 1) := List.drop_eq_getElem_cons hk'
    have rest : (jn (rs.drop k)) = ((jn (rs.drop (k + 1))).1, rs[k] :: (jn (rs.drop (k + 1))).2) → f__join_neighbours = f__join_neighbours → ∀ K : Rho → Mu → Prop, (∀ ρ' μ', (∃ m, m < rs.length - k ∧ ∃ k js rl, m = rs.length - k ∧ k ≤ rs.length ∧ js.length + rl.length ≤ k ∧ ρ' = [some (W.lst (List.map repW rs)), some (W.ref p), some (W.ref q), some (W.int (k : Nat))] ∧ μ' = mset (mset μ p (O.ls js)) q (O.ls (List.map repW rl)) ∧ js ++ (jn (List.drop k rs)).fst = (jn rs).fst ∧ rl ++ (jn (List.drop k rs)).snd = (jn rs).snd) → K ρ' μ') → K [some (.lst (rs.map repW)), some (.ref p), some (.ref q), some (.int ((k : Int) + 1))] (mset (mset (mset μ p (.ls js)) q (.ls (rl.map repW))) q (.ls (rl.map repW ++ [repW rs[k]]))) := fun e _ K hK => by
      refine hK _ _ ⟨rs.length - (k + 1), by omega, k + 1, js, rl ++ [rs[k]], rfl, hk', by rw [List.length_append, List.length_singleton]; omega, rfl, ?_, ?_, ?_⟩
      · rw [mset_mset, List.map_append]
        rfl
      · rw [e] at h1
        exact h1
      · rw [e] at h2
        rw [List.append_assoc, List.singleton_append]
        exact h2
    walk_at "q"
    rw [List.length_map]
    refine q_ifP (fun c2 => ?_) fun c2 => ?_
    · have hk2 : k + 1 < rs.length := by omega
      have g2 : rs[k + 1]? = some rs[k + 1] := List.getElem?_eq_getElem hk2
      have d2 : rs.drop (k + 1) = rs[k + 1] :: rs.drop (k + 2) := List.drop_eq_getElem_cons hk2
      walk_at "q"
      rw [pick_mapN g1]
      walk_at "q"
      rw [show (k : Int) + 1 = ((k + 1 : Nat) : Int) by omega, pick_mapN g2]
      walk_at "q"
      refine sp__belong ?_
      walk_at "q"
      refine q_if (fun c3 => ?_) fun c3 => ?_
      · walk_at "q"
        rw [pick_mapN g1]
        walk_at "q"
        rw [show (k : Int) + 1 = ((k + 1 : Nat) : Int) by omega, pick_mapN g2]
        walk_at "q"
        refine sp__join ?_
        walk_at "q"
        refine ⟨rs.length - (k + 2), by omega, k + 2, js ++ [joinW rs[k] rs[k + 1]], rl, rfl, hk2, by rw [List.length_append, List.length_singleton]; omega, rfl, ?_, ?_, ?_⟩
        · rw [mset_comm (Ne.symm hqp), mset_mset, mset_comm hqp]
        · rw [d1, d2, jn_yes c3] at h1
          rw [List.append_assoc, List.singleton_append]
          exact h1
        · rw [d1, d2, jn_yes c3] at h2
          exact h2
      · walk_at "q"
        rw [pick_mapN g1]
        walk_at "q"
        refine rest ?_ rfl _ fun _ _ h => h
        rw [d1, d2, jn_no c3]
    · walk_at "q"
      rw [pick_mapN g1]
      walk_at "q"
      refine rest ?_ rfl _ fun _ _ h => h
      have : rs.drop (k + 1) = [] := List.drop_eq_nil_of_le (by omega)
      rw [d1, this]
      rfl
  · walk_at "q"
    exact fin (by omega)
def MaxAt (ns : List Int) (j : Nat) : Prop := ∃ m, ns[j]? = some m ∧ (∀ (i : Nat) (z : Int), ns[i]? = some z → z ≤ m) ∧ ∀ (i : Nat) (z : Int), i < j → ns[i]? = some z → z < m
def MinAt (ns : List Int) (j : Nat) : Prop := ∃ m, ns[j]? = some m ∧ (∀ (i : Nat) (z : Int), ns[i]? = some z → m ≤ z) ∧ ∀ (i : Nat) (z : Int), i < j → ns[i]? = some z → m < z
theorem first_at : ∀ {ns : List Int} {m : Int}, m ∈ ns → ∃ j, ns[j]? = some m ∧ ∀ (i : Nat) (z : Int), i < j → ns[i]? = some z → z ≠ m
  | [], m, h => by cases h
  | n :: ns, m, h => by
    by_cases c : n = m
    · exact ⟨0, by rw [c]; rfl, fun i z hi _ => absurd hi (Nat.not_lt_zero _)⟩
    · have h2 : m ∈ ns := by
        rcases List.mem_cons.mp h with e | e
        · exact absurd e.symm c
        · exact e
      obtain ⟨j, h3, h4⟩ := first_at h2
      refine ⟨j + 1, h3, fun i z hi hz => ?_⟩
      cases i with
      | zero =>
        cases hz
        exact c
      | succ i => exact h4 i z (by omega) hz
def moveW (r : Rep) (t : Nat) : W := .tup [.int r.x, .tup [.str "move", .str r.lo, oS r.hi, .int r.ep, .int (t : Int)]]
def loadsL (rs : List Rep) (n : Nat) : List Int := (List.range n).map fun (i : Nat) => (loadN rs (i : Int) : Int)
def evenL (rs rest : List Rep) (n b t : Nat) : List W := if loadN rs (b : Int) < loadN rs (t : Int) + 2 then [] else match rest.find? fun r => decide (r.x = (b : Int)) with
  | some r => [moveW r t]
  | none => []
theorem loads_at {rs : List Rep} {n i : Nat} {z : Int} (h : (loadsL rs n)[i]? = some z) : i < n ∧ z = loadN rs (i : Int) := by
  unfold loadsL at h
  rw [List.getElem?_map] at h
  obtain ⟨j, h1, h2⟩ := Option.map_eq_some_iff.mp h
  obtain ⟨h3, h4⟩ := List.getElem?_eq_some_iff.mp h1
  rw [List.getElem_range] at h4
  rw [List.length_range] at h3
  subst h4
  exact ⟨h3, h2.symm⟩
theorem loads_get {rs : List Rep} {n i : Nat} (h : i < n) : (loadsL rs n)[i]? = some (loadN rs (i : Int) : Int) := by
  unfold loadsL
  rw [List.getElem?_map, List.getElem?_range h]
  rfl
theorem sp__even_out {rs rest : List Rep} {n : Nat} {μ : Mu} {P : Po} {X : Xo} (hz : rs.length ≤ 1000) (h0 : 0 < n) (hn : n ≤ 100)
    (h : ∀ b t, MaxAt (loadsL rs n) b → MinAt (loadsL rs n) t → P (.lst (evenL rs rest n b t)) μ) : f__even_out [.lst (rs.map repW), .lst (rest.map repW), .int n] μ P X := by
  rw [f__even_out_eq]; unfold f__even_out_B fDef
  refine ⟨rfl, ?_⟩
  walk_at "q"
  refine lcV_m (fun i : Nat => .int (0 + (i : Int))) (fun i : Nat => .int (loadN rs (i : Int) : Int)) (List.range n) (by rw [List.length_range]; omega) ?_ (fun i hi μ' he Y hy => ?_) ?_
  · intros
    trivial
  · walk_at "q"
    rw [Int.zero_add]
    exact sp__load hz hy
  rw [show (List.range n).map (fun i : Nat => W.int (loadN rs (i : Int) : Int)) = (loadsL rs n).map W.int by unfold loadsL; rw [List.map_map]; rfl]
  walk_at "q"
  refine ⟨loadsL rs n, rfl, by unfold loadsL; rw [List.length_map, List.length_range]; exact h0, fun mx m1 m2 => ?_⟩
  walk_at "q"
  obtain ⟨b, b1, b2⟩ := first_at m1
  refine ⟨loadsL rs n, b, rfl, b1, b2, ?_⟩
  walk_at "q"
  refine ⟨loadsL rs n, rfl, by unfold loadsL; rw [List.length_map, List.length_range]; exact h0, fun mn k1 k2 => ?_⟩
  walk_at "q"
  obtain ⟨t, t1, t2⟩ := first_at k1
  refine ⟨loadsL rs n, t, rfl, t1, t2, ?_⟩
  have hb : MaxAt (loadsL rs n) b := ⟨mx, b1, fun i z hz => m2 z (List.mem_of_getElem? hz), fun i z hi hz => by
    have := m2 z (List.mem_of_getElem? hz)
    have := b2 i z hi hz
    omega⟩
  have ht : MinAt (loadsL rs n) t := ⟨mn, t1, fun i z hz => k2 z (List.mem_of_getElem? hz), fun i z hi hz => by
    have := k2 z (List.mem_of_getElem? hz)
    have := t2 i z hi hz
    omega⟩
  have h := h b t hb ht
  obtain ⟨hb1, hb2⟩ := loads_at b1
  obtain ⟨ht1, ht2⟩ := loads_at t1
  unfold evenL at h
  walk_at "q"
  rw [pick_mapN b1]
  walk_at "q"
  rw [pick_mapN t1]
  walk_at "q"
  refine q_ifP (fun c => ?_) fun c => ?_
  · rw [if_pos (by omega)] at h
    walk_at "q"
    exact Rt.now h
  · rw [if_neg (by omega)] at h
    walk_at "q"
    refine itS_of repW (fun done xs ρ μ' => done ++ xs = rest ∧ (∀ r ∈ done, r.x ≠ (b : Int)) ∧ μ' = μ ∧ ∃ x5 x6 x7 x8 x9, ρ = [some (.lst (rs.map repW)), some (.lst (rest.map repW)), some (.int n), some (.lst ((loadsL rs n).map W.int)), some (.int b), some (.int t), x5, x6, x7, x8, x9]) rest [] ⟨rfl, (by intro r hr; cases hr), rfl, _, _, _, _, _, rfl⟩ ?_ ?_
    · rintro done r xs ρ μ' ⟨e, hd, rfl, x5, x6, x7, x8, x9, rfl⟩
      refine ⟨rfl, fun K hK => ?_⟩
      walk_at "q"
      refine q_ifP (fun c2 => ?_) fun c2 => ?_
      · have ef : rest.find? (fun r => decide (r.x = (b : Int))) = some r := by
          rw [← e]
          rw [List.find?_append, show done.find? (fun r => decide (r.x = (b : Int))) = none from List.find?_eq_none.mpr fun x hx => by
            have := hd x hx
            simpa using this]
          simp [c2]
        rw [ef] at h
        walk_at "q"
        exact Rt.now h
      · walk_at "q"
        refine hK _ _ ⟨by rw [← e]; simp, ?_, rfl, _, _, _, _, _, rfl⟩
        intro x hx
        rcases List.mem_append.mp hx with q | q
        · exact hd x q
        · rcases List.mem_singleton.mp q with rfl
          exact c2
    · rintro done ρ μ' ⟨e, hd, rfl, x5, x6, x7, x8, x9, rfl⟩
      refine ⟨rfl, ?_⟩
      have ef : rest.find? (fun r => decide (r.x = (b : Int))) = none := List.find?_eq_none.mpr fun x hx => by
        rw [← e, List.append_nil] at hx
        have := hd x hx
        simpa using this
      rw [ef] at h
      walk_at "q"
      exact Rt.now h
/-! plan itself -/
theorem jn_len : ∀ rs : List Rep, (jn rs).1.length ≤ rs.length ∧ (jn rs).2.length ≤ rs.length
  | [] => ⟨Nat.le_refl _, Nat.le_refl _⟩
  | [a] => ⟨Nat.zero_le _, Nat.le_refl _⟩
  | a :: b :: t => by
    have h1 := jn_len t
    have h2 := jn_len (b :: t)
    cases c : togB a b with
    | true =>
      rw [jn_yes c]
      simp only [List.length_cons] at *
      omega
    | false =>
      rw [jn_no c]
      simp only [List.length_cons] at *
      omega
theorem even_len (rs rest : List Rep) (n b t : Nat) : (evenL rs rest n b t).length ≤ 1 := by
  unfold evenL
  split
  · exact Nat.zero_le _
  · split
    · exact Nat.le_refl _
    · exact Nat.zero_le _
end
end Q
namespace Q
open PySem L2
local macro_rules | `(tactic| walk_at "mu") => `(tactic| (repeat (first | exact mset_same | assumption | (rw [mset_ne]; rotate_left; (first | assumption | exact Ne.symm (by assumption))))))
local macro_rules | `(tactic| walk_at "lk") => `(tactic| (repeat (first | exact lk_hit | exact lk_nil | refine lk_skip (by decide +kernel) ?_)))
local macro_rules | `(tactic| walk_at "pf") => `(tactic| (repeat (first | rw [pf_nil] | rw [pf_hit] | (rw [pf_skip]; rotate_left; (focus (decide +kernel; done))))))
local macro_rules | `(tactic| walk_at "q") => `(tactic| ((with_reducible conv => whnf); repeat (first
  | (with_reducible refine q_t (by assumption) ?_; with_reducible conv => whnf)
  | (with_reducible refine q_f (by assumption) ?_; with_reducible conv => whnf)
  | (with_reducible refine q_t (by with_reducible rfl) ?_; with_reducible conv => whnf)
  | (with_reducible refine q_f (by with_reducible rfl) ?_; with_reducible conv => whnf)
  | (with_reducible refine q_t (by decide) ?_; with_reducible conv => whnf)
  | (with_reducible refine q_f (by decide) ?_; with_reducible conv => whnf)
  | (with_reducible refine q_t (decide_eq_true (by omega)) ?_; with_reducible conv => whnf)
  | (with_reducible refine q_f (decide_eq_false (by omega)) ?_; with_reducible conv => whnf)
  | (with_reducible refine q_f (q_nn (by omega)) ?_; with_reducible conv => whnf)
  | (with_reducible refine q_t (q_nt (by omega)) ?_; with_reducible conv => whnf)
  | (with_reducible refine q_len (by with_unfolding_all rfl) ?_; with_reducible conv => whnf)
  | (with_reducible refine q_leq (by with_unfolding_all rfl) ?_; with_reducible conv => whnf)
  | (with_reducible refine q_and (by first | assumption | exact True.intro | omega | (simp only [List.length_map, List.length_append, List.length_cons, List.length_nil]; omega) | decide) ?_; with_reducible conv => whnf)
  | (with_reducible refine q_le (by with_unfolding_all rfl) ?_; with_reducible conv => whnf)
  | (with_reducible refine q_and tyL_lst ?_; with_reducible conv => whnf)
  | (with_reducible refine q_and tyL_rol ?_; with_reducible conv => whnf)
  | (with_reducible refine q_and (tyL_ref (by walk_at "mu")) ?_; with_reducible conv => whnf)
  | (with_reducible refine q_and (tyD_ref (by walk_at "mu")) ?_; with_reducible conv => whnf)
  | (with_reducible refine q_and (rdD_ref (by walk_at "mu")) ?_; with_reducible conv => whnf)
  | (rw [pick_c0]; with_reducible conv => whnf)
  | (rw [pick_c1]; with_reducible conv => whnf)
  | (rw [pick_c2]; with_reducible conv => whnf)
  | (rw [pick_c3]; with_reducible conv => whnf)
  | (rw [pick_c4]; with_reducible conv => whnf)
  | (rw [pick_c5]; with_reducible conv => whnf)
  | (rw [mset_same]; with_reducible conv => whnf)
  | (rw [mset_ne (by assumption)]; with_reducible conv => whnf)
  | (rw [mset_ne]; rotate_left; (first | assumption | exact Ne.symm (by assumption)); with_reducible conv => whnf)
  | (rw [rdL_ref]; rotate_left; (focus (walk_at "mu"; done)); with_reducible conv => whnf)
  | (rw [rdL_refD]; rotate_left; (focus (walk_at "mu"; done)); with_reducible conv => whnf)
  | (rw [rdD_refD]; rotate_left; (focus (walk_at "mu"; done)); with_reducible conv => whnf)
  | (rw [rdM_ref]; rotate_left; (focus (walk_at "mu"; done)); with_reducible conv => whnf)
  | (rw [rdL_refK]; rotate_left; (focus (walk_at "mu"; done)); with_reducible conv => whnf)
  | (rw [rdD_refK]; rotate_left; (focus (walk_at "mu"; done)); with_reducible conv => whnf)
  | (rw [tyW_refL]; rotate_left; (focus (walk_at "mu"; done)); with_reducible conv => whnf)
  | (rw [tyW_refD]; rotate_left; (focus (walk_at "mu"; done)); with_reducible conv => whnf)
  | (rw [drf_ref]; rotate_left; (focus (walk_at "mu"; done)); with_reducible conv => whnf)
  | ((conv => (arg 2; tactic' => (walk_at "mu"; done))); with_reducible conv => whnf)
  | (with_reducible refine q_and (Eq.refl _) ?_; with_reducible conv => whnf)
  | (with_reducible refine q_and (MulO.r (by decide)) ?_; with_reducible conv => whnf)
  | (with_reducible refine q_and (MulO.l (by decide)) ?_; with_reducible conv => whnf)
  | (with_reducible refine q_and (MulO.r (by omega)) ?_; with_reducible conv => whnf)
  | (with_reducible refine q_and (MulO.l (by omega)) ?_; with_reducible conv => whnf)
  | (with_reducible refine q_pow (by decide) ?_; with_reducible conv => whnf)
  | (with_reducible refine q_nisT (by first | assumption | with_reducible rfl) ?_; with_reducible conv => whnf)
  | (with_reducible refine q_nisF (by first | assumption | with_reducible rfl) ?_; with_reducible conv => whnf)
  | (with_reducible refine q_eqI ?_; with_reducible conv => whnf)
  | (with_reducible refine q_eqS ?_; with_reducible conv => whnf)
  | (with_reducible refine q_eqB ?_; with_reducible conv => whnf)
  | (with_reducible refine q_neI ?_; with_reducible conv => whnf)
  | (with_reducible refine q_neS ?_; with_reducible conv => whnf)
  | (with_reducible refine q_neB ?_; with_reducible conv => whnf)
  | (with_reducible refine q_memc ?_; with_reducible conv => whnf)
  | (with_reducible refine q_lkn (by walk_at "lk") ?_; with_reducible conv => whnf)
  | (with_reducible refine q_tix (by walk_at "lk"; done) ?_; with_reducible conv => whnf)
  | (with_reducible refine q_tin ?_; with_reducible conv => whnf)
  | (rw [pf_hit]; with_reducible conv => whnf)
  | (rw [pf_skip]; rotate_left; (focus (decide +kernel; done)); with_reducible conv => whnf)
  | (rw [lk_hit]; with_reducible conv => whnf)
  | (rw [lk_skip1]; rotate_left; (focus (decide +kernel; done)); with_reducible conv => whnf))))
/-! k50: the table, its rows, the orders of a turn -/
structure Ro where
  lo : Str
  hi : Option Str
  ep : Int
  x : Int
  held : List Str
@[reducible] def rowW (r : Ro) : W := .lst [.str r.lo, oS r.hi, .int r.ep, .int r.x, .lst (r.held.map W.str)]
def midOf (ks : List Str) : Str := if 2 ≤ ks.length then ks.getD (ks.length / 2) "" else ""
def rep (r : Ro) : Rep := ⟨r.lo, r.hi, r.ep, r.x, (r.held.length : Nat), midOf r.held⟩
theorem s_nlt {x y z : Str} (h1 : sLt x y = true) (h2 : sLt z y = false) : sLt x z = true := by
  rcases So.sLt_tri y z with q | q | q
  · exact So.sLt_tr h1 q
  · rw [← q]; exact h1
  · rw [q] at h2; cases h2
theorem s_ltn {x y z : Str} (h1 : sLt y x = false) (h2 : sLt y z = true) : sLt x z = true := by
  rcases So.sLt_tri x y with q | q | q
  · exact So.sLt_tr q h2
  · rw [q]; exact h2
  · rw [q] at h1; cases h1
def Ris (ks : List Str) : Prop := ks.Pairwise fun a b => sLt a b = true
structure RoOk (n : Nat) (r : Ro) : Prop where
  ris : Ris r.held
  key : ∀ k ∈ r.held, isKeyB k = true
  low : ∀ k ∈ r.held, sLt k r.lo = false
  hig : ∀ k ∈ r.held, belowB k r.hi = true
  x0 : 0 ≤ r.x
  xn : r.x < n
  rng : ∀ y, r.hi = some y → sLt r.lo y = true
  z : r.lo.length ≤ 8
def Ch (n : Nat) : Option Str → List Ro → Prop
  | o, [] => o = none
  | o, r :: t => o = some r.lo ∧ RoOk n r ∧ Ch n r.hi t
variable {n : Nat}
theorem Ch.ok : ∀ {T : List Ro} {o : Option Str}, Ch n o T → ∀ r ∈ T, RoOk n r
  | [], _, _, r, hr => nomatch hr
  | a :: t, o, h, r, hr => by
    rcases List.mem_cons.mp hr with q | q
    · rw [q]; exact h.2.1
    · exact Ch.ok h.2.2 r q
theorem Ch.from : ∀ {T : List Ro} {m : Str}, Ch n (some m) T → ∀ r ∈ T, r.lo = m ∨ sLt m r.lo = true
  | [], _, _, r, hr => nomatch hr
  | a :: t, m, h, r, hr => by
    have e : m = a.lo := Option.some.inj h.1
    rcases List.mem_cons.mp hr with q | q
    · rw [q]; exact .inl e.symm
    · have h3 := h.2.2
      cases eh : a.hi with
      | none =>
        rw [eh] at h3
        cases t with
        | nil => cases q
        | cons b t => cases h3.1
      | some y =>
        rw [eh] at h3
        have l1 := h.2.1.rng y eh
        rw [← e] at l1
        rcases Ch.from h3 r q with g | g
        · rw [g]; exact .inr l1
        · exact .inr (So.sLt_tr l1 g)
theorem Ch.after {T : List Ro} {a : Ro} {o : Option Str} (h : Ch n o (a :: T)) : ∀ r ∈ T, sLt a.lo r.lo = true := fun r hr => by
  have h3 := h.2.2
  cases eh : a.hi with
  | none =>
    rw [eh] at h3
    cases T with
    | nil => cases hr
    | cons b t => cases h3.1
  | some y =>
    rw [eh] at h3
    have l1 := h.2.1.rng y eh
    rcases Ch.from h3 r hr with g | g
    · rw [g]; exact l1
    · exact So.sLt_tr l1 g
theorem Ch.lows : ∀ {T : List Ro} {o : Option Str}, Ch n o T → T.Pairwise fun a b => sLt a.lo b.lo = true
  | [], _, _ => .nil
  | a :: t, o, h => .cons h.after (Ch.lows h.2.2)
theorem Ch.split : ∀ {a q : List Ro} {o : Option Str}, Ch n o (a ++ q) → ∃ m, Ch n m q ∧ ∀ q', Ch n m q' → Ch n o (a ++ q')
  | [], q, o, h => ⟨o, h, fun _ h' => h'⟩
  | r :: a, q, o, h => by
    obtain ⟨m, h1, h2⟩ := Ch.split (a := a) h.2.2
    exact ⟨m, h1, fun q' h' => ⟨h.1, h.2.1, h2 q' h'⟩⟩
theorem lo_ne {x y : Str} (h : sLt x y = true) : x ≠ y := fun e => by
  rw [e, So.sLt_irr] at h
  cases h
/-- rows with the same low are the same row, at the same place -/
theorem Ch.same {T : List Ro} {o : Option Str} (h : Ch n o T) {i j : Nat} {r s : Ro} (hi : T[i]? = some r) (hj : T[j]? = some s) (e : r.lo = s.lo) : i = j := by
  have pw := h.lows
  rw [List.pairwise_iff_getElem] at pw
  obtain ⟨li, gi⟩ := List.getElem?_eq_some_iff.mp hi
  obtain ⟨lj, gj⟩ := List.getElem?_eq_some_iff.mp hj
  rcases Nat.lt_trichotomy i j with q | q | q
  · have := pw i j li lj q
    rw [gi, gj] at this
    exact absurd e (lo_ne this)
  · exact q
  · have := pw j i lj li q
    rw [gi, gj] at this
    exact absurd e.symm (lo_ne this)
theorem Ch.nodup {T : List Ro} {o : Option Str} (h : Ch n o T) : (T.map rep).Nodup := by
  unfold List.Nodup
  rw [List.pairwise_map]
  exact h.lows.imp fun q e => lo_ne q (congrArg Rep.lo e)
/-- the row behind a row that ends at its low stands next to it -/
theorem Ch.next {a q : List Ro} {r s : Ro} {o : Option Str} (h : Ch n o (a ++ r :: q)) (hs : s ∈ a ++ r :: q) (e : r.hi = some s.lo) : ∃ p, q = s :: p := by
  obtain ⟨m, h1, -⟩ := h.split
  have h3 := h1.2.2
  rw [e] at h3
  cases q with
  | nil => cases h3
  | cons b p =>
    have eb : b.lo = s.lo := (Option.some.inj h3.1).symm
    obtain ⟨j, hj⟩ := List.getElem?_of_mem hs
    have hb : (a ++ r :: b :: p)[a.length + 1]? = some b := by
      rw [List.getElem?_append_right (by omega)]
      simp
    have := h.same hb hj eb
    subst this
    rw [hb] at hj
    cases hj
    exact ⟨p, rfl⟩
/-! orders -/
inductive Od where
  | spl (r : Rep)
  | jon (a b : Rep)
  | mov (r : Rep) (t : Nat)
@[reducible] def Od.w : Od → W
  | .spl r => splitW r
  | .jon a b => joinW a b
  | .mov r t => moveW r t
def Od.rows : Od → List Rep
  | .spl r => [r]
  | .jon a b => [a, b]
  | .mov r _ => [r]
def jp : List Rep → List (Rep × Rep)
  | a :: b :: t => if togB a b = true then (a, b) :: jp t else jp (b :: t)
  | [_] => []
  | [] => []
theorem jn_jp : ∀ rs : List Rep, (jn rs).1 = (jp rs).map (fun p => joinW p.1 p.2) ∧ (∀ p ∈ jp rs, togB p.1 p.2 = true) ∧ ((jp rs).flatMap (fun p => [p.1, p.2]) ++ (jn rs).2).Perm rs
  | [] => ⟨rfl, (fun p hp => nomatch hp), .refl _⟩
  | [a] => ⟨rfl, (fun p hp => nomatch hp), .refl _⟩
  | a :: b :: t => by
    cases c : togB a b with
    | true =>
      obtain ⟨h1, h2, h3⟩ := jn_jp t
      rw [jn_yes c, show jp (a :: b :: t) = (a, b) :: jp t by rw [jp, if_pos c]]
      refine ⟨by rw [h1]; rfl, fun p hp => ?_, ?_⟩
      · rcases List.mem_cons.mp hp with q | q
        · rw [q]; exact c
        · exact h2 p q
      · exact (h3.cons b).cons a
    | false =>
      obtain ⟨h1, h2, h3⟩ := jn_jp (b :: t)
      rw [jn_no c, show jp (a :: b :: t) = jp (b :: t) by rw [jp, if_neg (by rw [c]; exact Bool.false_ne_true)]]
      exact ⟨h1, h2, List.perm_middle.trans (h3.cons a)⟩
def movO (rs rest : List Rep) (b t : Nat) : List Od := if loadN rs (b : Int) < loadN rs (t : Int) + 2 then [] else match rest.find? fun r => decide (r.x = (b : Int)) with
  | some r => [.mov r t]
  | none => []
def ords (rs : List Rep) (b t : Nat) : List Od :=
  (rs.filter largeB).map .spl ++ ((jp (rs.filter fun r => !largeB r)).map (fun p => .jon p.1 p.2) ++ movO rs (jn (rs.filter fun r => !largeB r)).2 b t)
theorem movO_w (rs rest : List Rep) (n b t : Nat) : evenL rs rest n b t = (movO rs rest b t).map Od.w := by
  unfold evenL movO
  split
  · rfl
  · cases rest.find? (fun r => decide (r.x = (b : Int))) <;> rfl
def Od.Val (rs : List Rep) (n : Nat) : Od → Prop
  | .spl r => largeB r = true
  | .jon a b => togB a b = true
  | .mov r t => t < n ∧ (loadN rs (t : Int) : Int) + 2 ≤ loadN rs r.x
theorem movO_rows {rs rest : List Rep} {b t : Nat} : ((movO rs rest b t).flatMap Od.rows).Sublist rest ∧ ∀ o ∈ movO rs rest b t, ∀ n, t < n → o.Val rs n := by
  unfold movO
  split
  · exact ⟨List.nil_sublist _, fun o ho => nomatch ho⟩
  · rename_i c
    split
    · rename_i r e
      refine ⟨?_, fun o ho m hm => ?_⟩
      · exact List.singleton_sublist.mpr (List.mem_of_find?_eq_some e)
      · rcases List.mem_singleton.mp ho with rfl
        have := List.find?_some e
        have ex : r.x = (b : Int) := of_decide_eq_true this
        refine ⟨hm, ?_⟩
        rw [ex]
        omega
    · exact ⟨List.nil_sublist _, fun o ho => nomatch ho⟩
theorem ords_nd {rs : List Rep} (h : rs.Nodup) (b t : Nat) : ((ords rs b t).flatMap Od.rows).Nodup ∧ ∀ r ∈ (ords rs b t).flatMap Od.rows, r ∈ rs := by
  obtain ⟨-, -, h3⟩ := jn_jp (rs.filter fun r => !largeB r)
  have e1 : (ords rs b t).flatMap Od.rows = rs.filter largeB ++ ((jp (rs.filter fun r => !largeB r)).flatMap (fun p => [p.1, p.2]) ++ (movO rs (jn (rs.filter fun r => !largeB r)).2 b t).flatMap Od.rows) := by
    unfold ords
    rw [List.flatMap_append, List.flatMap_append, List.flatMap_map, List.flatMap_map]
    congr 1
    · induction rs.filter largeB with
      | nil => rfl
      | cons a l ih => rw [List.flatMap_cons, ih]; rfl
  have s : ((ords rs b t).flatMap Od.rows).Sublist (rs.filter largeB ++ ((jp (rs.filter fun r => !largeB r)).flatMap (fun p => [p.1, p.2]) ++ (jn (rs.filter fun r => !largeB r)).2)) := by
    rw [e1]
    exact (List.Sublist.refl _).append ((List.Sublist.refl _).append movO_rows.1)
  have p : (rs.filter largeB ++ ((jp (rs.filter fun r => !largeB r)).flatMap (fun p => [p.1, p.2]) ++ (jn (rs.filter fun r => !largeB r)).2)).Perm rs := (h3.append_left _).trans (List.filter_append_perm _ _)
  exact ⟨(p.nodup_iff.mpr h).sublist s, fun r hr => p.mem_iff.mp (s.subset hr)⟩
theorem ords_val {rs : List Rep} {n b t : Nat} (ht : t < n) : ∀ o ∈ ords rs b t, o.Val rs n := fun o ho => by
  obtain ⟨-, h2, -⟩ := jn_jp (rs.filter fun r => !largeB r)
  unfold ords at ho
  rcases List.mem_append.mp ho with q | q
  · obtain ⟨r, hr, rfl⟩ := List.mem_map.mp q
    exact (List.mem_filter.mp hr).2
  · rcases List.mem_append.mp q with q | q
    · obtain ⟨r, hr, rfl⟩ := List.mem_map.mp q
      exact h2 r hr
    · exact movO_rows.2 o q n ht
/-- the move stands last -/
def Last : List Od → Prop
  | [] => True
  | .mov _ _ :: l => l = []
  | _ :: l => Last l
theorem Last.app : ∀ {a b : List Od}, (∀ o ∈ a, ∀ r t, o ≠ .mov r t) → Last b → Last (a ++ b)
  | [], b, _, h => h
  | .spl r :: a, b, h1, h => Last.app (a := a) (fun o ho => h1 o (List.mem_cons_of_mem _ ho)) h
  | .jon r s :: a, b, h1, h => Last.app (a := a) (fun o ho => h1 o (List.mem_cons_of_mem _ ho)) h
  | .mov r t :: a, b, h1, h => absurd rfl (h1 _ List.mem_cons_self r t)
theorem ords_last (rs : List Rep) (b t : Nat) : Last (ords rs b t) := by
  unfold ords
  refine Last.app (fun o ho r t => ?_) (Last.app (fun o ho r t => ?_) ?_)
  · obtain ⟨s, -, rfl⟩ := List.mem_map.mp ho
    exact fun e => nomatch e
  · obtain ⟨s, -, rfl⟩ := List.mem_map.mp ho
    exact fun e => nomatch e
  · unfold movO
    split
    · trivial
    · split
      · rfl
      · trivial
def mvOf : List Od → Option (Int × Nat)
  | [] => none
  | .mov r t :: _ => some (r.x, t)
  | _ :: l => mvOf l
end Q
namespace Q
open PySem L2
local macro_rules | `(tactic| walk_at "mu") => `(tactic| (repeat (first | exact mset_same | assumption | (rw [mset_ne]; rotate_left; (first | assumption | exact Ne.symm (by assumption))))))
local macro_rules | `(tactic| walk_at "lk") => `(tactic| (repeat (first | exact lk_hit | exact lk_nil | refine lk_skip (by decide +kernel) ?_)))
local macro_rules | `(tactic| walk_at "pf") => `(tactic| (repeat (first | rw [pf_nil] | rw [pf_hit] | (rw [pf_skip]; rotate_left; (focus (decide +kernel; done))))))
local macro_rules | `(tactic| walk_at "q") => `(tactic| ((with_reducible conv => whnf); repeat (first
  | (with_reducible refine q_t (by assumption) ?_; with_reducible conv => whnf)
  | (with_reducible refine q_f (by assumption) ?_; with_reducible conv => whnf)
  | (with_reducible refine q_t (by with_reducible rfl) ?_; with_reducible conv => whnf)
  | (with_reducible refine q_f (by with_reducible rfl) ?_; with_reducible conv => whnf)
  | (with_reducible refine q_t (by decide) ?_; with_reducible conv => whnf)
  | (with_reducible refine q_f (by decide) ?_; with_reducible conv => whnf)
  | (with_reducible refine q_t (decide_eq_true (by omega)) ?_; with_reducible conv => whnf)
  | (with_reducible refine q_f (decide_eq_false (by omega)) ?_; with_reducible conv => whnf)
  | (with_reducible refine q_f (q_nn (by omega)) ?_; with_reducible conv => whnf)
  | (with_reducible refine q_t (q_nt (by omega)) ?_; with_reducible conv => whnf)
  | (with_reducible refine q_len (by with_unfolding_all rfl) ?_; with_reducible conv => whnf)
  | (with_reducible refine q_leq (by with_unfolding_all rfl) ?_; with_reducible conv => whnf)
  | (with_reducible refine q_and (by first | assumption | exact True.intro | omega | (simp only [List.length_map, List.length_append, List.length_cons, List.length_nil]; omega) | decide) ?_; with_reducible conv => whnf)
  | (with_reducible refine q_le (by with_unfolding_all rfl) ?_; with_reducible conv => whnf)
  | (with_reducible refine q_and tyL_lst ?_; with_reducible conv => whnf)
  | (with_reducible refine q_and tyL_rol ?_; with_reducible conv => whnf)
  | (with_reducible refine q_and (tyL_ref (by walk_at "mu")) ?_; with_reducible conv => whnf)
  | (with_reducible refine q_and (tyD_ref (by walk_at "mu")) ?_; with_reducible conv => whnf)
  | (with_reducible refine q_and (rdD_ref (by walk_at "mu")) ?_; with_reducible conv => whnf)
  | (rw [pick_c0]; with_reducible conv => whnf)
  | (rw [pick_c1]; with_reducible conv => whnf)
  | (rw [pick_c2]; with_reducible conv => whnf)
  | (rw [pick_c3]; with_reducible conv => whnf)
  | (rw [pick_c4]; with_reducible conv => whnf)
  | (rw [pick_c5]; with_reducible conv => whnf)
  | (rw [mset_same]; with_reducible conv => whnf)
  | (rw [mset_ne (by assumption)]; with_reducible conv => whnf)
  | (rw [mset_ne]; rotate_left; (first | assumption | exact Ne.symm (by assumption)); with_reducible conv => whnf)
  | (rw [rdL_ref]; rotate_left; (focus (walk_at "mu"; done)); with_reducible conv => whnf)
  | (rw [rdL_refD]; rotate_left; (focus (walk_at "mu"; done)); with_reducible conv => whnf)
  | (rw [rdD_refD]; rotate_left; (focus (walk_at "mu"; done)); with_reducible conv => whnf)
  | (rw [rdM_ref]; rotate_left; (focus (walk_at "mu"; done)); with_reducible conv => whnf)
  | (rw [rdL_refK]; rotate_left; (focus (walk_at "mu"; done)); with_reducible conv => whnf)
  | (rw [rdD_refK]; rotate_left; (focus (walk_at "mu"; done)); with_reducible conv => whnf)
  | (rw [tyW_refL]; rotate_left; (focus (walk_at "mu"; done)); with_reducible conv => whnf)
  | (rw [tyW_refD]; rotate_left; (focus (walk_at "mu"; done)); with_reducible conv => whnf)
  | (rw [drf_ref]; rotate_left; (focus (walk_at "mu"; done)); with_reducible conv => whnf)
  | ((conv => (arg 2; tactic' => (walk_at "mu"; done))); with_reducible conv => whnf)
  | (with_reducible refine q_and (Eq.refl _) ?_; with_reducible conv => whnf)
  | (with_reducible refine q_and (MulO.r (by decide)) ?_; with_reducible conv => whnf)
  | (with_reducible refine q_and (MulO.l (by decide)) ?_; with_reducible conv => whnf)
  | (with_reducible refine q_and (MulO.r (by omega)) ?_; with_reducible conv => whnf)
  | (with_reducible refine q_and (MulO.l (by omega)) ?_; with_reducible conv => whnf)
  | (with_reducible refine q_pow (by decide) ?_; with_reducible conv => whnf)
  | (with_reducible refine q_nisT (by first | assumption | with_reducible rfl) ?_; with_reducible conv => whnf)
  | (with_reducible refine q_nisF (by first | assumption | with_reducible rfl) ?_; with_reducible conv => whnf)
  | (with_reducible refine q_eqI ?_; with_reducible conv => whnf)
  | (with_reducible refine q_eqS ?_; with_reducible conv => whnf)
  | (with_reducible refine q_eqB ?_; with_reducible conv => whnf)
  | (with_reducible refine q_neI ?_; with_reducible conv => whnf)
  | (with_reducible refine q_neS ?_; with_reducible conv => whnf)
  | (with_reducible refine q_neB ?_; with_reducible conv => whnf)
  | (with_reducible refine q_memc ?_; with_reducible conv => whnf)
  | (with_reducible refine q_lkn (by walk_at "lk") ?_; with_reducible conv => whnf)
  | (with_reducible refine q_tix (by walk_at "lk"; done) ?_; with_reducible conv => whnf)
  | (with_reducible refine q_tin ?_; with_reducible conv => whnf)
  | (rw [pf_hit]; with_reducible conv => whnf)
  | (rw [pf_skip]; rotate_left; (focus (decide +kernel; done)); with_reducible conv => whnf)
  | (rw [lk_hit]; with_reducible conv => whnf)
  | (rw [lk_skip1]; rotate_left; (focus (decide +kernel; done)); with_reducible conv => whnf))))
/-! k50: the potential, and what each order does to it -/
def gS (k : Nat) : Nat := k / 4 - 1
def GT : List Ro → Nat
  | [] => 0
  | r :: t => gS r.held.length + GT t
def HT : List Ro → Nat
  | [] => 0
  | r :: t => r.held.length + HT t
def one (a b : Int) : Int := if a = b then 1 else 0
theorem one_y {a b : Int} (h : a = b) : one a b = 1 := if_pos h
theorem one_n {a b : Int} (h : a ≠ b) : one a b = 0 := if_neg h
theorem one_01 (a b : Int) : one a b = 0 ∨ one a b = 1 := by
  unfold one
  split
  · exact .inr rfl
  · exact .inl rfl
def ld : List Ro → Nat → Int
  | [], _ => 0
  | r :: t, s => ld t s + one r.x s
theorem ld_app : ∀ (a b : List Ro) (s : Nat), ld (a ++ b) s = ld a s + ld b s
  | [], b, s => by simp [ld]
  | r :: a, b, s => by
    rw [List.cons_append, ld, ld, ld_app a b s]
    omega
theorem GT_app : ∀ (a b : List Ro), GT (a ++ b) = GT a + GT b
  | [], b => by simp [GT]
  | r :: a, b => by
    rw [List.cons_append, GT, GT, GT_app a b]
    omega
theorem HT_app : ∀ (a b : List Ro), HT (a ++ b) = HT a + HT b
  | [], b => by simp [HT]
  | r :: a, b => by
    rw [List.cons_append, HT, HT, HT_app a b]
    omega
theorem ld_len : ∀ (T : List Ro) (s : Nat), 0 ≤ ld T s ∧ ld T s ≤ T.length
  | [], s => ⟨Int.le_refl _, Int.le_refl _⟩
  | r :: t, s => by
    have := ld_len t s
    rw [ld, List.length_cons]
    have := one_01 r.x s
    omega
theorem ld_load : ∀ (T : List Ro) (s : Nat), (loadN (T.map rep) (s : Int) : Int) = ld T s
  | [], s => rfl
  | r :: t, s => by
    rw [ld, ← ld_load t s, List.map_cons]
    unfold loadN
    rw [List.filter_cons]
    by_cases c : r.x = (s : Int)
    · rw [if_pos (by exact decide_eq_true c), one_y c, List.length_cons]
      omega
    · rw [if_neg (by exact fun q => c (of_decide_eq_true q)), one_n c]
      omega
theorem HT_at {a q : List Ro} {r : Ro} {k : Nat} (h : HT (a ++ r :: q) ≤ k) : r.held.length ≤ k := by
  rw [HT_app, HT] at h
  omega
def sq (f : Nat → Int) : Nat → Int
  | 0 => 0
  | n + 1 => sq f n + f n * f n
theorem sq_congr {f h : Nat → Int} : ∀ {n : Nat}, (∀ s, s < n → h s = f s) → sq h n = sq f n
  | 0, _ => rfl
  | n + 1, e => by rw [sq, sq, sq_congr fun s hs => e s (by omega), e n (by omega)]
theorem sq_nn (f : Nat → Int) : ∀ n, 0 ≤ sq f n
  | 0 => Int.le_refl _
  | n + 1 => by
    have := sq_nn f n
    have h2 : 0 ≤ f n * f n := by
      rcases Int.le_total 0 (f n) with q | q
      · exact Int.mul_nonneg q q
      · exact Int.mul_nonneg_of_nonpos_of_nonpos q q
    rw [sq]
    omega
theorem sq_up {f h : Nat → Int} {k : Nat} : ∀ {n : Nat}, k < n → (∀ s, h s = f s + one k s) → sq h n = sq f n + 2 * f k + 1
  | 0, hk, _ => by omega
  | n + 1, hk, e => by
    rw [sq, sq]
    by_cases c : k = n
    · subst c
      rw [sq_congr (f := f) (h := h) fun s hs => by rw [e s, one_n (by omega)]; omega, e k, one_y rfl, Int.add_mul, Int.mul_add]
      omega
    · rw [sq_up (by omega) e, e n, one_n (by omega), Int.add_zero]
      omega
theorem sq_dn {f h : Nat → Int} {k : Nat} {n : Nat} (hk : k < n) (e : ∀ s, h s = f s - one k s) : sq h n = sq f n - 2 * f k + 1 := by
  have := sq_up (f := h) (h := f) hk fun s => by rw [e s]; omega
  have e1 := e k
  rw [one_y rfl] at e1
  omega
theorem sq_ld {n : Nat} : ∀ {T : List Ro}, (∀ r ∈ T, 0 ≤ r.x ∧ r.x < n) → sq (ld T) n ≤ (T.length : Int) * T.length
  | [], _ => by
    have : ∀ n, sq (ld []) n = 0 := fun n => by
      induction n with
      | zero => rfl
      | succ n ih => rw [sq, ih]; rfl
    rw [this]
    exact Int.le_refl _
  | r :: t, h => by
    have ih := sq_ld (T := t) fun x hx => h x (List.mem_cons_of_mem _ hx)
    obtain ⟨h0, h1⟩ := h r List.mem_cons_self
    obtain ⟨k, hk⟩ := Int.eq_ofNat_of_zero_le h0
    rw [sq_up (f := ld t) (k := k) (by omega) fun s => by rw [ld, hk]]
    have := ld_len t k
    rw [List.length_cons]
    have e : (((t.length + 1 : Nat) : Int)) * ((t.length + 1 : Nat) : Int) = (t.length : Int) * t.length + 2 * t.length + 1 := by
      rw [show ((t.length + 1 : Nat) : Int) = (t.length : Int) + 1 by omega, Int.add_mul, Int.mul_add]
      omega
    rw [e]
    omega
def sh (f : Nat → Int) : Option (Int × Nat) → Nat → Int
  | none, s => f s
  | some (b, t), s => f s - one b s + one t s
theorem sh_add {f h : Nat → Int} {d : Nat → Int} (mv : Option (Int × Nat)) (e : ∀ s, h s = f s + d s) (s : Nat) : sh h mv s = sh f mv s + d s := by
  cases mv with
  | none => exact e s
  | some p =>
    rw [sh, sh, e s]
    omega
theorem sh_bd (f : Nat → Int) (mv : Option (Int × Nat)) (s : Nat) : f s - 1 ≤ sh f mv s ∧ sh f mv s ≤ f s + 1 := by
  cases mv with
  | none =>
    rw [sh]
    omega
  | some p =>
    rw [sh]
    have := one_01 p.1 s
    have := one_01 p.2 s
    omega
def pot (n : Nat) (T : List Ro) (mv : Option (Int × Nat)) : Int := sq (sh (ld T) mv) n + 45 * (GT T : Nat)
theorem pot_nn (n : Nat) (T : List Ro) (mv : Option (Int × Nat)) : 0 ≤ pot n T mv := by
  have := sq_nn (sh (ld T) mv) n
  unfold pot
  omega
structure Iv (n : Nat) (T : List Ro) : Prop where
  ch : Ch n (some "") T
  g : T.length + GT T ≤ 21
  h : HT T ≤ 40
theorem ris_cut {ks : List Str} (h : Ris ks) {m : Nat} {x : Str} (hx : ks[m]? = some x) : ks.filter (fun k => sLt k x) = ks.take m ∧ ks.filter (fun k => !sLt k x) = ks.drop m := by
  obtain ⟨hm, rfl⟩ := List.getElem?_eq_some_iff.mp hx
  have e : ks = ks.take m ++ ks.drop m := (List.take_append_drop m ks).symm
  have h1 : ∀ k ∈ ks.take m, sLt k ks[m] = true := fun k hk => by
    obtain ⟨i, hi, rfl⟩ := List.getElem_of_mem hk
    rw [List.length_take] at hi
    rw [List.getElem_take]
    exact List.pairwise_iff_getElem.mp h i m (by omega) hm (by omega)
  have h2 : ∀ k ∈ ks.drop m, sLt k ks[m] = false := fun k hk => by
    obtain ⟨i, hi, rfl⟩ := List.getElem_of_mem hk
    rw [List.length_drop] at hi
    rw [List.getElem_drop]
    by_cases c : i = 0
    · subst c
      exact So.sLt_irr _
    · exact So.sLt_as (List.pairwise_iff_getElem.mp h m (m + i) hm (by omega) (by omega))
  clear hx
  revert h1 h2
  generalize ks[m] = x
  intro h1 h2
  constructor
  · conv => lhs; rw [e]
    rw [List.filter_append, List.filter_eq_self.mpr h1, List.filter_eq_nil_iff.mpr fun k hk q => (by rw [h2 k hk] at q; cases q), List.append_nil]
  · conv => lhs; rw [e]
    rw [List.filter_append, List.filter_eq_nil_iff.mpr fun k hk q => (by rw [h1 k hk] at q; cases q), List.filter_eq_self.mpr fun k hk => (by rw [h2 k hk]; rfl), List.nil_append]
variable {n : Nat}
theorem large_mid {r : Ro} (hk : RoOk n r) (h : 8 < r.held.length) : r.held[r.held.length / 2]? = some (midOf r.held) ∧ isKeyB (midOf r.held) = true ∧ sLt r.lo (midOf r.held) = true ∧ belowB (midOf r.held) r.hi = true := by
  have hl : r.held.length / 2 < r.held.length := by omega
  have e : r.held[r.held.length / 2]? = some (midOf r.held) := by
    unfold midOf
    rw [if_pos (by omega), List.getD_eq_getElem?_getD, List.getElem?_eq_getElem hl]
    rfl
  have hm := List.mem_of_getElem? e
  refine ⟨e, hk.key _ hm, ?_, hk.hig _ hm⟩
  have h0 : 0 < r.held.length := by omega
  have m0 := List.getElem_mem h0
  have l0 := hk.low _ m0
  obtain ⟨g, gm⟩ := List.getElem?_eq_some_iff.mp e
  have := List.pairwise_iff_getElem.mp hk.ris 0 (r.held.length / 2) h0 hl (by omega)
  rw [gm] at this
  exact s_ltn l0 this
theorem large_iff {r : Ro} (hk : RoOk n r) : largeB (rep r) = decide (8 < r.held.length) := by
  by_cases c : 8 < r.held.length
  · obtain ⟨-, h1, h2, h3⟩ := large_mid hk c
    rw [decide_eq_true c]
    unfold largeB rep
    simp only
    rw [h1, h2, h3, decide_eq_true (by omega)]
    rfl
  · rw [decide_eq_false c]
    unfold largeB rep
    simp only
    rw [decide_eq_false (by omega)]
    rfl
theorem Ris.sub {a b : List Str} (h : Ris b) (s : a.Sublist b) : Ris a := List.Pairwise.sublist s h
/-! a split -/
def leftR (r : Ro) : Ro := ⟨r.lo, some (midOf r.held), r.ep + 1, r.x, r.held.filter fun k => sLt k (midOf r.held)⟩
def rightR (r : Ro) : Ro := ⟨midOf r.held, r.hi, r.ep + 1, r.x, r.held.filter fun k => !sLt k (midOf r.held)⟩
theorem Iv.split {a q : List Ro} {r : Ro} (h : Iv n (a ++ r :: q)) (hl : largeB (rep r) = true) : Iv n (a ++ leftR r :: rightR r :: q) ∧ ∀ mv, pot n (a ++ leftR r :: rightR r :: q) mv + 2 ≤ pot n (a ++ r :: q) mv := by
  obtain ⟨m, c1, c2⟩ := h.ch.split
  obtain ⟨rfl, ok, c3⟩ := c1
  have hy : 8 < r.held.length := by rwa [large_iff ok, decide_eq_true_iff] at hl
  obtain ⟨e, k1, k2, k3⟩ := large_mid ok hy
  obtain ⟨f1, f2⟩ := ris_cut ok.ris e
  have l1 : (leftR r).held.length = r.held.length / 2 := by
    unfold leftR
    simp only
    rw [f1, List.length_take]
    omega
  have l2 : (rightR r).held.length = r.held.length - r.held.length / 2 := by
    unfold rightR
    simp only
    rw [f2, List.length_drop]
  have eg : gS (leftR r).held.length + gS (rightR r).held.length + 1 ≤ gS r.held.length := by
    rw [l1, l2]
    unfold gS
    omega
  have hz : (midOf r.held).length ≤ 8 := by
    unfold isKeyB at k1
    have := of_decide_eq_true (Bool.and_eq_true_iff.mp k1).1
    exact this.2
  have hg := h.g
  have hh := h.h
  rw [GT_app, List.length_append, List.length_cons, GT] at hg
  rw [HT_app, HT] at hh
  refine ⟨⟨c2 _ ⟨rfl, ?_, rfl, ?_, c3⟩, ?_, ?_⟩, fun mv => ?_⟩
  · exact ⟨ok.ris.sub List.filter_sublist, fun k hk => ok.key k (List.mem_filter.mp hk).1, fun k hk => ok.low k (List.mem_filter.mp hk).1, fun k hk => (List.mem_filter.mp hk).2, ok.x0, ok.xn, fun y hy => by cases hy; exact k2, ok.z⟩
  · refine ⟨ok.ris.sub List.filter_sublist, fun k hk => ok.key k (List.mem_filter.mp hk).1, fun k hk => ?_, fun k hk => ok.hig k (List.mem_filter.mp hk).1, ok.x0, ok.xn, fun y hy => ?_, hz⟩
    · have := (List.mem_filter.mp hk).2
      exact Bool.not_eq_true' _ ▸ this
    · have hy' : r.hi = some y := hy
      rw [hy'] at k3
      exact k3
  · rw [GT_app, List.length_append, List.length_cons, List.length_cons, GT, GT]
    omega
  · rw [HT_app, HT, HT, l1, l2]
    omega
  · obtain ⟨k, hk⟩ := Int.eq_ofNat_of_zero_le ok.x0
    have hkn : k < n := by
      have := ok.xn
      omega
    unfold pot
    rw [sq_up (f := sh (ld (a ++ r :: q)) mv) (k := k) hkn (sh_add mv fun s => by
      rw [ld_app, ld_app, ld, ld, ld, show (leftR r).x = r.x from rfl, show (rightR r).x = r.x from rfl, hk]
      omega), GT_app, GT_app, GT, GT, GT]
    have b1 := (sh_bd (ld (a ++ r :: q)) mv k).2
    have b2 := (ld_len (a ++ r :: q) k).2
    rw [List.length_append, List.length_cons] at b2
    omega
/-! a join -/
def joinR (a b : Ro) (e : Int) : Ro := ⟨a.lo, b.hi, e, a.x, a.held ++ b.held⟩
theorem Iv.join {p q : List Ro} {a b : Ro} (e : Int) (h : Iv n (p ++ a :: b :: q)) (ht : togB (rep a) (rep b) = true) : Iv n (p ++ joinR a b e :: q) ∧ ∀ mv, pot n (p ++ joinR a b e :: q) mv ≤ pot n (p ++ a :: b :: q) mv ∧ (mv = none → pot n (p ++ joinR a b e :: q) mv + 2 ≤ pot n (p ++ a :: b :: q) mv) := by
  obtain ⟨m, c1, c2⟩ := h.ch.split
  obtain ⟨rfl, oa, eb, ob, c3⟩ := c1
  unfold togB rep at ht
  simp only [Bool.and_eq_true, decide_eq_true_eq] at ht
  obtain ⟨-, ex, es⟩ := ht
  have lab := oa.rng _ eb
  have eg : gS (joinR a b e).held.length = 0 := by
    unfold joinR gS
    simp only
    rw [List.length_append]
    omega
  have hg := h.g
  have hh := h.h
  rw [GT_app, List.length_append, List.length_cons, List.length_cons, GT, GT] at hg
  rw [HT_app, HT, HT] at hh
  have ag : gS a.held.length = 0 := by
    unfold gS
    omega
  have bg : gS b.held.length = 0 := by
    unfold gS
    omega
  refine ⟨⟨c2 _ ⟨rfl, ?_, c3⟩, ?_, ?_⟩, fun mv => ?_⟩
  · refine ⟨?_, fun k hk => ?_, fun k hk => ?_, fun k hk => ?_, oa.x0, oa.xn, fun y hy => So.sLt_tr lab (ob.rng y hy), oa.z⟩
    · refine List.pairwise_append.mpr ⟨oa.ris, ob.ris, fun x hx y hy => ?_⟩
      have h1 := oa.hig x hx
      rw [eb] at h1
      exact s_nlt h1 (ob.low y hy)
    · rcases List.mem_append.mp hk with q | q
      · exact oa.key k q
      · exact ob.key k q
    · rcases List.mem_append.mp hk with q | q
      · exact oa.low k q
      · have h1 := s_nlt lab (ob.low k q)
        exact So.sLt_as h1
    · show belowB k b.hi = true
      rcases List.mem_append.mp hk with q | q
      · have h1 := oa.hig k q
        rw [eb] at h1
        cases eh : b.hi with
        | none => rfl
        | some y => exact So.sLt_tr h1 (ob.rng y eh)
      · exact ob.hig k q
  · rw [GT_app, List.length_append, List.length_cons, GT, eg]
    omega
  · rw [HT_app, HT]
    unfold joinR
    simp only
    rw [List.length_append]
    omega
  · obtain ⟨k, hk⟩ := Int.eq_ofNat_of_zero_le oa.x0
    have hkn : k < n := by
      have := oa.xn
      omega
    unfold pot
    rw [sq_dn (f := sh (ld (p ++ a :: b :: q)) mv) (k := k) hkn (fun s => by
      rw [sh_add (f := ld (p ++ a :: b :: q)) (d := fun s => - one k s) mv (fun s => by
        rw [ld_app, ld_app, ld, ld, ld, show (joinR a b e).x = a.x from rfl, ← ex, hk]
        omega) s]
      omega), GT_app, GT_app, GT, GT, GT, eg, ag, bg]
    have b1 := (sh_bd (ld (p ++ a :: b :: q)) mv k).1
    have b2 : 2 ≤ ld (p ++ a :: b :: q) k := by
      rw [ld_app, ld, ld, one_y hk, one_y (ex ▸ hk)]
      have := (ld_len p k).1
      have := (ld_len q k).1
      omega
    refine ⟨by omega, fun em => ?_⟩
    subst em
    rw [sh]
    omega
/-! a move -/
def moveR (r : Ro) (t : Int) : Ro := ⟨r.lo, r.hi, r.ep + 1, t, r.held⟩
theorem Iv.move {p q : List Ro} {r : Ro} {t : Nat} (h : Iv n (p ++ r :: q)) (ht : t < n) : Iv n (p ++ moveR r t :: q) ∧ pot n (p ++ moveR r t :: q) none = pot n (p ++ r :: q) (some (r.x, t)) := by
  obtain ⟨m, c1, c2⟩ := h.ch.split
  obtain ⟨rfl, ok, c3⟩ := c1
  have hg := h.g
  have hh := h.h
  rw [GT_app, List.length_append, List.length_cons, GT] at hg
  rw [HT_app, HT] at hh
  refine ⟨⟨c2 _ ⟨rfl, ⟨ok.ris, ok.key, ok.low, ok.hig, Int.natCast_nonneg t, by show (t : Int) < n; omega, ok.rng, ok.z⟩, c3⟩, ?_, ?_⟩, ?_⟩
  · rw [GT_app, List.length_append, List.length_cons, GT]
    exact hg
  · rw [HT_app, HT]
    exact hh
  · unfold pot
    rw [GT_app, GT_app, GT, GT, show (moveR r t).held = r.held from rfl]
    congr 1
    refine sq_congr fun s _ => ?_
    rw [sh, sh, ld_app, ld_app, ld, ld, show (moveR r t).x = (t : Int) from rfl]
    omega
theorem pot_start {T : List Ro} {b t : Nat} (hb : b < n) (ht : t < n) (h : ld T t + 2 ≤ ld T b) : pot n T (some ((b : Int), t)) + 2 ≤ pot n T none := by
  unfold pot
  have hn : (b : Int) ≠ t := fun e => by
    have : b = t := by omega
    rw [this] at h
    omega
  rw [sq_up (f := fun s => ld T s - one b s) (h := sh (ld T) (some ((b : Int), t))) ht fun s => rfl, sq_dn (f := ld T) hb fun s => rfl, one_n hn, show sh (ld T) none = ld T from rfl]
  omega
theorem gS_sup (a b : Nat) : gS a + gS b ≤ gS (a + b) := by
  unfold gS
  omega
theorem GT_le : ∀ T : List Ro, GT T ≤ gS (HT T)
  | [] => Nat.zero_le _
  | r :: t => by
    have h1 := GT_le t
    have h2 := gS_sup r.held.length (HT t)
    rw [GT, HT]
    omega
theorem GT_40 {T : List Ro} (h : HT T ≤ 40) : GT T ≤ 9 := by
  have := GT_le T
  unfold gS at this
  omega
theorem pot_first {T : List Ro} (h : Ch n (some "") T) (hl : T.length ≤ 12) (hh : HT T ≤ 40) : pot n T none ≤ 549 := by
  have h1 := sq_ld (n := n) fun r hr => ⟨(h.ok r hr).x0, (h.ok r hr).xn⟩
  have h2 := GT_40 hh
  have h3 : (T.length : Int) * T.length ≤ 12 * 12 := Int.mul_le_mul (by omega) (by omega) (by omega) (by omega)
  unfold pot
  rw [show sh (ld T) none = ld T from rfl]
  omega
end Q
namespace Q
open PySem L2
local macro_rules | `(tactic| walk_at "mu") => `(tactic| (repeat (first | exact mset_same | assumption | (rw [mset_ne]; rotate_left; (first | assumption | exact Ne.symm (by assumption))))))
local macro_rules | `(tactic| walk_at "lk") => `(tactic| (repeat (first | exact lk_hit | exact lk_nil | refine lk_skip (by decide +kernel) ?_)))
local macro_rules | `(tactic| walk_at "pf") => `(tactic| (repeat (first | rw [pf_nil] | rw [pf_hit] | (rw [pf_skip]; rotate_left; (focus (decide +kernel; done))))))
local macro_rules | `(tactic| walk_at "q") => `(tactic| ((with_reducible conv => whnf); repeat (first
  | (with_reducible refine q_t (by assumption) ?_; with_reducible conv => whnf)
  | (with_reducible refine q_f (by assumption) ?_; with_reducible conv => whnf)
  | (with_reducible refine q_t (by with_reducible rfl) ?_; with_reducible conv => whnf)
  | (with_reducible refine q_f (by with_reducible rfl) ?_; with_reducible conv => whnf)
  | (with_reducible refine q_t (by decide) ?_; with_reducible conv => whnf)
  | (with_reducible refine q_f (by decide) ?_; with_reducible conv => whnf)
  | (with_reducible refine q_t (decide_eq_true (by omega)) ?_; with_reducible conv => whnf)
  | (with_reducible refine q_f (decide_eq_false (by omega)) ?_; with_reducible conv => whnf)
  | (with_reducible refine q_f (q_nn (by omega)) ?_; with_reducible conv => whnf)
  | (with_reducible refine q_t (q_nt (by omega)) ?_; with_reducible conv => whnf)
  | (with_reducible refine q_len (by with_unfolding_all rfl) ?_; with_reducible conv => whnf)
  | (with_reducible refine q_leq (by with_unfolding_all rfl) ?_; with_reducible conv => whnf)
  | (with_reducible refine q_and (by first | assumption | exact True.intro | omega | (simp only [List.length_map, List.length_append, List.length_cons, List.length_nil]; omega) | decide) ?_; with_reducible conv => whnf)
  | (with_reducible refine q_le (by with_unfolding_all rfl) ?_; with_reducible conv => whnf)
  | (with_reducible refine q_and tyL_lst ?_; with_reducible conv => whnf)
  | (with_reducible refine q_and tyL_rol ?_; with_reducible conv => whnf)
  | (with_reducible refine q_and (tyL_ref (by walk_at "mu")) ?_; with_reducible conv => whnf)
  | (with_reducible refine q_and (tyD_ref (by walk_at "mu")) ?_; with_reducible conv => whnf)
  | (with_reducible refine q_and (rdD_ref (by walk_at "mu")) ?_; with_reducible conv => whnf)
  | (rw [pick_c0]; with_reducible conv => whnf)
  | (rw [pick_c1]; with_reducible conv => whnf)
  | (rw [pick_c2]; with_reducible conv => whnf)
  | (rw [pick_c3]; with_reducible conv => whnf)
  | (rw [pick_c4]; with_reducible conv => whnf)
  | (rw [pick_c5]; with_reducible conv => whnf)
  | (rw [mset_same]; with_reducible conv => whnf)
  | (rw [mset_ne (by assumption)]; with_reducible conv => whnf)
  | (rw [mset_ne]; rotate_left; (first | assumption | exact Ne.symm (by assumption)); with_reducible conv => whnf)
  | (rw [rdL_ref]; rotate_left; (focus (walk_at "mu"; done)); with_reducible conv => whnf)
  | (rw [rdL_refD]; rotate_left; (focus (walk_at "mu"; done)); with_reducible conv => whnf)
  | (rw [rdD_refD]; rotate_left; (focus (walk_at "mu"; done)); with_reducible conv => whnf)
  | (rw [rdM_ref]; rotate_left; (focus (walk_at "mu"; done)); with_reducible conv => whnf)
  | (rw [rdL_refK]; rotate_left; (focus (walk_at "mu"; done)); with_reducible conv => whnf)
  | (rw [rdD_refK]; rotate_left; (focus (walk_at "mu"; done)); with_reducible conv => whnf)
  | (rw [tyW_refL]; rotate_left; (focus (walk_at "mu"; done)); with_reducible conv => whnf)
  | (rw [tyW_refD]; rotate_left; (focus (walk_at "mu"; done)); with_reducible conv => whnf)
  | (rw [drf_ref]; rotate_left; (focus (walk_at "mu"; done)); with_reducible conv => whnf)
  | ((conv => (arg 2; tactic' => (walk_at "mu"; done))); with_reducible conv => whnf)
  | (with_reducible refine q_and (Eq.refl _) ?_; with_reducible conv => whnf)
  | (with_reducible refine q_and (MulO.r (by decide)) ?_; with_reducible conv => whnf)
  | (with_reducible refine q_and (MulO.l (by decide)) ?_; with_reducible conv => whnf)
  | (with_reducible refine q_and (MulO.r (by omega)) ?_; with_reducible conv => whnf)
  | (with_reducible refine q_and (MulO.l (by omega)) ?_; with_reducible conv => whnf)
  | (with_reducible refine q_pow (by decide) ?_; with_reducible conv => whnf)
  | (with_reducible refine q_nisT (by first | assumption | with_reducible rfl) ?_; with_reducible conv => whnf)
  | (with_reducible refine q_nisF (by first | assumption | with_reducible rfl) ?_; with_reducible conv => whnf)
  | (with_reducible refine q_eqI ?_; with_reducible conv => whnf)
  | (with_reducible refine q_eqS ?_; with_reducible conv => whnf)
  | (with_reducible refine q_eqB ?_; with_reducible conv => whnf)
  | (with_reducible refine q_neI ?_; with_reducible conv => whnf)
  | (with_reducible refine q_neS ?_; with_reducible conv => whnf)
  | (with_reducible refine q_neB ?_; with_reducible conv => whnf)
  | (with_reducible refine q_memc ?_; with_reducible conv => whnf)
  | (with_reducible refine q_lkn (by walk_at "lk") ?_; with_reducible conv => whnf)
  | (with_reducible refine q_tix (by walk_at "lk"; done) ?_; with_reducible conv => whnf)
  | (with_reducible refine q_tin ?_; with_reducible conv => whnf)
  | (rw [pf_hit]; with_reducible conv => whnf)
  | (rw [pf_skip]; rotate_left; (focus (decide +kernel; done)); with_reducible conv => whnf)
  | (rw [lk_hit]; with_reducible conv => whnf)
  | (rw [lk_skip1]; rotate_left; (focus (decide +kernel; done)); with_reducible conv => whnf))))
/-! k50: pieces, the plan -/
@[reducible] def pcW (r : Ro) : W := .tup [.str r.lo, oS r.hi, repW (rep r)]
section
variable {μ : Mu} {P : Po} {X : Xo} {a : Addr} {n : Nat}
theorem mid_len {r : Ro} (h : RoOk n r) : (midOf r.held).length ≤ 8 := by
  unfold midOf
  split
  · rename_i c
    rw [List.getD_eq_getElem?_getD, List.getElem?_eq_getElem (by omega)]
    have := h.key _ (List.getElem_mem (show r.held.length / 2 < r.held.length by omega))
    unfold isKeyB at this
    exact (of_decide_eq_true (Bool.and_eq_true_iff.mp this).1).2
  · exact Nat.zero_le _
theorem sp_wholeT {r : Ro} (h : P (.bl true) μ) : f_is_whole [pcW r] μ P X := by
  rw [f_is_whole_eq]; unfold f_is_whole_B fDef
  refine ⟨rfl, ?_⟩
  walk_at "q"
  refine q_t (decide_eq_true rfl) ?_
  walk_at "q"
  refine sp_oS_eq ?_
  rw [show decide (r.hi = (rep r).hi) = true from decide_eq_true rfl]
  exact Rt.now h
theorem sp_pieces4 {T : List Ro} (ha : μ a = some (.ls (T.map rowW))) (hz : T.length ≤ 1000) (hh : HT T ≤ 40) (h : ∀ p, μ p = none → P (.ref p) (mset μ p (.ls (T.map pcW)))) : f__law_pieces_4 [.ref a] μ P X := by
  rw [f__law_pieces_4_eq]; unfold f__law_pieces_4_B fDef
  refine ⟨rfl, ?_⟩
  walk_at "q"
  intro p hp
  have hpa : p ≠ a := fun e => by
    rw [e, ha] at hp
    cases hp
  walk_at "q"
  refine itS_of rowW (fun done xs ρ μ' => done ++ xs = T ∧ μ' = mset μ p (.ls (done.map pcW)) ∧ ∃ x2 x3 x4 x5 x6 x7, ρ = [some (.ref a), some (.ref p), x2, x3, x4, x5, x6, x7]) T [] ⟨rfl, rfl, _, _, _, _, _, _, rfl⟩ ?_ ?_
  · rintro done r xs ρ μ' ⟨e, rfl, x2, x3, x4, x5, x6, x7, rfl⟩
    refine ⟨by rw [rdL_ref (by rw [mset_ne (Ne.symm hpa)]; exact ha)], fun K hK => ?_⟩
    have hr : r.held.length ≤ 40 := HT_at (a := done) (q := xs) (by rw [e]; exact hh)
    have hl : done.length ≤ 1000 := by
      rw [← e, List.length_append] at hz
      omega
    have fin : ∀ x7, K [some (.ref a), some (.ref p), some (.str r.lo), some (oS r.hi), some (.int r.ep), some (.int r.x), some (.lst (r.held.map W.str)), x7] (mset μ p (.ls (done.map pcW ++ [pcW r]))) := fun x7 => hK _ _ ⟨by rw [List.append_assoc]; exact e, by rw [List.map_append]; rfl, _, _, _, _, _, _, rfl⟩
    walk_at "q"
    refine q_jn (fun ρ' μ2 => μ2 = mset μ p (.ls (done.map pcW)) ∧ ρ' = [some (.ref a), some (.ref p), some (.str r.lo), some (oS r.hi), some (.int r.ep), some (.int r.x), some (.lst (r.held.map W.str)), some (.str (midOf r.held))]) (fun K2 hK2 => ?_) ?_
    · walk_at "q"
      rw [List.length_map]
      refine q_ifP (fun c => ?_) fun c => ?_
      · walk_at "q"
        rw [List.length_map, pick_nat (x := W.str (midOf r.held)) (by omega) (by
          unfold midOf
          rw [if_pos (by omega), List.getElem?_map, show ((r.held.length : Int) / 2).toNat = r.held.length / 2 by omega, List.getD_eq_getElem?_getD, List.getElem?_eq_getElem (by omega)]
          rfl)]
        walk_at "q"
        exact hK2 _ _ ⟨rfl, rfl⟩
      · walk_at "q"
        refine hK2 _ _ ⟨rfl, ?_⟩
        unfold midOf
        rw [if_neg (by omega)]
    · rintro _ _ ⟨rfl, rfl⟩
      walk_at "q"
      have fin := fin (some (.str (midOf r.held)))
      rw [mset_mset, List.length_map]
      exact fin
  · rintro done ρ μ' ⟨e, rfl, x2, x3, x4, x5, x6, x7, rfl⟩
    rw [List.append_nil] at e
    subst e
    refine ⟨by rw [rdL_ref (by rw [mset_ne (Ne.symm hpa)]; exact ha)], ?_⟩
    walk_at "q"
    exact Rt.now (h p hp)
theorem sp_planG {T : List Ro} (ha : μ a = some (.ls (T.map pcW))) (hz : T.length ≤ 1000) (hm : ∀ r ∈ T, (midOf r.held).length ≤ 100) (h0 : 0 < n) (hn : n ≤ 100)
    (h : ∀ b t, MaxAt (loadsL (T.map rep) n) b → MinAt (loadsL (T.map rep) n) t → P (.lst ((ords (T.map rep) b t).map Od.w)) μ) : f_plan [.ref a, .int n] μ P X := by
  rw [f_plan_eq]; unfold f_plan_B fDef
  refine ⟨rfl, ?_⟩
  walk_at "q"
  refine lcV_tm pcW (fun r => repW (rep r)) (fun _ => true) T (by omega) (fun μ' he => rdL_ref (he _ _ ha)) (fun r hr μ' he N Y hn hy => ?_) ?_
  · show gN 6 (pcW r) _ _ _
    walk_at "q"
    refine sp_wholeT ?_
    walk_at "q"
    exact hy rfl
  have er : (T.filter fun _ => true).map (fun r => repW (rep r)) = (T.map rep).map repW := by
    rw [List.filter_eq_self.mpr fun _ _ => rfl, List.map_map]
    rfl
  have hmd : ∀ r ∈ T.map rep, r.mid.length ≤ 100 := fun r hr => by
    obtain ⟨p, hp, rfl⟩ := List.mem_map.mp hr
    exact hm p hp
  rw [er]
  have hl2 : (T.map rep).length ≤ 1000 := by
    rw [List.length_map]
    exact hz
  revert h hmd hl2
  generalize T.map rep = reps
  intro h hmd hl2
  have hf1 : (reps.filter largeB).length ≤ reps.length := List.length_filter_le _ _
  have hf2 : (reps.filter fun r => !largeB r).length ≤ reps.length := List.length_filter_le _ _
  walk_at "q"
  refine lcV_tm repW splitW largeB reps (by omega) ?_ (fun r hr μ' he N Y hn hy => ?_) ?_
  · intros
    rfl
  · walk_at "q"
    refine sp__is_large (hmd r hr) ?_
    walk_at "q"
    refine q_if (fun c => ?_) fun c => ?_
    · walk_at "q"
      refine sp__split ?_
      exact hy c
    · walk_at "q"
      exact hn c
  walk_at "q"
  refine lcV_tm repW repW (fun r => !largeB r) reps (by omega) ?_ (fun r hr μ' he N Y hn hy => ?_) ?_
  · intros
    rfl
  · walk_at "q"
    refine sp__is_large (hmd r hr) ?_
    walk_at "q"
    refine q_if (fun c => ?_) fun c => ?_
    · walk_at "q"
      exact hy c
    · walk_at "q"
      exact hn c
  walk_at "q"
  refine sp__join_neighbours (by omega) ?_
  have hj := jn_len (reps.filter fun r => !largeB r)
  walk_at "q"
  refine sp__even_out (by omega) h0 hn fun b t hb ht => ?_
  have h := h b t hb ht
  have he := even_len reps (jn (reps.filter fun r => !largeB r)).2 n b t
  have ew : (ords reps b t).map Od.w = (reps.filter largeB).map splitW ++ (jn (reps.filter fun r => !largeB r)).1 ++ evenL reps (jn (reps.filter fun r => !largeB r)).2 n b t := by
    unfold ords
    rw [List.map_append, List.map_append, List.map_map, List.map_map, movO_w, (jn_jp _).1, List.append_assoc]
    rfl
  rw [ew] at h
  walk_at "q"
  exact Rt.now h
end
end Q
namespace Q
open PySem L2
local macro_rules | `(tactic| walk_at "mu") => `(tactic| (repeat (first | exact mset_same | assumption | (rw [mset_ne]; rotate_left; (first | assumption | exact Ne.symm (by assumption))))))
local macro_rules | `(tactic| walk_at "lk") => `(tactic| (repeat (first | exact lk_hit | exact lk_nil | refine lk_skip (by decide +kernel) ?_)))
local macro_rules | `(tactic| walk_at "pf") => `(tactic| (repeat (first | rw [pf_nil] | rw [pf_hit] | (rw [pf_skip]; rotate_left; (focus (decide +kernel; done))))))
local macro_rules | `(tactic| walk_at "q") => `(tactic| ((with_reducible conv => whnf); repeat (first
  | (with_reducible refine q_t (by assumption) ?_; with_reducible conv => whnf)
  | (with_reducible refine q_f (by assumption) ?_; with_reducible conv => whnf)
  | (with_reducible refine q_t (by with_reducible rfl) ?_; with_reducible conv => whnf)
  | (with_reducible refine q_f (by with_reducible rfl) ?_; with_reducible conv => whnf)
  | (with_reducible refine q_t (by decide) ?_; with_reducible conv => whnf)
  | (with_reducible refine q_f (by decide) ?_; with_reducible conv => whnf)
  | (with_reducible refine q_t (decide_eq_true (by omega)) ?_; with_reducible conv => whnf)
  | (with_reducible refine q_f (decide_eq_false (by omega)) ?_; with_reducible conv => whnf)
  | (with_reducible refine q_f (q_nn (by omega)) ?_; with_reducible conv => whnf)
  | (with_reducible refine q_t (q_nt (by omega)) ?_; with_reducible conv => whnf)
  | (with_reducible refine q_len (by with_unfolding_all rfl) ?_; with_reducible conv => whnf)
  | (with_reducible refine q_leq (by with_unfolding_all rfl) ?_; with_reducible conv => whnf)
  | (with_reducible refine q_and (by first | assumption | exact True.intro | omega | (simp only [List.length_map, List.length_append, List.length_cons, List.length_nil]; omega) | decide) ?_; with_reducible conv => whnf)
  | (with_reducible refine q_le (by with_unfolding_all rfl) ?_; with_reducible conv => whnf)
  | (with_reducible refine q_and tyL_lst ?_; with_reducible conv => whnf)
  | (with_reducible refine q_and tyL_rol ?_; with_reducible conv => whnf)
  | (with_reducible refine q_and (tyL_ref (by walk_at "mu")) ?_; with_reducible conv => whnf)
  | (with_reducible refine q_and (tyD_ref (by walk_at "mu")) ?_; with_reducible conv => whnf)
  | (with_reducible refine q_and (rdD_ref (by walk_at "mu")) ?_; with_reducible conv => whnf)
  | (rw [pick_c0]; with_reducible conv => whnf)
  | (rw [pick_c1]; with_reducible conv => whnf)
  | (rw [pick_c2]; with_reducible conv => whnf)
  | (rw [pick_c3]; with_reducible conv => whnf)
  | (rw [pick_c4]; with_reducible conv => whnf)
  | (rw [pick_c5]; with_reducible conv => whnf)
  | (rw [mset_same]; with_reducible conv => whnf)
  | (rw [mset_ne (by assumption)]; with_reducible conv => whnf)
  | (rw [mset_ne]; rotate_left; (first | assumption | exact Ne.symm (by assumption)); with_reducible conv => whnf)
  | (rw [rdL_ref]; rotate_left; (focus (walk_at "mu"; done)); with_reducible conv => whnf)
  | (rw [rdL_refD]; rotate_left; (focus (walk_at "mu"; done)); with_reducible conv => whnf)
  | (rw [rdD_refD]; rotate_left; (focus (walk_at "mu"; done)); with_reducible conv => whnf)
  | (rw [rdM_ref]; rotate_left; (focus (walk_at "mu"; done)); with_reducible conv => whnf)
  | (rw [rdL_refK]; rotate_left; (focus (walk_at "mu"; done)); with_reducible conv => whnf)
  | (rw [rdD_refK]; rotate_left; (focus (walk_at "mu"; done)); with_reducible conv => whnf)
  | (rw [tyW_refL]; rotate_left; (focus (walk_at "mu"; done)); with_reducible conv => whnf)
  | (rw [tyW_refD]; rotate_left; (focus (walk_at "mu"; done)); with_reducible conv => whnf)
  | (rw [drf_ref]; rotate_left; (focus (walk_at "mu"; done)); with_reducible conv => whnf)
  | ((conv => (arg 2; tactic' => (walk_at "mu"; done))); with_reducible conv => whnf)
  | (with_reducible refine q_and (Eq.refl _) ?_; with_reducible conv => whnf)
  | (with_reducible refine q_and (MulO.r (by decide)) ?_; with_reducible conv => whnf)
  | (with_reducible refine q_and (MulO.l (by decide)) ?_; with_reducible conv => whnf)
  | (with_reducible refine q_and (MulO.r (by omega)) ?_; with_reducible conv => whnf)
  | (with_reducible refine q_and (MulO.l (by omega)) ?_; with_reducible conv => whnf)
  | (with_reducible refine q_pow (by decide) ?_; with_reducible conv => whnf)
  | (with_reducible refine q_nisT (by first | assumption | with_reducible rfl) ?_; with_reducible conv => whnf)
  | (with_reducible refine q_nisF (by first | assumption | with_reducible rfl) ?_; with_reducible conv => whnf)
  | (with_reducible refine q_eqI ?_; with_reducible conv => whnf)
  | (with_reducible refine q_eqS ?_; with_reducible conv => whnf)
  | (with_reducible refine q_eqB ?_; with_reducible conv => whnf)
  | (with_reducible refine q_neI ?_; with_reducible conv => whnf)
  | (with_reducible refine q_neS ?_; with_reducible conv => whnf)
  | (with_reducible refine q_neB ?_; with_reducible conv => whnf)
  | (with_reducible refine q_memc ?_; with_reducible conv => whnf)
  | (with_reducible refine q_lkn (by walk_at "lk") ?_; with_reducible conv => whnf)
  | (with_reducible refine q_tix (by walk_at "lk"; done) ?_; with_reducible conv => whnf)
  | (with_reducible refine q_tin ?_; with_reducible conv => whnf)
  | (rw [pf_hit]; with_reducible conv => whnf)
  | (rw [pf_skip]; rotate_left; (focus (decide +kernel; done)); with_reducible conv => whnf)
  | (rw [lk_hit]; with_reducible conv => whnf)
  | (rw [lk_skip1]; rotate_left; (focus (decide +kernel; done)); with_reducible conv => whnf))))
/-! k50: rows found, rows named, orders carried -/
section
variable {μ : Mu} {P : Po} {X : Xo} {a : Addr} {n : Nat}
theorem sp__law_at {T : List Ro} {o : Option Str} (ha : μ a = some (.ls (T.map rowW))) (hc : Ch n o T) (hz : T.length ≤ 1000) {i : Nat} {r : Ro} (hi : T[i]? = some r) {lo : Str} {hh : Option Str} {ep x : Int} (e1 : r.lo = lo) (e2 : r.hi = hh) (e3 : r.ep = ep) (e4 : r.x = x) (h : P (.int i) μ) : f__law_at [.ref a, .str lo, oS hh, .int ep, .int x] μ P X := by
  rw [f__law_at_eq]; unfold f__law_at_B fDef
  refine ⟨rfl, ?_⟩
  obtain ⟨li, -⟩ := List.getElem?_eq_some_iff.mp hi
  walk_at "q"
  rw [List.length_map]
  refine itS_nums (fun k ρ μ' => k ≤ i ∧ μ' = μ ∧ ∃ x5, ρ = [some (.ref a), some (.str lo), some (oS hh), some (.int ep), some (.int x), x5]) ⟨Nat.zero_le _, rfl, _, rfl⟩ (by intros; trivial) ?_ ?_
  · rintro k hk ρ μ' ⟨hki, rfl, x5, rfl⟩ K hK
    have gk : T[k]? = some T[k] := List.getElem?_eq_getElem hk
    have pk : pick (T.map rowW) (0 + (k : Int)) = some (rowW T[k]) := by
      rw [Int.zero_add]
      exact pick_mapN gk
    by_cases c : k = i
    · subst c
      rw [hi] at gk
      have er : T[k] = r := (Option.some.inj gk).symm
      rw [er] at pk
      walk_at "q"
      refine sp_oS_eq ?_
      refine q_t (decide_eq_true e2) ?_
      walk_at "q"
      rw [Int.zero_add]
      exact Rt.now h
    · have ne : T[k].lo ≠ lo := fun e => c (hc.same gk hi (e.trans e1.symm))
      walk_at "q"
      exact hK _ _ ⟨by omega, rfl, _, rfl⟩
  · rintro ρ μ' ⟨hki, -⟩
    omega
/-! names -/
@[reducible] def nmW (r : Ro) : W := .lst [.str r.lo, oS r.hi, .int r.ep, .int r.x]
theorem nm_D (r : Ro) (m : Nat) : isD (m + 2) (nmW r) = true := by
  cases h : r.hi <;> simp [isD, isDs, h]
theorem nms_D (T : List Ro) (m : Nat) : isDs (m + 2) (T.map nmW) = true := by
  induction T with
  | nil => rfl
  | cons r T ih => simp only [List.map_cons, isDs, nm_D, ih, Bool.and_true]
theorem nm_any {T : List Ro} {r : Rep} (h : r ∈ T.map rep) : ((T.map nmW).any fun z => eqW z (.lst [.str r.lo, oS r.hi, .int r.ep, .int r.x])) = true := by
  obtain ⟨s, hs, rfl⟩ := List.mem_map.mp h
  exact List.any_eq_true.mpr ⟨nmW s, List.mem_map_of_mem hs, eqW_refl 58 _ (nm_D s 56)⟩
theorem nm_in {T : List Ro} {r : Rep} (h : r ∈ T.map rep) (hp : P (.bl true) μ) : wIn (.lst [.str r.lo, oS r.hi, .int r.ep, .int r.x]) (.lst (T.map nmW)) μ P := by
  have e := nm_any h
  obtain ⟨s, hs, rfl⟩ := List.mem_map.mp h
  refine ⟨nm_D s 56, nms_D T 56, ?_⟩
  rw [if_neg Bool.false_ne_true, e]
  exact hp
theorem rep_D (r : Rep) : isD 58 (.lst [.str r.lo, oS r.hi, .int r.ep, .int r.x]) = true := by
  cases h : r.hi <;> simp [isD, isDs]
def Od.sv : Od → Int
  | .spl r => r.x
  | .jon a _ => a.x
  | .mov r _ => r.x
def Od.ord : Od → W
  | .spl r => .tup [.str "split", .str r.lo, oS r.hi, .int r.ep, .str r.mid]
  | .jon a b => .tup [.str "join", .str a.lo, oS a.hi, .int a.ep, oS b.hi, .int b.ep]
  | .mov r t => .tup [.str "move", .str r.lo, oS r.hi, .int r.ep, .int (t : Int)]
theorem Od.w_eq (o : Od) : o.w = .tup [.int o.sv, o.ord] := by
  cases o <;> rfl
theorem sp__law_named {T : List Ro} {rs : List Rep} {n : Nat} {o : Od} (hin : ∀ r ∈ o.rows, r ∈ T.map rep) (hv : o.Val rs n) (h : P (.bl true) μ) : f__law_named [.lst (T.map nmW), .int o.sv, o.ord] μ P X := by
  rw [f__law_named_eq]; unfold f__law_named_B fDef
  cases o with
  | spl r =>
    have i1 := hin r List.mem_cons_self
    dsimp only [Od.sv, Od.ord]
    refine ⟨rfl, ?_⟩
    walk_at "q"
    refine nm_in i1 ?_
    exact Rt.now h
  | mov r t =>
    have i1 := hin r List.mem_cons_self
    dsimp only [Od.sv, Od.ord]
    refine ⟨rfl, ?_⟩
    walk_at "q"
    refine nm_in i1 ?_
    exact Rt.now h
  | jon r s =>
    have i1 := hin r List.mem_cons_self
    have i2 := hin s (List.mem_cons_of_mem _ List.mem_cons_self)
    unfold Od.Val togB at hv
    simp only [Bool.and_eq_true, decide_eq_true_eq] at hv
    obtain ⟨hv1, hv2, -⟩ := hv
    dsimp only [Od.sv, Od.ord]
    refine ⟨rfl, ?_⟩
    walk_at "q"
    refine ⟨rep_D r, nms_D T 56, ?_⟩
    rw [if_neg Bool.false_ne_true, nm_any i1]
    walk_at "q"
    rw [hv1, hv2]
    refine nm_in i2 ?_
    exact Rt.now h
/-! orders carried -/
theorem set_mid {α : Type} : ∀ (p : List α) (x y : α) (q : List α), (p ++ x :: q).set p.length y = p ++ y :: q
  | [], x, y, q => rfl
  | z :: p, x, y, q => by
    rw [List.cons_append, List.length_cons, List.set_cons_succ, set_mid p x y q]
    rfl
theorem set_midW {f : Ro → W} (p q : List Ro) (x : Ro) (y : W) : ((p ++ x :: q).map f).set p.length y = p.map f ++ y :: q.map f := by
  have := set_mid (p.map f) (f x) y (q.map f)
  rw [List.length_map] at this
  rw [List.map_append, List.map_cons]
  exact this
theorem erase_mid : ∀ (p : List W) (x y : W) (q : List W), (p ++ x :: y :: q).eraseIdx (p.length + 1) = p ++ x :: q
  | [], x, y, q => rfl
  | z :: p, x, y, q => by
    rw [List.cons_append, List.length_cons, List.eraseIdx_cons_succ, erase_mid p x y q]
    rfl
theorem mid_at {p q : List Ro} {r : Ro} : (p ++ r :: q)[p.length]? = some r := by
  rw [List.getElem?_append_right (Nat.le_refl _), Nat.sub_self]
  rfl
theorem mid_at1 {p q : List Ro} {r s : Ro} : (p ++ r :: s :: q)[p.length + 1]? = some s := by
  rw [List.getElem?_append_right (by omega), show p.length + 1 - p.length = 1 by omega]
  rfl
theorem len_mid {f : Ro → W} {p q : List Ro} {r : Ro} : ixN ((p ++ r :: q).map f).length (p.length : Int) = some p.length := by
  rw [List.length_map, List.length_append, List.length_cons]
  exact ixN_nat (by omega)
theorem sp_carM {p q : List Ro} {r : Ro} {t : Nat} (ha : μ a = some (.ls ((p ++ r :: q).map rowW))) (hi : Iv n (p ++ r :: q)) (h : P (.bl true) (mset μ a (.ls ((p ++ moveR r t :: q).map rowW)))) : f__law_carried [.ref a, .int r.x, (Od.mov (rep r) t).ord] μ P X := by
  rw [f__law_carried_eq]; unfold f__law_carried_B fDef
  dsimp only [Od.ord]
  refine ⟨rfl, ?_⟩
  have hl : (p ++ r :: q).length ≤ 1000 := by
    have := hi.g
    omega
  have hl2 := hl
  rw [List.length_append, List.length_cons] at hl2
  have pk : pick ((p ++ r :: q).map rowW) (p.length : Int) = some (rowW r) := pick_mapN mid_at
  walk_at "q"
  refine sp__law_at ha hi.ch hl mid_at rfl rfl rfl rfl ?_
  walk_at "q"
  rw [len_mid]
  walk_at "q"
  rw [set_midW]
  have e : (p.map rowW ++ rowW (moveR r t) :: q.map rowW) = (p ++ moveR r t :: q).map rowW := by rw [List.map_append, List.map_cons]
  refine Rt.now ?_
  rw [← e] at h
  exact h
theorem sp_carJ {p q : List Ro} {r s : Ro} (ha : μ a = some (.ls ((p ++ r :: s :: q).map rowW))) (hi : Iv n (p ++ r :: s :: q)) (hv : togB (rep r) (rep s) = true) (h : ∀ e, P (.bl true) (mset μ a (.ls ((p ++ joinR r s e :: q).map rowW)))) : f__law_carried [.ref a, .int r.x, (Od.jon (rep r) (rep s)).ord] μ P X := by
  rw [f__law_carried_eq]; unfold f__law_carried_B fDef
  dsimp only [Od.ord]
  refine ⟨rfl, ?_⟩
  have hl : (p ++ r :: s :: q).length ≤ 1000 := by
    have := hi.g
    omega
  have hl2 := hl
  rw [List.length_append, List.length_cons, List.length_cons] at hl2
  have pk : pick ((p ++ r :: s :: q).map rowW) (p.length : Int) = some (rowW r) := pick_mapN mid_at
  have pk2 : pick ((p ++ r :: s :: q).map rowW) ((p.length : Int) + 1) = some (rowW s) := pick_mapN (i := p.length + 1) mid_at1
  have hrl : r.held.length ≤ 40 := HT_at hi.h
  have hsl : s.held.length ≤ 40 := by
    have := hi.h
    rw [HT_app, HT, HT] at this
    omega
  unfold togB at hv
  simp only [Bool.and_eq_true, decide_eq_true_eq] at hv
  obtain ⟨hv1, hv2, -⟩ := hv
  walk_at "q"
  refine sp__law_at ha hi.ch hl mid_at rfl rfl rfl rfl ?_
  walk_at "q"
  rw [hv1]
  refine sp__law_at ha hi.ch hl mid_at1 rfl rfl rfl hv2.symm ?_
  walk_at "q"
  have ix2 : ixN ((p ++ r :: s :: q).map rowW).length ((p.length + 1 : Nat) : Int) = some (p.length + 1) := by
    rw [List.length_map, List.length_append, List.length_cons, List.length_cons]
    exact ixN_nat (by omega)
  have g2 : ((p ++ r :: s :: q).map rowW)[p.length + 1]? = some (rowW s) := by
    rw [List.getElem?_map, mid_at1]
    rfl
  have er : ((p ++ r :: s :: q).map rowW).eraseIdx (p.length + 1) = (p ++ r :: q).map rowW := by
    have := erase_mid (p.map rowW) (rowW r) (rowW s) (q.map rowW)
    rw [List.length_map] at this
    rw [List.map_append, List.map_append, List.map_cons, List.map_cons, List.map_cons]
    exact this
  rw [ix2]
  with_reducible conv => whnf
  rw [g2, er]
  walk_at "q"
  rw [len_mid]
  walk_at "q"
  rw [set_midW]
  have h := h (max r.ep s.ep + 1)
  have e : (p.map rowW ++ rowW (joinR r s (max r.ep s.ep + 1)) :: q.map rowW) = (p ++ joinR r s (max r.ep s.ep + 1) :: q).map rowW := by rw [List.map_append, List.map_cons]
  have e2 : rowW (joinR r s (max r.ep s.ep + 1)) = .lst [.str r.lo, oS s.hi, .int (max r.ep s.ep + 1), .int r.x, .lst (r.held.map W.str ++ s.held.map W.str)] := by
    unfold joinR rowW
    simp only
    rw [List.map_append]
  rw [← e, e2] at h
  rw [mset_mset]
  exact Rt.now h
theorem sp_carS {p q : List Ro} {r : Ro} (ha : μ a = some (.ls ((p ++ r :: q).map rowW))) (hi : Iv n (p ++ r :: q)) (h : P (.bl true) (mset μ a (.ls ((p ++ leftR r :: rightR r :: q).map rowW)))) : f__law_carried [.ref a, .int r.x, (Od.spl (rep r)).ord] μ P X := by
  rw [f__law_carried_eq]; unfold f__law_carried_B fDef
  dsimp only [Od.ord]
  refine ⟨rfl, ?_⟩
  have hl : (p ++ r :: q).length ≤ 1000 := by
    have := hi.g
    omega
  have hl2 := hl
  rw [List.length_append, List.length_cons] at hl2
  have pk : pick ((p ++ r :: q).map rowW) (p.length : Int) = some (rowW r) := pick_mapN mid_at
  have hrl : r.held.length ≤ 40 := HT_at hi.h
  walk_at "q"
  refine sp__law_at ha hi.ch hl mid_at rfl rfl rfl rfl ?_
  walk_at "q"
  refine lcV_tm W.str W.str (fun k => sLt k (midOf r.held)) r.held (by omega) ?_ (fun k hk μ' he N Y hn hy => ?_) ?_
  · intros
    rfl
  · walk_at "q"
    refine q_if (fun c => ?_) fun c => ?_
    · walk_at "q"
      exact hy c
    · walk_at "q"
      exact hn c
  walk_at "q"
  refine lcV_tm W.str W.str (fun k => !sLt k (midOf r.held)) r.held (by omega) ?_ (fun k hk μ' he N Y hn hy => ?_) ?_
  · intros
    rfl
  · walk_at "q"
    refine q_if (fun c => ?_) fun c => ?_
    · walk_at "q"
      exact hy c
    · walk_at "q"
      exact hn c
  walk_at "q"
  rw [len_mid]
  walk_at "q"
  rw [set_midW]
  walk_at "q"
  have h0 := h
  have e : ((p.map rowW ++ rowW (leftR r) :: q.map rowW).take ((p.length : Int) + 1).toNat ++ [rowW (rightR r)] ++ (p.map rowW ++ rowW (leftR r) :: q.map rowW).drop ((p.length : Int) + 1).toNat) = (p ++ leftR r :: rightR r :: q).map rowW := by
    have l1 : ((p.length : Int) + 1).toNat = (p.map rowW ++ [rowW (leftR r)]).length := by
      rw [List.length_append, List.length_map, List.length_singleton]
      omega
    have l2 : p.map rowW ++ rowW (leftR r) :: q.map rowW = (p.map rowW ++ [rowW (leftR r)]) ++ q.map rowW := by rw [List.append_assoc]; rfl
    rw [l2, l1, List.take_left, List.drop_left, List.map_append, List.map_cons, List.map_cons, List.append_assoc, List.append_assoc]
    rfl
  rw [← e] at h
  rw [mset_mset]
  exact Rt.now h
end
end Q
namespace Q
open PySem L2
local macro_rules | `(tactic| walk_at "mu") => `(tactic| (repeat (first | exact mset_same | assumption | (rw [mset_ne]; rotate_left; (first | assumption | exact Ne.symm (by assumption))))))
local macro_rules | `(tactic| walk_at "lk") => `(tactic| (repeat (first | exact lk_hit | exact lk_nil | refine lk_skip (by decide +kernel) ?_)))
local macro_rules | `(tactic| walk_at "pf") => `(tactic| (repeat (first | rw [pf_nil] | rw [pf_hit] | (rw [pf_skip]; rotate_left; (focus (decide +kernel; done))))))
local macro_rules | `(tactic| walk_at "q") => `(tactic| ((with_reducible conv => whnf); repeat (first
  | (with_reducible refine q_t (by assumption) ?_; with_reducible conv => whnf)
  | (with_reducible refine q_f (by assumption) ?_; with_reducible conv => whnf)
  | (with_reducible refine q_t (by with_reducible rfl) ?_; with_reducible conv => whnf)
  | (with_reducible refine q_f (by with_reducible rfl) ?_; with_reducible conv => whnf)
  | (with_reducible refine q_t (by decide) ?_; with_reducible conv => whnf)
  | (with_reducible refine q_f (by decide) ?_; with_reducible conv => whnf)
  | (with_reducible refine q_t (decide_eq_true (by omega)) ?_; with_reducible conv => whnf)
  | (with_reducible refine q_f (decide_eq_false (by omega)) ?_; with_reducible conv => whnf)
  | (with_reducible refine q_f (q_nn (by omega)) ?_; with_reducible conv => whnf)
  | (with_reducible refine q_t (q_nt (by omega)) ?_; with_reducible conv => whnf)
  | (with_reducible refine q_len (by with_unfolding_all rfl) ?_; with_reducible conv => whnf)
  | (with_reducible refine q_leq (by with_unfolding_all rfl) ?_; with_reducible conv => whnf)
  | (with_reducible refine q_and (by first | assumption | exact True.intro | omega | (simp only [List.length_map, List.length_append, List.length_cons, List.length_nil]; omega) | decide) ?_; with_reducible conv => whnf)
  | (with_reducible refine q_le (by with_unfolding_all rfl) ?_; with_reducible conv => whnf)
  | (with_reducible refine q_and tyL_lst ?_; with_reducible conv => whnf)
  | (with_reducible refine q_and tyL_rol ?_; with_reducible conv => whnf)
  | (with_reducible refine q_and (tyL_ref (by walk_at "mu")) ?_; with_reducible conv => whnf)
  | (with_reducible refine q_and (tyD_ref (by walk_at "mu")) ?_; with_reducible conv => whnf)
  | (with_reducible refine q_and (rdD_ref (by walk_at "mu")) ?_; with_reducible conv => whnf)
  | (rw [pick_c0]; with_reducible conv => whnf)
  | (rw [pick_c1]; with_reducible conv => whnf)
  | (rw [pick_c2]; with_reducible conv => whnf)
  | (rw [pick_c3]; with_reducible conv => whnf)
  | (rw [pick_c4]; with_reducible conv => whnf)
  | (rw [pick_c5]; with_reducible conv => whnf)
  | (rw [mset_same]; with_reducible conv => whnf)
  | (rw [mset_ne (by assumption)]; with_reducible conv => whnf)
  | (rw [mset_ne]; rotate_left; (first | assumption | exact Ne.symm (by assumption)); with_reducible conv => whnf)
  | (rw [rdL_ref]; rotate_left; (focus (walk_at "mu"; done)); with_reducible conv => whnf)
  | (rw [rdL_refD]; rotate_left; (focus (walk_at "mu"; done)); with_reducible conv => whnf)
  | (rw [rdD_refD]; rotate_left; (focus (walk_at "mu"; done)); with_reducible conv => whnf)
  | (rw [rdM_ref]; rotate_left; (focus (walk_at "mu"; done)); with_reducible conv => whnf)
  | (rw [rdL_refK]; rotate_left; (focus (walk_at "mu"; done)); with_reducible conv => whnf)
  | (rw [rdD_refK]; rotate_left; (focus (walk_at "mu"; done)); with_reducible conv => whnf)
  | (rw [tyW_refL]; rotate_left; (focus (walk_at "mu"; done)); with_reducible conv => whnf)
  | (rw [tyW_refD]; rotate_left; (focus (walk_at "mu"; done)); with_reducible conv => whnf)
  | (rw [drf_ref]; rotate_left; (focus (walk_at "mu"; done)); with_reducible conv => whnf)
  | ((conv => (arg 2; tactic' => (walk_at "mu"; done))); with_reducible conv => whnf)
  | (with_reducible refine q_and (Eq.refl _) ?_; with_reducible conv => whnf)
  | (with_reducible refine q_and (MulO.r (by decide)) ?_; with_reducible conv => whnf)
  | (with_reducible refine q_and (MulO.l (by decide)) ?_; with_reducible conv => whnf)
  | (with_reducible refine q_and (MulO.r (by omega)) ?_; with_reducible conv => whnf)
  | (with_reducible refine q_and (MulO.l (by omega)) ?_; with_reducible conv => whnf)
  | (with_reducible refine q_pow (by decide) ?_; with_reducible conv => whnf)
  | (with_reducible refine q_nisT (by first | assumption | with_reducible rfl) ?_; with_reducible conv => whnf)
  | (with_reducible refine q_nisF (by first | assumption | with_reducible rfl) ?_; with_reducible conv => whnf)
  | (with_reducible refine q_eqI ?_; with_reducible conv => whnf)
  | (with_reducible refine q_eqS ?_; with_reducible conv => whnf)
  | (with_reducible refine q_eqB ?_; with_reducible conv => whnf)
  | (with_reducible refine q_neI ?_; with_reducible conv => whnf)
  | (with_reducible refine q_neS ?_; with_reducible conv => whnf)
  | (with_reducible refine q_neB ?_; with_reducible conv => whnf)
  | (with_reducible refine q_memc ?_; with_reducible conv => whnf)
  | (with_reducible refine q_lkn (by walk_at "lk") ?_; with_reducible conv => whnf)
  | (with_reducible refine q_tix (by walk_at "lk"; done) ?_; with_reducible conv => whnf)
  | (with_reducible refine q_tin ?_; with_reducible conv => whnf)
  | (rw [pf_hit]; with_reducible conv => whnf)
  | (rw [pf_skip]; rotate_left; (focus (decide +kernel; done)); with_reducible conv => whnf)
  | (rw [lk_hit]; with_reducible conv => whnf)
  | (rw [lk_skip1]; rotate_left; (focus (decide +kernel; done)); with_reducible conv => whnf))))
/-! k50: at rest -/
structure Rests (n : Nat) (T : List Ro) : Prop where
  r1 : ∀ r ∈ T, r.held.length ≤ 8
  r2 : ∀ (i : Nat) (r s : Ro), T[i]? = some r → T[i + 1]? = some s → s.x = r.x → 4 < r.held.length + s.held.length
  r3 : ∀ i j, i < n → j < n → ld T i - ld T j < 2
theorem jp_nil : ∀ {rs : List Rep}, jp rs = [] → (jn rs).2 = rs ∧ ∀ (i : Nat) (r s : Rep), rs[i]? = some r → rs[i + 1]? = some s → togB r s = false
  | [], _ => ⟨rfl, fun i r s h => by cases h⟩
  | [a], _ => ⟨rfl, fun i r s h h2 => by cases h2⟩
  | a :: b :: t, h => by
    cases c : togB a b with
    | true =>
      rw [jp, if_pos c] at h
      cases h
    | false =>
      rw [jp, if_neg (by rw [c]; exact Bool.false_ne_true)] at h
      obtain ⟨h1, h2⟩ := jp_nil h
      refine ⟨by rw [jn_no c, h1], fun i r s hr hs => ?_⟩
      cases i with
      | zero =>
        cases hr
        cases hs
        exact c
      | succ i => exact h2 i r s hr hs
theorem Ch.adj : ∀ {n : Nat} {T : List Ro} {o : Option Str}, Ch n o T → ∀ (i : Nat) (r s : Ro), T[i]? = some r → T[i + 1]? = some s → r.hi = some s.lo
  | _, [], _, _, i, r, s, h, _ => by cases h
  | _, [a], _, _, i, r, s, h, h2 => by cases h2
  | n, a :: b :: t, o, h, i, r, s, hr, hs => by
    cases i with
    | zero =>
      cases hr
      cases hs
      exact h.2.2.1
    | succ i => exact Ch.adj (T := b :: t) h.2.2 i r s hr hs
theorem rests_of {n : Nat} {T : List Ro} {b t : Nat} (hi : Iv n T) (hb : MaxAt (loadsL (T.map rep) n) b) (ht : MinAt (loadsL (T.map rep) n) t) (h : ords (T.map rep) b t = []) : Rests n T := by
  unfold ords at h
  obtain ⟨h1, h2⟩ := List.append_eq_nil_iff.mp h
  obtain ⟨h2, h3⟩ := List.append_eq_nil_iff.mp h2
  have h1 := List.map_eq_nil_iff.mp h1
  have h2 := List.map_eq_nil_iff.mp h2
  have nl : ∀ r ∈ T, r.held.length ≤ 8 := fun r hr => by
    have := List.filter_eq_nil_iff.mp h1 (rep r) (List.mem_map_of_mem hr)
    rw [large_iff (hi.ch.ok r hr), decide_eq_true_iff] at this
    omega
  have ef : (T.map rep).filter (fun r => !largeB r) = T.map rep := List.filter_eq_self.mpr fun x hx => by
    obtain ⟨r, hr, rfl⟩ := List.mem_map.mp hx
    rw [large_iff (hi.ch.ok r hr), decide_eq_false (by have := nl r hr; omega)]
    rfl
  rw [ef] at h2 h3
  obtain ⟨j1, j2⟩ := jp_nil h2
  rw [j1] at h3
  obtain ⟨mb, b1, b2, -⟩ := hb
  obtain ⟨mt, t1, t2, -⟩ := ht
  obtain ⟨bn, eb⟩ := loads_at b1
  obtain ⟨tn, et⟩ := loads_at t1
  rw [ld_load] at eb et
  refine ⟨nl, fun i r s hr hs ex => ?_, fun i j hin hjn => ?_⟩
  · have := j2 i (rep r) (rep s) (by rw [List.getElem?_map, hr]; rfl) (by rw [List.getElem?_map, hs]; rfl)
    unfold togB rep at this
    simp only at this
    rw [decide_eq_true (hi.ch.adj i r s hr hs), decide_eq_true ex.symm, Bool.true_and, Bool.true_and, decide_eq_false_iff_not] at this
    omega
  · have q1 := b2 i _ (loads_get hin)
    have q2 := t2 j _ (loads_get hjn)
    rw [ld_load] at q1 q2
    have key : mb < mt + 2 := by
      unfold movO at h3
      split at h3
      · rename_i c
        have c' : ((loadN (T.map rep) (b : Int) : Nat) : Int) < ((loadN (T.map rep) (t : Int) : Nat) : Int) + 2 := by omega
        rw [ld_load, ld_load] at c'
        omega
      · split at h3
        · cases h3
        · rename_i e
          have e0 : loadN (T.map rep) (b : Int) = 0 := by
            unfold loadN
            rw [List.length_eq_zero_iff, List.filter_eq_nil_iff]
            exact List.find?_eq_none.mp e
          have e1 := ld_load T b
          rw [e0] at e1
          have := (ld_len T t).1
          omega
    omega
section
variable {μ : Mu} {P : Po} {X : Xo} {a : Addr} {n : Nat}
theorem sp__law_rests {T : List Ro} (ha : μ a = some (.ls (T.map rowW))) (hi : Iv n T) (h0 : 0 < n) (hn : n ≤ 100) (hr : Rests n T) (h : P (.bl true) μ) : f__law_rests_2 [.ref a, .int n] μ P X := by
  rw [f__law_rests_2_eq]; unfold f__law_rests_2_B fDef
  refine ⟨rfl, ?_⟩
  have hl : T.length ≤ 21 := by
    have := hi.g
    omega
  walk_at "q"
  rw [List.length_map]
  refine itS_nums (fun k ρ μ' => μ' = μ ∧ ∃ x2 x3 x4 x5 x6 x7 x8 x9, ρ = [some (.ref a), some (.int n), x2, x3, x4, x5, x6, x7, x8, x9]) ⟨rfl, _, _, _, _, _, _, _, _, rfl⟩ (by intros; trivial) ?_ ?_
  · rintro k hk ρ μ' ⟨rfl, x2, x3, x4, x5, x6, x7, x8, x9, rfl⟩ K hK
    have gk : T[k]? = some T[k] := List.getElem?_eq_getElem hk
    have pk : pick (T.map rowW) (0 + (k : Int)) = some (rowW T[k]) := by
      rw [Int.zero_add]
      exact pick_mapN gk
    have l8 := hr.r1 _ (List.mem_of_getElem? gk)
    walk_at "q"
    rw [List.length_map]
    walk_at "q"
    rw [List.length_map]
    refine q_ifP (fun c => ?_) fun c => ?_
    · have hk2 : k + 1 < T.length := by omega
      have gk2 : T[k + 1]? = some T[k + 1] := List.getElem?_eq_getElem hk2
      have pk2 : pick (T.map rowW) (0 + (k : Int) + 1) = some (rowW T[k + 1]) := by
        rw [show 0 + (k : Int) + 1 = ((k + 1 : Nat) : Int) by omega]
        exact pick_mapN gk2
      walk_at "q"
      refine q_ifP (fun c2 => ?_) fun c2 => ?_
      · have := hr.r2 k _ _ gk gk2 c2
        walk_at "q"
        rw [List.length_map, List.length_map]
        walk_at "q"
        exact hK _ _ ⟨rfl, _, _, _, _, _, _, _, _, rfl⟩
      · walk_at "q"
        exact hK _ _ ⟨rfl, _, _, _, _, _, _, _, _, rfl⟩
    · walk_at "q"
      exact hK _ _ ⟨rfl, _, _, _, _, _, _, _, _, rfl⟩
  · rintro ρ μ' ⟨rfl, x2, x3, x4, x5, x6, x7, x8, x9, rfl⟩
    walk_at "q"
    refine lcV_m (fun i : Nat => .int (0 + (i : Int))) (fun i : Nat => .int (loadN (T.map rep) (i : Int) : Int)) (List.range n) (by rw [List.length_range]; omega) ?_ (fun i hi2 μ2 he Y hy => ?_) ?_
    · intros
      trivial
    · have ha2 := he _ _ ha
      walk_at "q"
      refine lcV_tm rowW rowW (fun r => decide (r.x = (i : Int))) T (by omega) (fun μ3 he3 => rdL_ref (he3 _ _ ha2)) (fun r hr2 μ3 he3 N Y2 hn2 hy2 => ?_) ?_
      · walk_at "q"
        refine q_ifP (fun c => ?_) fun c => ?_
        · walk_at "q"
          exact hy2 (decide_eq_true (by omega))
        · walk_at "q"
          exact hn2 (decide_eq_false (by omega))
      · have el : ((T.filter fun r => decide (r.x = (i : Int))).map rowW).length = loadN (T.map rep) (i : Int) := by
          unfold loadN
          rw [List.length_map, List.filter_map, List.length_map]
          rfl
        walk_at "q"
        rw [el]
        exact hy
    rw [show (List.range n).map (fun i : Nat => W.int (loadN (T.map rep) (i : Int) : Int)) = (loadsL (T.map rep) n).map W.int by unfold loadsL; rw [List.map_map]; rfl]
    walk_at "q"
    refine ⟨loadsL (T.map rep) n, rfl, by unfold loadsL; rw [List.length_map, List.length_range]; exact h0, fun mx m1 m2 => ?_⟩
    walk_at "q"
    refine ⟨loadsL (T.map rep) n, rfl, by unfold loadsL; rw [List.length_map, List.length_range]; exact h0, fun mn k1 k2 => ?_⟩
    obtain ⟨i, hi1, -⟩ := first_at m1
    obtain ⟨j, hj1, -⟩ := first_at k1
    obtain ⟨i1, i2⟩ := loads_at hi1
    obtain ⟨j1, j2⟩ := loads_at hj1
    rw [ld_load] at i2 j2
    have := hr.r3 i j i1 j1
    have lt : decide (mx - mn < 2) = true := decide_eq_true (by omega)
    walk_at "q"
    rw [lt]
    exact Rt.now h
end
end Q
namespace Q
open PySem L2
local macro_rules | `(tactic| walk_at "mu") => `(tactic| (repeat (first | exact mset_same | assumption | (rw [mset_ne]; rotate_left; (first | assumption | exact Ne.symm (by assumption))))))
local macro_rules | `(tactic| walk_at "lk") => `(tactic| (repeat (first | exact lk_hit | exact lk_nil | refine lk_skip (by decide +kernel) ?_)))
local macro_rules | `(tactic| walk_at "pf") => `(tactic| (repeat (first | rw [pf_nil] | rw [pf_hit] | (rw [pf_skip]; rotate_left; (focus (decide +kernel; done))))))
local macro_rules | `(tactic| walk_at "q") => `(tactic| ((with_reducible conv => whnf); repeat (first
  | (with_reducible refine q_t (by assumption) ?_; with_reducible conv => whnf)
  | (with_reducible refine q_f (by assumption) ?_; with_reducible conv => whnf)
  | (with_reducible refine q_t (by with_reducible rfl) ?_; with_reducible conv => whnf)
  | (with_reducible refine q_f (by with_reducible rfl) ?_; with_reducible conv => whnf)
  | (with_reducible refine q_t (by decide) ?_; with_reducible conv => whnf)
  | (with_reducible refine q_f (by decide) ?_; with_reducible conv => whnf)
  | (with_reducible refine q_t (decide_eq_true (by omega)) ?_; with_reducible conv => whnf)
  | (with_reducible refine q_f (decide_eq_false (by omega)) ?_; with_reducible conv => whnf)
  | (with_reducible refine q_f (q_nn (by omega)) ?_; with_reducible conv => whnf)
  | (with_reducible refine q_t (q_nt (by omega)) ?_; with_reducible conv => whnf)
  | (with_reducible refine q_len (by with_unfolding_all rfl) ?_; with_reducible conv => whnf)
  | (with_reducible refine q_leq (by with_unfolding_all rfl) ?_; with_reducible conv => whnf)
  | (with_reducible refine q_and (by first | assumption | exact True.intro | omega | (simp only [List.length_map, List.length_append, List.length_cons, List.length_nil]; omega) | decide) ?_; with_reducible conv => whnf)
  | (with_reducible refine q_le (by with_unfolding_all rfl) ?_; with_reducible conv => whnf)
  | (with_reducible refine q_and tyL_lst ?_; with_reducible conv => whnf)
  | (with_reducible refine q_and tyL_rol ?_; with_reducible conv => whnf)
  | (with_reducible refine q_and (tyL_ref (by walk_at "mu")) ?_; with_reducible conv => whnf)
  | (with_reducible refine q_and (tyD_ref (by walk_at "mu")) ?_; with_reducible conv => whnf)
  | (with_reducible refine q_and (rdD_ref (by walk_at "mu")) ?_; with_reducible conv => whnf)
  | (rw [pick_c0]; with_reducible conv => whnf)
  | (rw [pick_c1]; with_reducible conv => whnf)
  | (rw [pick_c2]; with_reducible conv => whnf)
  | (rw [pick_c3]; with_reducible conv => whnf)
  | (rw [pick_c4]; with_reducible conv => whnf)
  | (rw [pick_c5]; with_reducible conv => whnf)
  | (rw [mset_same]; with_reducible conv => whnf)
  | (rw [mset_ne (by assumption)]; with_reducible conv => whnf)
  | (rw [mset_ne]; rotate_left; (first | assumption | exact Ne.symm (by assumption)); with_reducible conv => whnf)
  | (rw [rdL_ref]; rotate_left; (focus (walk_at "mu"; done)); with_reducible conv => whnf)
  | (rw [rdL_refD]; rotate_left; (focus (walk_at "mu"; done)); with_reducible conv => whnf)
  | (rw [rdD_refD]; rotate_left; (focus (walk_at "mu"; done)); with_reducible conv => whnf)
  | (rw [rdM_ref]; rotate_left; (focus (walk_at "mu"; done)); with_reducible conv => whnf)
  | (rw [rdL_refK]; rotate_left; (focus (walk_at "mu"; done)); with_reducible conv => whnf)
  | (rw [rdD_refK]; rotate_left; (focus (walk_at "mu"; done)); with_reducible conv => whnf)
  | (rw [tyW_refL]; rotate_left; (focus (walk_at "mu"; done)); with_reducible conv => whnf)
  | (rw [tyW_refD]; rotate_left; (focus (walk_at "mu"; done)); with_reducible conv => whnf)
  | (rw [drf_ref]; rotate_left; (focus (walk_at "mu"; done)); with_reducible conv => whnf)
  | ((conv => (arg 2; tactic' => (walk_at "mu"; done))); with_reducible conv => whnf)
  | (with_reducible refine q_and (Eq.refl _) ?_; with_reducible conv => whnf)
  | (with_reducible refine q_and (MulO.r (by decide)) ?_; with_reducible conv => whnf)
  | (with_reducible refine q_and (MulO.l (by decide)) ?_; with_reducible conv => whnf)
  | (with_reducible refine q_and (MulO.r (by omega)) ?_; with_reducible conv => whnf)
  | (with_reducible refine q_and (MulO.l (by omega)) ?_; with_reducible conv => whnf)
  | (with_reducible refine q_pow (by decide) ?_; with_reducible conv => whnf)
  | (with_reducible refine q_nisT (by first | assumption | with_reducible rfl) ?_; with_reducible conv => whnf)
  | (with_reducible refine q_nisF (by first | assumption | with_reducible rfl) ?_; with_reducible conv => whnf)
  | (with_reducible refine q_eqI ?_; with_reducible conv => whnf)
  | (with_reducible refine q_eqS ?_; with_reducible conv => whnf)
  | (with_reducible refine q_eqB ?_; with_reducible conv => whnf)
  | (with_reducible refine q_neI ?_; with_reducible conv => whnf)
  | (with_reducible refine q_neS ?_; with_reducible conv => whnf)
  | (with_reducible refine q_neB ?_; with_reducible conv => whnf)
  | (with_reducible refine q_memc ?_; with_reducible conv => whnf)
  | (with_reducible refine q_lkn (by walk_at "lk") ?_; with_reducible conv => whnf)
  | (with_reducible refine q_tix (by walk_at "lk"; done) ?_; with_reducible conv => whnf)
  | (with_reducible refine q_tin ?_; with_reducible conv => whnf)
  | (rw [pf_hit]; with_reducible conv => whnf)
  | (rw [pf_skip]; rotate_left; (focus (decide +kernel; done)); with_reducible conv => whnf)
  | (rw [lk_hit]; with_reducible conv => whnf)
  | (rw [lk_skip1]; rotate_left; (focus (decide +kernel; done)); with_reducible conv => whnf))))
/-! k50: the table drawn -/
def tD (ks : List Str) (i : Nat) : Bool := decide (i = 0) || !decide (ks.getD i "" = ks.getD (i - 1) "")
def dist (ks : List Str) : List Str := ((List.range ks.length).filter (tD ks)).map fun i => ks.getD i ""
theorem dist_w (ks : List Str) : ((List.range ks.length).filter (tD ks)).map (fun i => W.str (ks.getD i "")) = (dist ks).map W.str := by
  unfold dist
  rw [List.map_map]
  rfl
theorem dist_len (ks : List Str) : (dist ks).length ≤ ks.length := by
  unfold dist
  rw [List.length_map]
  have := List.length_filter_le (tD ks) (List.range ks.length)
  rwa [List.length_range] at this
theorem dist_mem {ks : List Str} {x : Str} (h : x ∈ dist ks) : x ∈ ks := by
  unfold dist at h
  obtain ⟨i, hi, rfl⟩ := List.mem_map.mp h
  have := List.mem_range.mp (List.mem_filter.mp hi).1
  rw [List.getD_eq_getElem?_getD, List.getElem?_eq_getElem this]
  exact List.getElem_mem this
theorem dist_ris {ks : List Str} (h : ks.Pairwise fun a b => So.leS a b = true) : Ris (dist ks) := by
  unfold Ris dist
  rw [List.pairwise_map]
  refine List.Pairwise.imp_of_mem (R := fun i j => i < j) (fun {i j} hi hj hij => ?_) (List.Pairwise.filter _ List.pairwise_lt_range)
  obtain ⟨-, ht⟩ := List.mem_filter.mp hj
  have lj := List.mem_range.mp (List.mem_filter.mp hj).1
  unfold tD at ht
  rw [decide_eq_false (by omega), Bool.false_or] at ht
  have ne : ks.getD j "" ≠ ks.getD (j - 1) "" := fun e => by
    rw [decide_eq_true e] at ht
    cases ht
  rw [List.getD_eq_getElem?_getD, List.getElem?_eq_getElem lj, List.getD_eq_getElem?_getD, List.getElem?_eq_getElem (show j - 1 < ks.length by omega)] at ne
  rw [List.getD_eq_getElem?_getD, List.getElem?_eq_getElem (show i < ks.length by omega), List.getD_eq_getElem?_getD, List.getElem?_eq_getElem lj]
  have pw := List.pairwise_iff_getElem.mp h
  have h1 : sLt ks[j] ks[j - 1] = false := by
    have := pw (j - 1) j (by omega) lj (by omega)
    unfold So.leS at this
    exact Bool.not_eq_true' _ ▸ this
  have h2 : sLt ks[j - 1] ks[j] = true := by
    rcases So.sLt_tri ks[j - 1] ks[j] with q | q | q
    · exact q
    · exact absurd q.symm ne
    · rw [h1] at q; cases q
  by_cases c : i = j - 1
  · subst c
    exact h2
  · have := pw i (j - 1) (by omega) (by omega) (by omega)
    unfold So.leS at this
    have h3 : sLt ks[j - 1] ks[i] = false := Bool.not_eq_true' _ ▸ this
    exact s_ltn h3 h2
def letS : Str := "abcdefghijklmnopqrst"
theorem letS_ok : letS.cps.toList.length = 20 ∧ ∀ c ∈ letS.cps.toList, decide (97 ≤ c ∧ c ≤ 122) = true := by decide +kernel
def letC (i : Int) : Nat := letS.cps.toList.getD (i % 20).toNat 97
theorem letC_ok (i : Int) : pick letS.cps.toList (i % 20) = some (letC i) ∧ 97 ≤ letC i ∧ letC i ≤ 122 := by
  have hk : (i % 20).toNat < letS.cps.toList.length := by
    rw [letS_ok.1]
    omega
  have e : letC i = letS.cps.toList[(i % 20).toNat] := by
    unfold letC
    rw [List.getD_eq_getElem?_getD, List.getElem?_eq_getElem hk]
    rfl
  have := of_decide_eq_true (letS_ok.2 _ (List.getElem_mem hk))
  rw [← e] at this
  refine ⟨?_, this.1, this.2⟩
  rw [e]
  exact pick_nat (by omega) (List.getElem?_eq_getElem hk)
def keyT (i : Int) : Str := (⟨#[letC (i / 20)]⟩ : Str) ++ (⟨#[letC i]⟩ : Str)
theorem keyT_l (i : Int) : (keyT i).cps.toList = [letC (i / 20), letC i] := rfl
theorem keyT_key (i : Int) : isKeyB (keyT i) = true := by
  unfold isKeyB
  rw [keyT_l, decide_eq_true (show 1 ≤ (keyT i).length ∧ (keyT i).length ≤ 8 from ⟨(by show 1 ≤ 2; omega), (by show 2 ≤ 8; omega)⟩), Bool.true_and, List.all_eq_true]
  intro c hc
  rcases List.mem_cons.mp hc with rfl | hc
  · exact decide_eq_true (letC_ok _).2
  · rcases List.mem_singleton.mp hc with rfl
    exact decide_eq_true (letC_ok _).2
section
variable {μ : Mu} {P : Po} {X : Xo}
theorem sp_keyT {i : Int} (h : P (.str (keyT i)) μ) : f__law_key_2 [.int i] μ P X := by
  rw [f__law_key_2_eq]; unfold f__law_key_2_B fDef
  refine ⟨rfl, ?_⟩
  have g1 := (letC_ok (i / 20)).1
  have g2 := (letC_ok i).1
  have hz : letS.length ≤ 16000000 := by decide +kernel
  have hxl : (⟨#[letC (i / 20)]⟩ : Str).length + (⟨#[letC i]⟩ : Str).length ≤ 16000000 := by
    show 1 + 1 ≤ _
    omega
  rw [show ("abcdefghijklmnopqrst" : Str) = letS from rfl]
  unfold keyT at h
  walk_at "q"
  exact Rt.now h
theorem sp_cell50 {ns : List Int} {k : Int} (hk : 0 ≤ k) (h : ∀ i, P (.int i) μ) : f__law_cell [.rol (ns.map W.int), .int k] μ P X := by
  rw [f__law_cell_eq]; unfold f__law_cell_B fDef
  refine ⟨rfl, ?_⟩
  walk_at "q"
  refine q_ifP (fun c => ?_) fun c => ?_
  · rw [List.length_map] at c
    have gp : pick (ns.map W.int) k = some (.int ns[k.toNat]) := pick_map hk (List.getElem?_eq_getElem (by omega))
    walk_at "q"
    exact Rt.now (h _)
  · walk_at "q"
    exact Rt.now (h _)
theorem cut_ints (ns : List Int) (a b : Int) (ha : 0 ≤ a) (hb : a ≤ b) : ∃ ms : List Int, cutL (ns.map W.int) (some a) (some b) = ms.map W.int ∧ ms.length ≤ (b - a).toNat := by
  refine ⟨cutL ns (some a) (some b), cutL_map _ _ _ _, ?_⟩
  unfold cutL
  rw [List.length_take, HT.sIx, HT.sIx, if_neg (by omega), if_neg (by omega)]
  omega
end
end Q
namespace Q
open PySem L2
local macro_rules | `(tactic| walk_at "mu") => `(tactic| (repeat (first | exact mset_same | assumption | (rw [mset_ne]; rotate_left; (first | assumption | exact Ne.symm (by assumption))))))
local macro_rules | `(tactic| walk_at "lk") => `(tactic| (repeat (first | exact lk_hit | exact lk_nil | refine lk_skip (by decide +kernel) ?_)))
local macro_rules | `(tactic| walk_at "pf") => `(tactic| (repeat (first | rw [pf_nil] | rw [pf_hit] | (rw [pf_skip]; rotate_left; (focus (decide +kernel; done))))))
local macro_rules | `(tactic| walk_at "q") => `(tactic| ((with_reducible conv => whnf); repeat (first
  | (with_reducible refine q_t (by assumption) ?_; with_reducible conv => whnf)
  | (with_reducible refine q_f (by assumption) ?_; with_reducible conv => whnf)
  | (with_reducible refine q_t (by with_reducible rfl) ?_; with_reducible conv => whnf)
  | (with_reducible refine q_f (by with_reducible rfl) ?_; with_reducible conv => whnf)
  | (with_reducible refine q_t (by decide) ?_; with_reducible conv => whnf)
  | (with_reducible refine q_f (by decide) ?_; with_reducible conv => whnf)
  | (with_reducible refine q_t (decide_eq_true (by omega)) ?_; with_reducible conv => whnf)
  | (with_reducible refine q_f (decide_eq_false (by omega)) ?_; with_reducible conv => whnf)
  | (with_reducible refine q_f (q_nn (by omega)) ?_; with_reducible conv => whnf)
  | (with_reducible refine q_t (q_nt (by omega)) ?_; with_reducible conv => whnf)
  | (with_reducible refine q_len (by with_unfolding_all rfl) ?_; with_reducible conv => whnf)
  | (with_reducible refine q_leq (by with_unfolding_all rfl) ?_; with_reducible conv => whnf)
  | (with_reducible refine q_and (by first | assumption | exact True.intro | omega | (simp only [List.length_map, List.length_append, List.length_cons, List.length_nil]; omega) | decide) ?_; with_reducible conv => whnf)
  | (with_reducible refine q_le (by with_unfolding_all rfl) ?_; with_reducible conv => whnf)
  | (with_reducible refine q_and tyL_lst ?_; with_reducible conv => whnf)
  | (with_reducible refine q_and tyL_rol ?_; with_reducible conv => whnf)
  | (with_reducible refine q_and (tyL_ref (by walk_at "mu")) ?_; with_reducible conv => whnf)
  | (with_reducible refine q_and (tyD_ref (by walk_at "mu")) ?_; with_reducible conv => whnf)
  | (with_reducible refine q_and (rdD_ref (by walk_at "mu")) ?_; with_reducible conv => whnf)
  | (rw [pick_c0]; with_reducible conv => whnf)
  | (rw [pick_c1]; with_reducible conv => whnf)
  | (rw [pick_c2]; with_reducible conv => whnf)
  | (rw [pick_c3]; with_reducible conv => whnf)
  | (rw [pick_c4]; with_reducible conv => whnf)
  | (rw [pick_c5]; with_reducible conv => whnf)
  | (rw [mset_same]; with_reducible conv => whnf)
  | (rw [mset_ne (by assumption)]; with_reducible conv => whnf)
  | (rw [mset_ne]; rotate_left; (first | assumption | exact Ne.symm (by assumption)); with_reducible conv => whnf)
  | (rw [rdL_ref]; rotate_left; (focus (walk_at "mu"; done)); with_reducible conv => whnf)
  | (rw [rdL_refD]; rotate_left; (focus (walk_at "mu"; done)); with_reducible conv => whnf)
  | (rw [rdD_refD]; rotate_left; (focus (walk_at "mu"; done)); with_reducible conv => whnf)
  | (rw [rdM_ref]; rotate_left; (focus (walk_at "mu"; done)); with_reducible conv => whnf)
  | (rw [rdL_refK]; rotate_left; (focus (walk_at "mu"; done)); with_reducible conv => whnf)
  | (rw [rdD_refK]; rotate_left; (focus (walk_at "mu"; done)); with_reducible conv => whnf)
  | (rw [tyW_refL]; rotate_left; (focus (walk_at "mu"; done)); with_reducible conv => whnf)
  | (rw [tyW_refD]; rotate_left; (focus (walk_at "mu"; done)); with_reducible conv => whnf)
  | (rw [drf_ref]; rotate_left; (focus (walk_at "mu"; done)); with_reducible conv => whnf)
  | ((conv => (arg 2; tactic' => (walk_at "mu"; done))); with_reducible conv => whnf)
  | (with_reducible refine q_and (Eq.refl _) ?_; with_reducible conv => whnf)
  | (with_reducible refine q_and (MulO.r (by decide)) ?_; with_reducible conv => whnf)
  | (with_reducible refine q_and (MulO.l (by decide)) ?_; with_reducible conv => whnf)
  | (with_reducible refine q_and (MulO.r (by omega)) ?_; with_reducible conv => whnf)
  | (with_reducible refine q_and (MulO.l (by omega)) ?_; with_reducible conv => whnf)
  | (with_reducible refine q_pow (by decide) ?_; with_reducible conv => whnf)
  | (with_reducible refine q_nisT (by first | assumption | with_reducible rfl) ?_; with_reducible conv => whnf)
  | (with_reducible refine q_nisF (by first | assumption | with_reducible rfl) ?_; with_reducible conv => whnf)
  | (with_reducible refine q_eqI ?_; with_reducible conv => whnf)
  | (with_reducible refine q_eqS ?_; with_reducible conv => whnf)
  | (with_reducible refine q_eqB ?_; with_reducible conv => whnf)
  | (with_reducible refine q_neI ?_; with_reducible conv => whnf)
  | (with_reducible refine q_neS ?_; with_reducible conv => whnf)
  | (with_reducible refine q_neB ?_; with_reducible conv => whnf)
  | (with_reducible refine q_memc ?_; with_reducible conv => whnf)
  | (with_reducible refine q_lkn (by walk_at "lk") ?_; with_reducible conv => whnf)
  | (with_reducible refine q_tix (by walk_at "lk"; done) ?_; with_reducible conv => whnf)
  | (with_reducible refine q_tin ?_; with_reducible conv => whnf)
  | (rw [pf_hit]; with_reducible conv => whnf)
  | (rw [pf_skip]; rotate_left; (focus (decide +kernel; done)); with_reducible conv => whnf)
  | (rw [lk_hit]; with_reducible conv => whnf)
  | (rw [lk_skip1]; rotate_left; (focus (decide +kernel; done)); with_reducible conv => whnf))))
/-! k50: the table at first -/
def remN (lows keys : List Str) (k : Nat) : Nat := match lows[k]? with
  | some l => (keys.filter fun x => !sLt x l).length
  | none => 0
structure Pre (n : Nat) (lows keys : List Str) (D : List Ro) : Prop where
  ch : ∀ q, Ch n (lows[D.length]?) q → Ch n (some "") (D ++ q)
  h : HT D + remN lows keys D.length ≤ keys.length
theorem e_lt {x : Str} (h : isKeyB x = true) : sLt "" x = true := by
  unfold isKeyB at h
  have h1 := (of_decide_eq_true (Bool.and_eq_true_iff.mp h).1).1
  have h2 : x.cps.toList ≠ [] := fun e => by
    have : x.length = x.cps.toList.length := rfl
    rw [e] at this
    rw [this] at h1
    exact absurd h1 (by decide)
  unfold sLt
  refine decide_eq_true ?_
  show ([] : List Nat) < x.cps.toList
  cases e : x.cps.toList with
  | nil => exact absurd e h2
  | cons a b => exact List.nil_lt_cons a b
theorem filter_two (keys : List Str) (p q : Str → Bool) : (keys.filter fun x => p x && q x).length + (keys.filter fun x => p x && !q x).length = (keys.filter p).length := by
  induction keys with
  | nil => rfl
  | cons x t ih =>
    rw [List.filter_cons, List.filter_cons, List.filter_cons]
    cases p x <;> cases q x <;> simp <;> omega
theorem Pre.step {n : Nat} {lows keys : List Str} {D : List Ro} (hp : Pre n lows keys D) (hk : D.length < lows.length) (hl : Ris lows) (hkr : Ris keys) (hkk : ∀ x ∈ keys, isKeyB x = true) (hz : ∀ x ∈ lows, x.length ≤ 8) {ep x : Int} (x0 : 0 ≤ x) (xn : x < n) :
    Pre n lows keys (D ++ [⟨lows[D.length], lows[D.length + 1]?, ep, x, keys.filter fun k => !sLt k lows[D.length] && belowB k lows[D.length + 1]?⟩]) := by
  have g0 : lows[D.length]? = some lows[D.length] := List.getElem?_eq_getElem hk
  refine ⟨fun q hq => ?_, ?_⟩
  · rw [List.append_assoc]
    refine hp.ch _ ?_
    rw [g0]
    rw [List.length_append, List.length_singleton] at hq
    refine ⟨rfl, ⟨hkr.sub List.filter_sublist, fun k hk => hkk k (List.mem_filter.mp hk).1, fun k hk => ?_, fun k hk => (Bool.and_eq_true_iff.mp (List.mem_filter.mp hk).2).2, x0, xn, fun y hy => ?_, hz _ (List.getElem_mem hk)⟩, hq⟩
    · have := (Bool.and_eq_true_iff.mp (List.mem_filter.mp hk).2).1
      exact Bool.not_eq_true' _ ▸ this
    · obtain ⟨h1, h2⟩ := List.getElem?_eq_some_iff.mp hy
      rw [← h2]
      exact List.pairwise_iff_getElem.mp hl _ _ hk h1 (by omega)
  · have h0 := hp.h
    rw [HT_app, HT, HT, List.length_append, List.length_singleton]
    unfold remN at h0 ⊢
    rw [g0] at h0
    simp only at h0 ⊢
    cases e : lows[D.length + 1]? with
    | none =>
      have : (keys.filter fun k => !sLt k lows[D.length] && belowB k none).length ≤ (keys.filter fun x => !sLt x lows[D.length]).length := by
        have e2 : (keys.filter fun k => !sLt k lows[D.length] && belowB k none) = keys.filter fun x => !sLt x lows[D.length] := by
          refine List.filter_congr fun x _ => ?_
          show (_ && true) = _
          rw [Bool.and_true]
        rw [e2]
        exact Nat.le_refl _
      simp only
      omega
    | some l =>
      have e2 := filter_two keys (fun x => !sLt x lows[D.length]) (fun x => sLt x l)
      have e3 : (keys.filter fun x => !sLt x lows[D.length] && !sLt x l) = keys.filter fun x => !sLt x l := by
        refine List.filter_congr fun x _ => ?_
        obtain ⟨h1, h2⟩ := List.getElem?_eq_some_iff.mp e
        have hlt : sLt lows[D.length] l = true := by
          rw [← h2]
          exact List.pairwise_iff_getElem.mp hl _ _ hk h1 (by omega)
        cases c : sLt x l with
        | true => simp
        | false =>
          have := So.sLt_as (s_nlt hlt c)
          simp [this]
      rw [e3] at e2
      simp only
      have e4 : (keys.filter fun k => !sLt k lows[D.length] && belowB k (some l)) = keys.filter fun x => !sLt x lows[D.length] && sLt x l := rfl
      rw [e4]
      omega
section
variable {μ : Mu} {P : Po} {X : Xo}
theorem srtK {ks : List Int} : ∀ x ∈ dist (So.sortS (ks.map keyT)), isKeyB x = true := fun x hx => by
  have := (So.sortS_perm _).mem_iff.mp (dist_mem hx)
  obtain ⟨i, -, rfl⟩ := List.mem_map.mp this
  exact keyT_key i
theorem srtL {ks : List Int} : (dist (So.sortS (ks.map keyT))).length ≤ ks.length := by
  have := dist_len (So.sortS (ks.map keyT))
  rw [(So.sortS_perm _).length_eq, List.length_map] at this
  exact this
theorem sp__law_table {ns : List Int} {n : Nat} (hl : ns.length ≤ 1000) (h0 : 0 < n) (hn : n ≤ 100) (h : ∀ p T, μ p = none → Ch n (some "") T → T.length ≤ 12 → HT T ≤ 40 → P (.ref p) (mset μ p (.ls (T.map rowW)))) : f__law_table [.rol (ns.map W.int), .int n] μ P X := by
  rw [f__law_table_eq]; unfold f__law_table_B fDef
  refine ⟨rfl, ?_⟩
  obtain ⟨k1, ek1, lk1⟩ := cut_ints ns 2 42 (by omega) (by omega)
  obtain ⟨k2, ek2, lk2⟩ := cut_ints ns 2 13 (by omega) (by omega)
  have lk1 : k1.length ≤ 40 := lk1
  have lk2 : k2.length ≤ 11 := lk2
  walk_at "q"
  rw [ek1]
  refine lcV_m W.int (fun i => .str (keyT (i / 7 % 400))) k1 (by omega) ?_ (fun i hi μ' he Y hy => ?_) ?_
  · intros
    rfl
  · walk_at "q"
    refine sp_keyT ?_
    exact hy
  rw [show k1.map (fun i => W.str (keyT (i / 7 % 400))) = ((k1.map fun i => i / 7 % 400).map keyT).map W.str by rw [List.map_map, List.map_map]; rfl]
  have m1 : (k1.map fun i => i / 7 % 400).length ≤ 40 := by rw [List.length_map]; exact lk1
  revert m1
  generalize (k1.map fun i => i / 7 % 400) = j1
  intro m1
  walk_at "q"
  refine ⟨j1.map keyT, rfl, ?_⟩
  have s1 := So.sortS_pw (j1.map keyT)
  have d1 := srtK (ks := j1)
  have d2 := srtL (ks := j1)
  have d3 : (So.sortS (j1.map keyT)).length ≤ 40 := by
    rw [(So.sortS_perm _).length_eq, List.length_map]
    exact m1
  have d4 := dist_ris s1
  revert s1 d1 d2 d3 d4
  generalize So.sortS (j1.map keyT) = ks
  intro s1 d1 d2 d3 d4
  walk_at "q"
  rw [List.length_map]
  refine lcV_tm (fun i : Nat => .int (0 + (i : Int))) (fun i : Nat => .str (ks.getD i "")) (tD ks) (List.range ks.length) (by rw [List.length_range]; omega) ?_ (fun i hi μ' he N Y hn2 hy => ?_) ?_
  · intros
    trivial
  · have li := List.mem_range.mp hi
    have pi : pick (ks.map W.str) (0 + (i : Int)) = some (.str (ks.getD i "")) := by
      rw [Int.zero_add]
      exact pick_mapN (by rw [List.getD_eq_getElem?_getD, List.getElem?_eq_getElem li]; rfl)
    walk_at "q"
    refine q_ifP (fun c => ?_) fun c => ?_
    · walk_at "q"
      exact hy (by unfold tD; rw [decide_eq_true (by omega)]; rfl)
    · have pj : pick (ks.map W.str) (0 + (i : Int) - 1) = some (.str (ks.getD (i - 1) "")) := by
        rw [show 0 + (i : Int) - 1 = ((i - 1 : Nat) : Int) by omega]
        exact pick_mapN (by rw [List.getD_eq_getElem?_getD, List.getElem?_eq_getElem (by omega)]; rfl)
      have ei : tD ks i = !decide (ks.getD i "" = ks.getD (i - 1) "") := by
        unfold tD
        rw [decide_eq_false (by omega), Bool.false_or]
      revert pi pj ei hn2 hy
      generalize ks.getD i "" = u
      generalize ks.getD (i - 1) "" = v
      intro hn2 hy pi pj ei
      rw [ei] at hn2 hy
      walk_at "q"
      refine q_if (fun c2 => ?_) fun c2 => ?_
      · walk_at "q"
        exact hy c2
      · walk_at "q"
        exact hn2 c2
  rw [dist_w]
  have r1 := d4
  have r2 : (dist ks).length ≤ 40 := Nat.le_trans d2 (by omega)
  revert r1 r2 d1
  generalize dist ks = keys
  intro d1 r1 r2
  walk_at "q"
  rw [ek2]
  refine lcV_m W.int (fun i => .str (keyT (i / 3000 % 400))) k2 (by omega) ?_ (fun i hi μ' he Y hy => ?_) ?_
  · intros
    rfl
  · walk_at "q"
    refine sp_keyT ?_
    exact hy
  rw [show k2.map (fun i => W.str (keyT (i / 3000 % 400))) = ((k2.map fun i => i / 3000 % 400).map keyT).map W.str by rw [List.map_map, List.map_map]; rfl]
  have m2 : (k2.map fun i => i / 3000 % 400).length ≤ 11 := by rw [List.length_map]; exact lk2
  revert m2
  generalize (k2.map fun i => i / 3000 % 400) = j2
  intro m2
  walk_at "q"
  refine ⟨j2.map keyT, rfl, ?_⟩
  have t1 := So.sortS_pw (j2.map keyT)
  have e1 := srtK (ks := j2)
  have e2 := srtL (ks := j2)
  have e3 : (So.sortS (j2.map keyT)).length ≤ 11 := by
    rw [(So.sortS_perm _).length_eq, List.length_map]
    exact m2
  have e4 := dist_ris t1
  revert t1 e1 e2 e3 e4
  generalize So.sortS (j2.map keyT) = cs
  intro t1 e1 e2 e3 e4
  walk_at "q"
  rw [List.length_map]
  refine lcV_tm (fun i : Nat => .int (0 + (i : Int))) (fun i : Nat => .str (cs.getD i "")) (tD cs) (List.range cs.length) (by rw [List.length_range]; omega) ?_ (fun i hi μ' he N Y hn2 hy => ?_) ?_
  · intros
    trivial
  · have li := List.mem_range.mp hi
    have pi : pick (cs.map W.str) (0 + (i : Int)) = some (.str (cs.getD i "")) := by
      rw [Int.zero_add]
      exact pick_mapN (by rw [List.getD_eq_getElem?_getD, List.getElem?_eq_getElem li]; rfl)
    walk_at "q"
    refine q_ifP (fun c => ?_) fun c => ?_
    · walk_at "q"
      exact hy (by unfold tD; rw [decide_eq_true (by omega)]; rfl)
    · have pj : pick (cs.map W.str) (0 + (i : Int) - 1) = some (.str (cs.getD (i - 1) "")) := by
        rw [show 0 + (i : Int) - 1 = ((i - 1 : Nat) : Int) by omega]
        exact pick_mapN (by rw [List.getD_eq_getElem?_getD, List.getElem?_eq_getElem (by omega)]; rfl)
      have ei : tD cs i = !decide (cs.getD i "" = cs.getD (i - 1) "") := by
        unfold tD
        rw [decide_eq_false (by omega), Bool.false_or]
      revert pi pj ei hn2 hy
      generalize cs.getD i "" = u
      generalize cs.getD (i - 1) "" = v
      intro hn2 hy pi pj ei
      rw [ei] at hn2 hy
      walk_at "q"
      refine q_if (fun c2 => ?_) fun c2 => ?_
      · walk_at "q"
        exact hy c2
      · walk_at "q"
        exact hn2 c2
  rw [dist_w]
  have f2 : (dist cs).length ≤ 11 := Nat.le_trans e2 m2
  revert e1 e4 f2
  generalize dist cs = cuts
  intro e1 f1 f2
  have lows0 : ∃ lows : List Str, lows = ("" : Str) :: cuts := ⟨_, rfl⟩
  obtain ⟨lows, el⟩ := lows0
  have hlr : Ris lows := by
    rw [el]
    exact .cons (fun x hx => e_lt (e1 x hx)) f1
  have hlz : ∀ x ∈ lows, x.length ≤ 8 := fun x hx => by
    rw [el] at hx
    rcases List.mem_cons.mp hx with rfl | q
    · exact Nat.zero_le _
    · have := e1 x q
      unfold isKeyB at this
      exact (of_decide_eq_true (Bool.and_eq_true_iff.mp this).1).2
  have hll : lows.length ≤ 12 := by
    rw [el, List.length_cons]
    omega
  have hl0 : lows[0]? = some ("" : Str) := by rw [el]; rfl
  have hw : [W.str ""] ++ cuts.map W.str = lows.map W.str := by rw [el]; rfl
  have hl1 : 0 < lows.length := by rw [el, List.length_cons]; omega
  clear el
  walk_at "q"
  intro p hp
  rw [hw]
  walk_at "q"
  rw [List.length_map]
  refine itS_nums (fun k ρ μ' => ∃ (D : List Ro) (x3 x6 x7 x8 x9 x10 x11 : Option W), D.length = k ∧ Pre n lows keys D ∧ μ' = mset μ p (.ls (D.map rowW)) ∧ ρ = [some (.rol (ns.map W.int)), some (.int n), some (.lst (keys.map W.str)), x3, some (.lst (lows.map W.str)), some (.ref p), x6, x7, x8, x9, x10, x11]) ⟨[], _, _, _, _, _, _, _, rfl, ⟨fun q hq => ?_, ?_⟩, rfl, rfl⟩ (by intros; trivial) ?_ ?_
  · rw [List.length_nil, hl0] at hq
    exact hq
  · unfold remN
    rw [List.length_nil, hl0]
    have := List.length_filter_le (fun x => !sLt x "") keys
    simp only [HT]
    omega
  · rintro k hk ρ μ' ⟨D, x3, x6, x7, x8, x9, x10, x11, hD, hP, rfl, rfl⟩ K hK
    subst hD
    have pk : pick (lows.map W.str) (0 + (D.length : Int)) = some (.str lows[D.length]) := by
      rw [Int.zero_add]
      exact pick_mapN (List.getElem?_eq_getElem hk)
    have hDl : (D.map rowW).length ≤ 1000 := by
      rw [List.length_map]
      omega
    have fin : ∀ (ep x : Int) (x3 x6 x7 x8 x9 x10 x11 : Option W), 0 ≤ x → x < n → K [some (.rol (ns.map W.int)), some (.int n), some (.lst (keys.map W.str)), x3, some (.lst (lows.map W.str)), some (.ref p), x6, x7, x8, x9, x10, x11] (mset μ p (.ls (D.map rowW ++ [rowW ⟨lows[D.length], lows[D.length + 1]?, ep, x, keys.filter fun k => !sLt k lows[D.length] && belowB k lows[D.length + 1]?⟩]))) := fun ep x x3 x6 x7 x8 x9 x10 x11 h1 h2 => hK _ _ ⟨D ++ [⟨lows[D.length], lows[D.length + 1]?, ep, x, keys.filter fun k => !sLt k lows[D.length] && belowB k lows[D.length + 1]?⟩], _, _, _, _, _, _, _, by rw [List.length_append, List.length_singleton], hP.step hk hlr r1 d1 hlz h1 h2, by rw [List.map_append]; rfl, rfl⟩
    walk_at "q"
    refine q_jn (fun ρ' μ2 => μ2 = mset μ p (.ls (D.map rowW)) ∧ ρ' = [some (.rol (ns.map W.int)), some (.int n), some (.lst (keys.map W.str)), x3, some (.lst (lows.map W.str)), some (.ref p), some (.int (0 + (D.length : Int))), some (oS lows[D.length + 1]?), x8, x9, x10, x11]) (fun K2 hK2 => ?_) ?_
    · walk_at "q"
      rw [List.length_map]
      refine q_ifP (fun c => ?_) fun c => ?_
      · have g2 : lows[D.length + 1]? = some lows[D.length + 1] := List.getElem?_eq_getElem (by omega)
        have p2 : pick (lows.map W.str) (0 + (D.length : Int) + 1) = some (.str lows[D.length + 1]) := by
          rw [show 0 + (D.length : Int) + 1 = ((D.length + 1 : Nat) : Int) by omega]
          exact pick_mapN g2
        rw [g2] at hK2
        walk_at "q"
        exact hK2 _ _ ⟨rfl, rfl⟩
      · have g2 : lows[D.length + 1]? = none := List.getElem?_eq_none (by omega)
        rw [g2] at hK2
        walk_at "q"
        exact hK2 _ _ ⟨rfl, rfl⟩
    · rintro _ _ ⟨rfl, rfl⟩
      revert fin pk
      generalize lows[D.length] = lo
      generalize lows[D.length + 1]? = hi
      intro pk fin
      walk_at "q"
      refine lcV_tm W.str W.str (fun k => !sLt k lo && belowB k hi) keys (by omega) ?_ (fun z hz μ' he N Y hn2 hy => ?_) ?_
      · intros
        rfl
      · walk_at "q"
        refine q_if (fun c => ?_) fun c => ?_
        · rw [c] at hn2 hy
          cases hi with
          | none =>
            walk_at "q"
            exact hy rfl
          | some y =>
            walk_at "q"
            refine q_if (fun c2 => ?_) fun c2 => ?_
            · walk_at "q"
              exact hy c2
            · walk_at "q"
              exact hn2 c2
        · rw [c] at hn2
          walk_at "q"
          exact hn2 rfl
      walk_at "q"
      refine sp_cell50 (by omega) fun i1 => ?_
      have hkl : (0 : Int) + (D.length : Int) < 12 := by omega
      walk_at "q"
      refine sp_cell50 (by omega) fun i2 => ?_
      walk_at "q"
      have q0 : 0 ≤ (i1 / (0 + (D.length : Int) + 1) + i2) % (n : Int) := Int.emod_nonneg _ (by omega)
      have q1 : (i1 / (0 + (D.length : Int) + 1) + i2) % (n : Int) < n := Int.emod_lt_of_pos _ (by omega)
      rw [mset_mset]
      exact fin _ _ _ _ _ _ _ _ _ q0 q1
  · rintro ρ μ' ⟨D, x3, x6, x7, x8, x9, x10, x11, hD, hP, rfl, rfl⟩
    walk_at "q"
    have hc := hP.ch [] (by rw [hD, List.getElem?_eq_none (by omega)]; rfl)
    rw [List.append_nil] at hc
    exact Rt.now (h p D hp hc (by omega) (by have := hP.h; omega))
end
end Q
namespace Q
open PySem L2
local macro_rules | `(tactic| walk_at "mu") => `(tactic| (repeat (first | exact mset_same | assumption | (rw [mset_ne]; rotate_left; (first | assumption | exact Ne.symm (by assumption))))))
local macro_rules | `(tactic| walk_at "lk") => `(tactic| (repeat (first | exact lk_hit | exact lk_nil | refine lk_skip (by decide +kernel) ?_)))
local macro_rules | `(tactic| walk_at "pf") => `(tactic| (repeat (first | rw [pf_nil] | rw [pf_hit] | (rw [pf_skip]; rotate_left; (focus (decide +kernel; done))))))
local macro_rules | `(tactic| walk_at "q") => `(tactic| ((with_reducible conv => whnf); repeat (first
  | (with_reducible refine q_t (by assumption) ?_; with_reducible conv => whnf)
  | (with_reducible refine q_f (by assumption) ?_; with_reducible conv => whnf)
  | (with_reducible refine q_t (by with_reducible rfl) ?_; with_reducible conv => whnf)
  | (with_reducible refine q_f (by with_reducible rfl) ?_; with_reducible conv => whnf)
  | (with_reducible refine q_t (by decide) ?_; with_reducible conv => whnf)
  | (with_reducible refine q_f (by decide) ?_; with_reducible conv => whnf)
  | (with_reducible refine q_t (decide_eq_true (by omega)) ?_; with_reducible conv => whnf)
  | (with_reducible refine q_f (decide_eq_false (by omega)) ?_; with_reducible conv => whnf)
  | (with_reducible refine q_f (q_nn (by omega)) ?_; with_reducible conv => whnf)
  | (with_reducible refine q_t (q_nt (by omega)) ?_; with_reducible conv => whnf)
  | (with_reducible refine q_len (by with_unfolding_all rfl) ?_; with_reducible conv => whnf)
  | (with_reducible refine q_leq (by with_unfolding_all rfl) ?_; with_reducible conv => whnf)
  | (with_reducible refine q_and (by first | assumption | exact True.intro | omega | (simp only [List.length_map, List.length_append, List.length_cons, List.length_nil]; omega) | decide) ?_; with_reducible conv => whnf)
  | (with_reducible refine q_le (by with_unfolding_all rfl) ?_; with_reducible conv => whnf)
  | (with_reducible refine q_and tyL_lst ?_; with_reducible conv => whnf)
  | (with_reducible refine q_and tyL_rol ?_; with_reducible conv => whnf)
  | (with_reducible refine q_and (tyL_ref (by walk_at "mu")) ?_; with_reducible conv => whnf)
  | (with_reducible refine q_and (tyD_ref (by walk_at "mu")) ?_; with_reducible conv => whnf)
  | (with_reducible refine q_and (rdD_ref (by walk_at "mu")) ?_; with_reducible conv => whnf)
  | (rw [pick_c0]; with_reducible conv => whnf)
  | (rw [pick_c1]; with_reducible conv => whnf)
  | (rw [pick_c2]; with_reducible conv => whnf)
  | (rw [pick_c3]; with_reducible conv => whnf)
  | (rw [pick_c4]; with_reducible conv => whnf)
  | (rw [pick_c5]; with_reducible conv => whnf)
  | (rw [mset_same]; with_reducible conv => whnf)
  | (rw [mset_ne (by assumption)]; with_reducible conv => whnf)
  | (rw [mset_ne]; rotate_left; (first | assumption | exact Ne.symm (by assumption)); with_reducible conv => whnf)
  | (rw [rdL_ref]; rotate_left; (focus (walk_at "mu"; done)); with_reducible conv => whnf)
  | (rw [rdL_refD]; rotate_left; (focus (walk_at "mu"; done)); with_reducible conv => whnf)
  | (rw [rdD_refD]; rotate_left; (focus (walk_at "mu"; done)); with_reducible conv => whnf)
  | (rw [rdM_ref]; rotate_left; (focus (walk_at "mu"; done)); with_reducible conv => whnf)
  | (rw [rdL_refK]; rotate_left; (focus (walk_at "mu"; done)); with_reducible conv => whnf)
  | (rw [rdD_refK]; rotate_left; (focus (walk_at "mu"; done)); with_reducible conv => whnf)
  | (rw [tyW_refL]; rotate_left; (focus (walk_at "mu"; done)); with_reducible conv => whnf)
  | (rw [tyW_refD]; rotate_left; (focus (walk_at "mu"; done)); with_reducible conv => whnf)
  | (rw [drf_ref]; rotate_left; (focus (walk_at "mu"; done)); with_reducible conv => whnf)
  | ((conv => (arg 2; tactic' => (walk_at "mu"; done))); with_reducible conv => whnf)
  | (with_reducible refine q_and (Eq.refl _) ?_; with_reducible conv => whnf)
  | (with_reducible refine q_and (MulO.r (by decide)) ?_; with_reducible conv => whnf)
  | (with_reducible refine q_and (MulO.l (by decide)) ?_; with_reducible conv => whnf)
  | (with_reducible refine q_and (MulO.r (by omega)) ?_; with_reducible conv => whnf)
  | (with_reducible refine q_and (MulO.l (by omega)) ?_; with_reducible conv => whnf)
  | (with_reducible refine q_pow (by decide) ?_; with_reducible conv => whnf)
  | (with_reducible refine q_nisT (by first | assumption | with_reducible rfl) ?_; with_reducible conv => whnf)
  | (with_reducible refine q_nisF (by first | assumption | with_reducible rfl) ?_; with_reducible conv => whnf)
  | (with_reducible refine q_eqI ?_; with_reducible conv => whnf)
  | (with_reducible refine q_eqS ?_; with_reducible conv => whnf)
  | (with_reducible refine q_eqB ?_; with_reducible conv => whnf)
  | (with_reducible refine q_neI ?_; with_reducible conv => whnf)
  | (with_reducible refine q_neS ?_; with_reducible conv => whnf)
  | (with_reducible refine q_neB ?_; with_reducible conv => whnf)
  | (with_reducible refine q_memc ?_; with_reducible conv => whnf)
  | (with_reducible refine q_lkn (by walk_at "lk") ?_; with_reducible conv => whnf)
  | (with_reducible refine q_tix (by walk_at "lk"; done) ?_; with_reducible conv => whnf)
  | (with_reducible refine q_tin ?_; with_reducible conv => whnf)
  | (rw [pf_hit]; with_reducible conv => whnf)
  | (rw [pf_skip]; rotate_left; (focus (decide +kernel; done)); with_reducible conv => whnf)
  | (rw [lk_hit]; with_reducible conv => whnf)
  | (rw [lk_skip1]; rotate_left; (focus (decide +kernel; done)); with_reducible conv => whnf))))
/-! k50: a turn, and the law -/
section
variable {μ : Mu} {P : Po} {X : Xo} {a : Addr} {n : Nat}
/-- what a turn still has to do: T0 the table at its start, T now -/
structure Tn (n : Nat) (T0 T : List Ro) (all os : List Od) : Prop where
  iv : Iv n T
  nd : (os.flatMap Od.rows).Nodup
  inn : ∀ r ∈ os.flatMap Od.rows, r ∈ T.map rep
  nam : ∀ r ∈ os.flatMap Od.rows, r ∈ T0.map rep
  val : ∀ o ∈ os, o.Val (T0.map rep) n
  las : Last os
  p1 : pot n T (mvOf os) ≤ pot n T0 none
  p2 : mvOf os ≠ none → pot n T (mvOf os) + 2 ≤ pot n T0 none
  p3 : os.length < all.length → pot n T (mvOf os) + 2 ≤ pot n T0 none
theorem mvOf_last : ∀ {os : List Od}, Last os → (∃ r t l, os = l ++ [.mov r t] ∧ mvOf os = some (r.x, t)) ∨ mvOf os = none
  | [], _ => .inr rfl
  | .mov r t :: l, h => by
    have e : l = [] := h
    subst e
    exact .inl ⟨r, t, [], rfl, rfl⟩
  | .spl r :: l, h => by
    rcases mvOf_last (os := l) h with ⟨r', t, l', e, e2⟩ | e
    · exact .inl ⟨r', t, .spl r :: l', by rw [e]; rfl, e2⟩
    · exact .inr e
  | .jon r s :: l, h => by
    rcases mvOf_last (os := l) h with ⟨r', t, l', e, e2⟩ | e
    · exact .inl ⟨r', t, .jon r s :: l', by rw [e]; rfl, e2⟩
    · exact .inr e
theorem Tn.start {T0 : List Ro} {b t : Nat} (hi : Iv n T0) (ht : t < n) : Tn n T0 T0 (ords (T0.map rep) b t) (ords (T0.map rep) b t) := by
  obtain ⟨n1, n2⟩ := ords_nd hi.ch.nodup b t
  have vl := ords_val (rs := T0.map rep) (b := b) ht
  have ls := ords_last (T0.map rep) b t
  have key : mvOf (ords (T0.map rep) b t) ≠ none → pot n T0 (mvOf (ords (T0.map rep) b t)) + 2 ≤ pot n T0 none := fun hne => by
    rcases mvOf_last ls with ⟨r, t', l, e, e2⟩ | e
    · rw [e2]
      have hm : Od.mov r t' ∈ ords (T0.map rep) b t := by rw [e]; exact List.mem_append_right _ List.mem_cons_self
      obtain ⟨v1, v2⟩ := vl _ hm
      have hr : r ∈ T0.map rep := n2 r (List.mem_flatMap.mpr ⟨_, hm, List.mem_cons_self⟩)
      obtain ⟨s, hs, rfl⟩ := List.mem_map.mp hr
      have ok := hi.ch.ok s hs
      obtain ⟨k, hk⟩ := Int.eq_ofNat_of_zero_le ok.x0
      have hx : (rep s).x = (k : Int) := hk
      rw [hx] at v2 ⊢
      rw [ld_load, ld_load] at v2
      have := ok.xn
      exact pot_start (by omega) v1 v2
    · exact absurd e hne
  refine ⟨hi, n1, n2, n2, vl, ls, ?_, key, fun h => absurd h (Nat.lt_irrefl _)⟩
  by_cases c : mvOf (ords (T0.map rep) b t) = none
  · rw [c]
    exact Int.le_refl _
  · have := key c
    omega
theorem nd_tail {x : Od} {l : List Od} (h : ((x :: l).flatMap Od.rows).Nodup) : (l.flatMap Od.rows).Nodup ∧ ∀ r ∈ l.flatMap Od.rows, r ∉ x.rows := by
  rw [List.flatMap_cons] at h
  obtain ⟨-, h2, h3⟩ := List.nodup_append.mp h
  exact ⟨h2, fun r hr hx => h3 r hx r hr rfl⟩
theorem mem_split {T : List Ro} {r : Rep} (h : r ∈ T.map rep) : ∃ p s q, T = p ++ s :: q ∧ rep s = r := by
  obtain ⟨s, hs, e⟩ := List.mem_map.mp h
  obtain ⟨p, q, e2⟩ := List.append_of_mem hs
  exact ⟨p, s, q, e2, e⟩
theorem keep_in {p q new old : List Ro} {r : Rep} (h : r ∈ (p ++ (old ++ q)).map rep) (hn : r ∉ old.map rep) : r ∈ (p ++ (new ++ q)).map rep := by
  rw [List.map_append, List.map_append] at h ⊢
  rcases List.mem_append.mp h with g | g
  · exact List.mem_append_left _ g
  · rcases List.mem_append.mp g with g | g
    · exact absurd g hn
    · exact List.mem_append_right _ (List.mem_append_right _ g)
/-- one order carried -/
theorem Tn.step {T0 T : List Ro} {all os : List Od} {o : Od} (h : Tn n T0 T all (o :: os)) (ha : μ a = some (.ls (T.map rowW))) (hk : ∀ T', Tn n T0 T' all os → P (.bl true) (mset μ a (.ls (T'.map rowW)))) : f__law_carried [.ref a, .int o.sv, o.ord] μ P X := by
  obtain ⟨nd2, nd3⟩ := nd_tail h.nd
  have hin2 : ∀ r ∈ os.flatMap Od.rows, r ∈ T.map rep := fun r hr => h.inn r (by rw [List.flatMap_cons]; exact List.mem_append_right _ hr)
  have hnam2 : ∀ r ∈ os.flatMap Od.rows, r ∈ T0.map rep := fun r hr => h.nam r (by rw [List.flatMap_cons]; exact List.mem_append_right _ hr)
  have hval2 : ∀ x ∈ os, x.Val (T0.map rep) n := fun x hx => h.val x (List.mem_cons_of_mem _ hx)
  have hv := h.val o List.mem_cons_self
  have hin : ∀ r ∈ o.rows, r ∈ T.map rep := fun r hr => h.inn r (by rw [List.flatMap_cons]; exact List.mem_append_left _ hr)
  cases o with
  | spl r =>
    obtain ⟨p, s, q, rfl, rfl⟩ := mem_split (hin r List.mem_cons_self)
    have hv : largeB (rep s) = true := hv
    obtain ⟨i1, i2⟩ := h.iv.split hv
    refine sp_carS ha h.iv (hk _ ⟨i1, nd2, fun x hx => ?_, hnam2, hval2, h.las, ?_, ?_, ?_⟩)
    · exact keep_in (old := [s]) (new := [leftR s, rightR s]) (hin2 x hx) (nd3 x hx)
    · have := i2 (mvOf os)
      have h1 : pot n (p ++ s :: q) (mvOf os) ≤ pot n T0 none := h.p1
      omega
    · intro _
      have := i2 (mvOf os)
      have h1 : pot n (p ++ s :: q) (mvOf os) ≤ pot n T0 none := h.p1
      omega
    · intro _
      have := i2 (mvOf os)
      have h1 : pot n (p ++ s :: q) (mvOf os) ≤ pot n T0 none := h.p1
      omega
  | jon r r2 =>
    obtain ⟨p, s, q, rfl, rfl⟩ := mem_split (hin r List.mem_cons_self)
    obtain ⟨s2, hs2, rfl⟩ := List.mem_map.mp (hin r2 (List.mem_cons_of_mem _ List.mem_cons_self))
    have hv : togB (rep s) (rep s2) = true := hv
    have eh : s.hi = some s2.lo := by
      have hv2 := hv
      unfold togB at hv2
      simp only [Bool.and_eq_true, decide_eq_true_eq] at hv2
      exact hv2.1
    obtain ⟨q2, rfl⟩ := h.iv.ch.next hs2 eh
    refine sp_carJ ha h.iv hv fun e => ?_
    obtain ⟨i1, i2⟩ := h.iv.join e hv
    obtain ⟨j1, j2⟩ := i2 (mvOf os)
    have h1 : pot n (p ++ s :: s2 :: q2) (mvOf os) ≤ pot n T0 none := h.p1
    have h2 : mvOf os ≠ none → pot n (p ++ s :: s2 :: q2) (mvOf os) + 2 ≤ pot n T0 none := h.p2
    refine hk _ ⟨i1, nd2, fun x hx => ?_, hnam2, hval2, h.las, ?_, ?_, ?_⟩
    · exact keep_in (old := [s, s2]) (new := [joinR s s2 e]) (hin2 x hx) (nd3 x hx)
    · omega
    · intro c
      have := h2 c
      omega
    · intro _
      by_cases c : mvOf os = none
      · have := j2 c
        omega
      · have := h2 c
        omega
  | mov r t =>
    obtain ⟨p, s, q, rfl, rfl⟩ := mem_split (hin r List.mem_cons_self)
    have e : os = [] := h.las
    subst e
    obtain ⟨v1, v2⟩ := hv
    obtain ⟨i1, i2⟩ := h.iv.move (r := s) v1
    have h2 : pot n (p ++ s :: q) (some (s.x, t)) + 2 ≤ pot n T0 none := h.p2 (fun e => nomatch e)
    refine sp_carM ha h.iv (hk _ ⟨i1, nd2, (fun x hx => nomatch hx), (fun x hx => nomatch hx), (fun x hx => nomatch hx), trivial, ?_, ?_, ?_⟩)
    · show pot n _ none ≤ _
      omega
    · exact fun c => absurd rfl c
    · intro _
      show pot n _ none + 2 ≤ _
      omega
end
theorem law_k50 : LawOk f_law_16 63 := by
  intro ns hl P X hP
  rw [f_law_16_eq]; unfold f_law_16_B fDef
  refine ⟨rfl, ?_⟩
  walk_at "q"
  refine sp_cell50 (by omega) fun c0 => ?_
  walk_at "q"
  obtain ⟨n, hn, h0, hn2⟩ : ∃ n : Nat, 1 + c0 % 20 = (n : Int) ∧ 0 < n ∧ n ≤ 100 := ⟨(1 + c0 % 20).toNat, by omega, by omega, by omega⟩
  rw [hn]
  clear hn
  walk_at "q"
  refine sp__law_table (by omega) h0 hn2 fun p T hp hc hl2 hh => ?_
  have hv0 : Iv n T := ⟨hc, by have := GT_40 hh; omega, hh⟩
  have hp0 := pot_first hc hl2 hh
  walk_at "q"
  refine itS_nums (fun k ρ μ' => ∃ (T : List Ro) (x3 x4 x5 x6 x7 x8 : Option W), Iv n T ∧ pot n T none + 2 * (k : Int) ≤ 549 ∧ μ' p = some (.ls (T.map rowW)) ∧ ρ = [some (.rol (ns.map W.int)), some (.int n), some (.ref p), x3, x4, x5, x6, x7, x8]) ⟨T, _, _, _, _, _, _, hv0, by omega, mset_same, rfl⟩ (by intros; trivial) ?_ ?_
  · clear hp hc hl2 hh hv0 hp0 T
    rintro k hk ρ μ ⟨T, x3, x4, x5, x6, x7, x8, hv, hpt, hp, rfl⟩ K hK
    have hlT : T.length ≤ 21 := by
      have := hv.g
      omega
    walk_at "q"
    refine sp_pieces4 hp (by omega) hv.h fun q hq => ?_
    have hqp : q ≠ p := fun e => by
      rw [e, hp] at hq
      cases hq
    walk_at "q"
    refine sp_planG mset_same (by omega) (fun r hr => by have := mid_len (hv.ch.ok r hr); omega) h0 hn2 fun b t hb ht => ?_
    have htn : t < n := by
      obtain ⟨m, h1, -⟩ := ht
      exact (loads_at h1).1
    have tn := Tn.start (b := b) hv htn
    have rs := fun e => rests_of hv hb ht e
    clear hb ht
    revert tn rs
    generalize ords (T.map rep) b t = os
    intro tn rs
    have hmu : (mset μ q (.ls (T.map pcW))) p = some (.ls (T.map rowW)) := by
      rw [mset_ne (Ne.symm hqp)]
      exact hp
    revert hmu
    generalize mset μ q (.ls (T.map pcW)) = μ
    intro hmu
    walk_at "q"
    rw [List.length_map]
    refine q_ifP (fun c => ?_) fun c => ?_
    · have e : os = [] := List.length_eq_zero_iff.mp (by omega)
      walk_at "q"
      refine sp__law_rests hmu hv h0 hn2 (rs e) ?_
      exact Rt.now (hP _)
    · have hos : 0 < os.length := by omega
      walk_at "q"
      refine lcV_m rowW nmW T (by omega) (fun μ' he => rdL_ref (he _ _ hmu)) (fun r hr μ' he Y hy => ?_) ?_
      · walk_at "q"
        have ec : cutL [W.str r.lo, oS r.hi, .int r.ep, .int r.x, .lst (r.held.map W.str)] none (some 4) = [W.str r.lo, oS r.hi, .int r.ep, .int r.x] := rfl
        rw [ec]
        exact hy
      walk_at "q"
      refine itS_of Od.w (fun done os' ρ μ' => done ++ os' = os ∧ ∃ (T' : List Ro) (x3 x6 x7 x8 : Option W), Tn n T T' os os' ∧ μ' p = some (.ls (T'.map rowW)) ∧ ρ = [some (.rol (ns.map W.int)), some (.int n), some (.ref p), x3, some (.lst (os.map Od.w)), some (.lst (T.map nmW)), x6, x7, x8]) os [] ⟨rfl, T, _, _, _, _, tn, hmu, rfl⟩ ?_ ?_
      · rintro dn o os' ρ μ' ⟨e, T', x3, x6, x7, x8, tn', hm', rfl⟩
        refine ⟨rfl, fun K2 hK2 => ?_⟩
        rw [Od.w_eq]
        walk_at "q"
        refine sp__law_named (rs := T.map rep) (n := n) (fun r hr => tn'.nam r (by rw [List.flatMap_cons]; exact List.mem_append_left _ hr)) (tn'.val o List.mem_cons_self) ?_
        walk_at "q"
        refine tn'.step hm' fun T2 tn2 => ?_
        walk_at "q"
        exact hK2 _ _ ⟨by rw [List.append_assoc]; exact e, T2, _, _, _, _, tn2, mset_same, rfl⟩
      · rintro dn ρ μ' ⟨e, T', x3, x6, x7, x8, tn', hm', rfl⟩
        refine ⟨rfl, ?_⟩
        have := tn'.p3 (by rw [List.length_nil]; exact hos)
        have : pot n T' none + 2 ≤ pot n T none := this
        exact hK _ _ ⟨T', _, _, _, _, _, _, tn'.iv, by omega, hm', rfl⟩
  · rintro ρ μ ⟨T, x3, x4, x5, x6, x7, x8, hv, hpt, -⟩
    have := pot_nn n T none
    omega
end Q
namespace K50
open PySem PySem.Spec PyProof.Rows L2 Evl Q
/-! ### the head -/
theorem facts {P : Program} {w : World} {K : Frag} {h : Heap} {mg : Str → Option Value} {f : Addr} (X : K.In h) (G : h.Ns mainGlobals mg) (hfa : mg ("law" : Str) = some (.ref f)) (y : He.SaysX fa fn ts [] ex w h K) :
    ∃ fd : FuncData, (∀ (s : Shared) (v : Value), BindsTo s fd ⟨[v], []⟩ [("script", v)]) ∧ ∀ base : Heap, K.In base → base.Ns mainGlobals mg → FnOk P w K mg base CX0 4 f fd ["script"] (spL K f_law_16) := by
  have c := y.t.d
  obtain ⟨fd_is_key, F_is_key⟩ := c.def_ 0 (d := d_is_key) rfl
  obtain ⟨fd_below, F_below⟩ := c.def_ 1 (d := d_below) rfl
  obtain ⟨fd_is_whole, F_is_whole⟩ := c.def_ 2 (d := d_is_whole) rfl
  obtain ⟨fd__is_large, F__is_large⟩ := c.def_ 3 (d := d__is_large) rfl
  obtain ⟨fd__split, F__split⟩ := c.def_ 4 (d := d__split) rfl
  obtain ⟨fd__belong_together, F__belong_together⟩ := c.def_ 5 (d := d__belong_together) rfl
  obtain ⟨fd__join, F__join⟩ := c.def_ 6 (d := d__join) rfl
  obtain ⟨fd__join_neighbours, F__join_neighbours⟩ := c.def_ 7 (d := d__join_neighbours) rfl
  obtain ⟨fd__load, F__load⟩ := c.def_ 8 (d := d__load) rfl
  obtain ⟨fd__even_out, F__even_out⟩ := c.def_ 9 (d := d__even_out) rfl
  obtain ⟨fd_plan, F_plan⟩ := c.def_ 10 (d := d_plan) rfl
  obtain ⟨fd__law_cell, F__law_cell⟩ := c.def_ 11 (d := d__law_cell) rfl
  obtain ⟨fd__law_key, F__law_key⟩ := c.def_ 12 (d := d__law_key) rfl
  obtain ⟨fd__law_table, F__law_table⟩ := c.def_ 13 (d := d__law_table) rfl
  obtain ⟨fd__law_pieces, F__law_pieces⟩ := c.def_ 14 (d := d__law_pieces) rfl
  obtain ⟨fd__law_at, F__law_at⟩ := c.def_ 15 (d := d__law_at) rfl
  obtain ⟨fd__law_carried, F__law_carried⟩ := c.def_ 16 (d := d__law_carried) rfl
  obtain ⟨fd__law_named, F__law_named⟩ := c.def_ 17 (d := d__law_named) rfl
  obtain ⟨fd__law_rests, F__law_rests⟩ := c.def_ 18 (d := d__law_rests) rfl
  obtain ⟨fd_law, F_law⟩ := c.def_ 19 (d := d_law) rfl
  have g_is_key := He.glo_ok X G (c.fact 0 (f := .glo "is_key") rfl)
  have g_below := He.glo_ok X G (c.fact 1 (f := .glo "below") rfl)
  have g_is_whole := He.glo_ok X G (c.fact 2 (f := .glo "is_whole") rfl)
  have g__is_large := He.glo_ok X G (c.fact 3 (f := .glo "_is_large") rfl)
  have g__split := He.glo_ok X G (c.fact 4 (f := .glo "_split") rfl)
  have g__belong_together := He.glo_ok X G (c.fact 5 (f := .glo "_belong_together") rfl)
  have g__join := He.glo_ok X G (c.fact 6 (f := .glo "_join") rfl)
  have g__join_neighbours := He.glo_ok X G (c.fact 7 (f := .glo "_join_neighbours") rfl)
  have g__load := He.glo_ok X G (c.fact 8 (f := .glo "_load") rfl)
  have g__even_out := He.glo_ok X G (c.fact 9 (f := .glo "_even_out") rfl)
  have g_plan := He.glo_ok X G (c.fact 10 (f := .glo "plan") rfl)
  have g__law_cell := He.glo_ok X G (c.fact 11 (f := .glo "_law_cell") rfl)
  have g__law_key := He.glo_ok X G (c.fact 12 (f := .glo "_law_key") rfl)
  have g__law_table := He.glo_ok X G (c.fact 13 (f := .glo "_law_table") rfl)
  have g__law_pieces := He.glo_ok X G (c.fact 14 (f := .glo "_law_pieces") rfl)
  have g__law_at := He.glo_ok X G (c.fact 15 (f := .glo "_law_at") rfl)
  have g__law_carried := He.glo_ok X G (c.fact 16 (f := .glo "_law_carried") rfl)
  have g__law_named := He.glo_ok X G (c.fact 17 (f := .glo "_law_named") rfl)
  have g__law_rests := He.glo_ok X G (c.fact 18 (f := .glo "_law_rests") rfl)
  have g_law := He.glo_ok X G (c.fact 19 (f := .glo "law") rfl)
  have z_len := He.free_ok X G (c.fact 20 (f := .free "len") rfl)
  have z_isinstance := He.free_ok X G (c.fact 21 (f := .free "isinstance") rfl)
  have z_str := He.free_ok X G (c.fact 22 (f := .free "str") rfl)
  have z_range := He.free_ok X G (c.fact 23 (f := .free "range") rfl)
  have z_max := He.free_ok X G (c.fact 24 (f := .free "max") rfl)
  have z_min := He.free_ok X G (c.fact 25 (f := .free "min") rfl)
  have z_sorted := He.free_ok X G (c.fact 26 (f := .free "sorted") rfl)
  have z_int := He.free_ok X G (c.fact 27 (f := .free "int") rfl)
  have c_MOST_KEY := He.int_ok X G (c.fact 28 (f := .int "MOST_KEY" 8) rfl)
  have c_MOST_ITEMS := He.int_ok X G (c.fact 29 (f := .int "MOST_ITEMS" 8) rfl)
  have c_FEW_ITEMS := He.int_ok X G (c.fact 30 (f := .int "FEW_ITEMS" 4) rfl)
  have e := hfa.symm.trans g_law
  cases e
  have b := L2.FunD.bindsA (ps := ["script"]) F_law fun _ _ _ _ _ _ us hl => match us, hl with | [_], _ => rfl
  refine ⟨fd_law, fun s v => b s [v] rfl, fun base _ _ => ?_⟩
  have D_is_key : DefQ P w K mg base _ _ _ _ := dq_mk (st := s_is_key) F_is_key g_is_key (F_is_key.bindsN fun _ _ _ _ _ _ us hl => match us, hl with | [_], _ => rfl) (ok_is_key F_is_key z_len c_MOST_KEY z_isinstance z_str)
  have D_below : DefQ P w K mg base _ _ _ _ := dq_mk (st := s_below) F_below g_below (F_below.bindsN fun _ _ _ _ _ _ us hl => match us, hl with | [_, _], _ => rfl) (ok_below F_below )
  have D_is_whole : DefQ P w K mg base _ _ _ _ := dq_mk (st := s_is_whole) F_is_whole g_is_whole (F_is_whole.bindsN fun _ _ _ _ _ _ us hl => match us, hl with | [_], _ => rfl) (ok_is_whole F_is_whole )
  have D__is_large : DefQ P w K mg base _ _ _ _ := dq_mk (st := s__is_large) F__is_large g__is_large (F__is_large.bindsN fun _ _ _ _ _ _ us hl => match us, hl with | [_], _ => rfl) (ok__is_large F__is_large D_below D_is_key c_MOST_ITEMS)
  have D__split : DefQ P w K mg base _ _ _ _ := dq_mk (st := s__split) F__split g__split (F__split.bindsN fun _ _ _ _ _ _ us hl => match us, hl with | [_], _ => rfl) (ok__split F__split )
  have D__belong_together : DefQ P w K mg base _ _ _ _ := dq_mk (st := s__belong_together) F__belong_together g__belong_together (F__belong_together.bindsN fun _ _ _ _ _ _ us hl => match us, hl with | [_, _], _ => rfl) (ok__belong_together F__belong_together c_FEW_ITEMS)
  have D__join : DefQ P w K mg base _ _ _ _ := dq_mk (st := s__join) F__join g__join (F__join.bindsN fun _ _ _ _ _ _ us hl => match us, hl with | [_, _], _ => rfl) (ok__join F__join )
  have D__join_neighbours : DefQ P w K mg base _ _ _ _ := dq_mk (st := s__join_neighbours) F__join_neighbours g__join_neighbours (F__join_neighbours.bindsN fun _ _ _ _ _ _ us hl => match us, hl with | [_], _ => rfl) (ok__join_neighbours F__join_neighbours z_len D__belong_together D__join)
  have D__load : DefQ P w K mg base _ _ _ _ := dq_mk (st := s__load) F__load g__load (F__load.bindsN fun _ _ _ _ _ _ us hl => match us, hl with | [_, _], _ => rfl) (ok__load F__load z_len)
  have D__even_out : DefQ P w K mg base _ _ _ _ := dq_mk (st := s__even_out) F__even_out g__even_out (F__even_out.bindsN fun _ _ _ _ _ _ us hl => match us, hl with | [_, _, _], _ => rfl) (ok__even_out F__even_out z_range D__load z_max z_min)
  have D_plan : DefQ P w K mg base _ _ _ _ := dq_mk (st := s_plan) F_plan g_plan (F_plan.bindsN fun _ _ _ _ _ _ us hl => match us, hl with | [_, _], _ => rfl) (ok_plan F_plan D_is_whole D__is_large D__split D__join_neighbours D__even_out)
  have D__law_cell : DefQ P w K mg base _ _ _ _ := dq_mk (st := s__law_cell) F__law_cell g__law_cell (F__law_cell.bindsN fun _ _ _ _ _ _ us hl => match us, hl with | [_, _], _ => rfl) (ok__law_cell F__law_cell z_len)
  have D__law_key : DefQ P w K mg base _ _ _ _ := dq_mk (st := s__law_key) F__law_key g__law_key (F__law_key.bindsN fun _ _ _ _ _ _ us hl => match us, hl with | [_], _ => rfl) (ok__law_key F__law_key )
  have D__law_table : DefQ P w K mg base _ _ _ _ := dq_mk (st := s__law_table) F__law_table g__law_table (F__law_table.bindsN fun _ _ _ _ _ _ us hl => match us, hl with | [_, _], _ => rfl) (ok__law_table F__law_table z_sorted z_int D__law_key z_range z_len D__law_cell)
  have D__law_pieces : DefQ P w K mg base _ _ _ _ := dq_mk (st := s__law_pieces) F__law_pieces g__law_pieces (F__law_pieces.bindsN fun _ _ _ _ _ _ us hl => match us, hl with | [_], _ => rfl) (ok__law_pieces F__law_pieces z_len)
  have D__law_at : DefQ P w K mg base _ _ _ _ := dq_mk (st := s__law_at) F__law_at g__law_at (F__law_at.bindsN fun _ _ _ _ _ _ us hl => match us, hl with | [_, _, _, _, _], _ => rfl) (ok__law_at F__law_at z_range z_len)
  have D__law_carried : DefQ P w K mg base _ _ _ _ := dq_mk (st := s__law_carried) F__law_carried g__law_carried (F__law_carried.bindsN fun _ _ _ _ _ _ us hl => match us, hl with | [_, _, _], _ => rfl) (ok__law_carried F__law_carried D__law_at z_max)
  have D__law_named : DefQ P w K mg base _ _ _ _ := dq_mk (st := s__law_named) F__law_named g__law_named (F__law_named.bindsN fun _ _ _ _ _ _ us hl => match us, hl with | [_, _, _], _ => rfl) (ok__law_named F__law_named )
  have D__law_rests : DefQ P w K mg base _ _ _ _ := dq_mk (st := s__law_rests) F__law_rests g__law_rests (F__law_rests.bindsN fun _ _ _ _ _ _ us hl => match us, hl with | [_, _], _ => rfl) (ok__law_rests F__law_rests z_range z_len z_max z_min)
  exact ok_law F_law z_int D__law_cell D__law_table z_range D__law_pieces D_plan z_len D__law_rests D__law_carried D__law_named
end K50
open PySem PySem.W PySem.Calls PyProof.Rows
theorem PySem.Challenge.cw_boundstone_k50_whole_plans_come_to_rest_holds : PySem.Challenge.rw_boundstone_k50_whole_plans_come_to_rest.Holds := by
  w_on; o_law
  refine HandSHeadRun.head_any (r := OpenLaw.row PySem.Challenge.rw_boundstone_k50_whole_plans_come_to_rest) (q := view (OpenLaw.row PySem.Challenge.rw_boundstone_k50_whole_plans_come_to_rest).prog [26]) (H := K50.hk) (ob := K50.ob) (M := 8000) (loose := K50.loose) (d := HandSHeadRun.topDef (OpenLaw.row PySem.Challenge.rw_boundstone_k50_whole_plans_come_to_rest).prog 26) (kwd := []) K50.ob_eq
    (by kernel_rfl) (fun s => by kernel_rfl) K50.run (by kernel_rfl) (by kernel_rfl) (by kernel_rfl) (by rfl) (by first | assumption | decide +kernel) (by decide +kernel) ⟨rfl, rfl, rfl, rfl, rfl, by decide +kernel⟩ ?hw ?hc
  case hw => w_witness2
  case hc =>
    refine L2.walk_ofE (l := PySem.Challenge.rw_boundstone_k50_whole_plans_come_to_rest) (n := 63) (k := 4) (x := "script") (CX := L2.CX0) rfl (by decide) (by kernel_rfl) ⟨rfl, by decide, by decide⟩ ?F (fun _ _ _ _ z => z)
    intro w mg fa h Y G hmg0
    obtain ⟨K, KX, c⟩ := Y
    have hmg : mg ("law" : PySem.Str) = some (.ref fa) := by
      have e : (HandSHeadRun.topDef (OpenLaw.row PySem.Challenge.rw_boundstone_k50_whole_plans_come_to_rest).prog 26).name = ("law" : PySem.Str) := by kernel_rfl
      rw [← e]
      exact hmg0
    obtain ⟨fd, hb, hF⟩ := K50.facts (P := (PySem.Challenge.rw_boundstone_k50_whole_plans_come_to_rest).prog) (w := w) KX G hmg c
    have hn : Q.noLst K = true := by
      have mo : K50.ex K = true := c.more
      exact mo
    exact ⟨K, fd, Q.spL K Q.f_law_16, KX, hb, fun H a ns hl _ hS => Q.law_end hn hl hS Q.law_k50, hF⟩
