import PyProof.Rows.All
import Wide.All
import OpenK.AllK
import Wide.FinOn
import HandS.ForMost
import HandS.ForExc
import HandS.IsInst
import HandS.Evl
import HandS.Walk
import HandS.HeadHook2
import HandS.Head2
import HandS.HeadEnd
import HandS.HeadWalk
import HandS.Wide
import HandS.Deep
import HandS.HeadHook4
import HandS.CallLocal
import HandS.TupAny
import HandS.DeepEq
import HandS.WordsDict
import HandS.SortKw
import HandS.SortInts
import PyProof.Rows.SortShellAny
import HandS.DictComp
import HandS.Style
import HandS.ExcIs
import HandS.ExcCtx
import HandS.HotCalls
import HandS.SuiteRaise
import HandS.ExcInitHot
import PyProof.CompUse
import PyProof.DictUpdate
import PyProof.DictDisplay
import PySem.Challenge.RW_boundstone_k25_joins
set_option Elab.async false
set_option linter.all false
set_option maxRecDepth 100000
set_option maxHeartbeats 8000000
/-! Pd: what pieces of pure programs give, told over data (PyData) in place of addresses. -/
namespace Pd
open PySem L2 Evl

abbrev Frag := PySem.W.Frag
/-- the known data of the slots -/
abbrev Rho := List (Option PyData)

mutual
theorem dpm {K : Frag} {H H' : Hp} (e : Ex H H') : ∀ {v : V} {d : PyData}, Dp K H v d → Dp K H' v d
  | _, _, .non => .non
  | _, _, .bl b => .bl b
  | _, _, .int i => .int i
  | _, _, .str x => .str x
  | _, _, .lst h hs => .lst (ex_l e h) (dpms e hs)
  | _, _, .tup h hs => .tup (ex_t e h) (dpms e hs)
theorem dpms {K : Frag} {H H' : Hp} (e : Ex H H') : ∀ {vs : List V} {ds : List PyData}, DpAll K H vs ds → DpAll K H' vs ds
  | _, _, .nil => .nil
  | _, _, .cons h hs => .cons (dpm e h) (dpms e hs)
end

theorem dps_len {K : Frag} {H : Hp} : ∀ {vs : List V} {ds : List PyData}, DpAll K H vs ds → vs.length = ds.length
  | _, _, .nil => rfl
  | _, _, .cons _ hs => congrArg Nat.succ (dps_len hs)
theorem dps_at {K : Frag} {H : Hp} : ∀ {vs : List V} {ds : List PyData} (i : Nat) {d : PyData}, DpAll K H vs ds → ds[i]? = some d → ∃ v, vs[i]? = some v ∧ Dp K H v d
  | _, _, i, d, .nil, e => by simp at e
  | _, _, 0, d, .cons h _, e => by
    cases e
    exact ⟨_, rfl, h⟩
  | _, _, i + 1, d, .cons _ hs, e => dps_at i hs e
theorem dps_to {K : Frag} {H : Hp} : ∀ {vs : List V} {ds : List PyData} (i : Nat) {v : V}, DpAll K H vs ds → vs[i]? = some v → ∃ d, ds[i]? = some d ∧ Dp K H v d
  | _, _, i, d, .nil, e => by simp at e
  | _, _, 0, d, .cons h _, e => by
    cases e
    exact ⟨_, rfl, h⟩
  | _, _, i + 1, d, .cons _ hs, e => dps_to i hs e
theorem dps_app {K : Frag} {H : Hp} : ∀ {vs ws : List V} {ds es : List PyData}, DpAll K H vs ds → DpAll K H ws es → DpAll K H (vs ++ ws) (ds ++ es)
  | _, _, _, _, .nil, g => g
  | _, _, _, _, .cons h hs, g => .cons h (dps_app hs g)
theorem dps_take {K : Frag} {H : Hp} : ∀ {vs : List V} {ds : List PyData} (n : Nat), DpAll K H vs ds → DpAll K H (vs.take n) (ds.take n)
  | _, _, 0, _ => .nil
  | _, _, _ + 1, .nil => .nil
  | _, _, n + 1, .cons h hs => .cons h (dps_take n hs)
theorem dps_drop {K : Frag} {H : Hp} : ∀ {vs : List V} {ds : List PyData} (n : Nat), DpAll K H vs ds → DpAll K H (vs.drop n) (ds.drop n)
  | _, _, 0, h => h
  | _, _, _ + 1, .nil => .nil
  | _, _, n + 1, .cons _ hs => dps_drop n hs
theorem dps_ints {K : Frag} {H : Hp} : ∀ (ns : List Int), DpAll K H (ns.map V.int) (ns.map PyData.int)
  | [] => .nil
  | n :: r => .cons (.int n) (dps_ints r)

/-- the slots hold the data -/
def Holds (K : Frag) (H : Hp) (σ : L2.St) (ρ : Rho) : Prop := σ.length = ρ.length ∧ ∀ (i : Nat) (d : PyData), ρ[i]? = some (some d) → ∃ v, σ[i]? = some (some v) ∧ Dp K H v d
theorem Holds.mono {K : Frag} {H H' : Hp} {σ : L2.St} {ρ : Rho} (e : Ex H H') (h : Holds K H σ ρ) : Holds K H' σ ρ :=
  ⟨h.1, fun i d q => (h.2 i d q).imp fun _ z => ⟨z.1, dpm e z.2⟩⟩
theorem Holds.put {K : Frag} {H : Hp} {σ : L2.St} {ρ : Rho} {v : V} {d : PyData} (i : Nat) (h : Holds K H σ ρ) (hv : Dp K H v d) : Holds K H (σ.set i (some v)) (ρ.set i (some d)) := by
  refine ⟨by rw [List.length_set, List.length_set, h.1], fun j e q => ?_⟩
  rw [List.getElem?_set] at q ⊢
  by_cases hij : i = j
  · subst hij
    rw [if_pos rfl] at q ⊢
    rw [h.1]
    by_cases hl : i < ρ.length
    · rw [if_pos hl] at q ⊢
      cases q
      exact ⟨v, rfl, hv⟩
    · rw [if_neg hl] at q
      cases q
  · rw [if_neg hij] at q ⊢
    exact h.2 j e q
theorem dps_start {K : Frag} {H : Hp} {N : List Str} {vs : List V} {ds : List PyData} (h : DpAll K H vs ds) : Holds K H (L2.start N vs) (ds.map some ++ List.replicate (N.length - ds.length) none) := by
  have hl := dps_len h
  refine ⟨by unfold L2.start; simp [hl], fun i d q => ?_⟩
  unfold L2.start
  by_cases hi : i < ds.length
  · rw [List.getElem?_append_left (by simpa using hi), List.getElem?_map] at q
    rw [List.getElem?_append_left (by simpa [hl] using hi), List.getElem?_map]
    cases e : ds[i]? with
    | none =>
      rw [e] at q
      cases q
    | some d' =>
      rw [e] at q
      cases q
      obtain ⟨v, e1, e2⟩ := dps_at i h e
      exact ⟨v, by rw [e1]; rfl, e2⟩
  · rw [List.getElem?_append_right (by simpa using hi)] at q
    rw [List.getElem?_replicate] at q
    split at q <;> cases q

/-! ### expressions -/
def EvD (K : Frag) (te : TE) (ρ : Rho) (d : PyData) : Prop := ∀ (σ : L2.St) (H : Hp), Holds K H σ ρ → ∀ Q : VK, (∀ v H2, Ex H H2 → Dp K H2 v d → Q v H2) → te σ H Q
def EvC (K : Frag) (t : TT) (ρ : Rho) (b : Bool) : Prop := ∀ (σ : L2.St) (H : Hp), Holds K H σ ρ → ∀ Q : Bool → Hp → Prop, (∀ H2, Ex H H2 → Q b H2) → t σ H Q
def EvS (K : Frag) (ta : TA) (ρ : Rho) (ds : List PyData) : Prop := ∀ (σ : L2.St) (H : Hp), Holds K H σ ρ → ∀ Q : List V → Hp → Prop, (∀ vs H2, Ex H H2 → DpAll K H2 vs ds → Q vs H2) → ta σ H Q

section
variable {K : Frag} {ρ : Rho} {ta tb tc te : TE} {t u : TT} {d e : PyData}
theorem EvD.is (h : EvD K te ρ d) (q : d = e) : EvD K te ρ e := q ▸ h
theorem EvC.is {a b : Bool} (h : EvC K t ρ a) (q : a = b) : EvC K t ρ b := q ▸ h
theorem ed_var {i : Nat} (h : ρ[i]? = some (some d)) : EvD K (tVar i) ρ d := fun σ H g Q q => by
  obtain ⟨v, e1, e2⟩ := g.2 i d h
  exact ⟨v, e1, q v H (Ex.refl H) e2⟩
theorem ed_int {i : Int} : EvD K (tC (.int i)) ρ (.int i) := fun _ H _ _ q => q _ H (Ex.refl H) (.int i)
theorem ed_str {x : Str} : EvD K (tC (.str x)) ρ (.str x) := fun _ H _ _ q => q _ H (Ex.refl H) (.str x)
theorem ed_bl {x : Bool} : EvD K (tC (.bl x)) ρ (.bool x) := fun _ H _ _ q => q _ H (Ex.refl H) (.bl x)
theorem ed_non : EvD K (tC .non) ρ .none := fun _ H _ _ q => q _ H (Ex.refl H) .non
/-- two operands, then the operation on their values -/
theorem ed_two {r : R2} {x y z : PyData} (ha : EvD K ta ρ x) (hb : EvD K tb ρ y)
    (hr : ∀ (H : Hp) (v w : V) (Q : VK), Dp K H v x → Dp K H w y → (∀ u H2, Ex H H2 → Dp K H2 u z → Q u H2) → r v w H Q) : EvD K (tOp r ta tb) ρ z := fun σ H g Q q =>
  ha σ H g _ fun v H1 e1 d1 => hb σ H1 (g.mono e1) _ fun w H2 e2 d2 => hr H2 v w Q (dpm e2 d1) d2 fun u H3 e3 d3 => q u H3 ((e1.trans e2).trans e3) d3
theorem ed_I0 {f : Int → Int → V} {z : PyData} {i j : Int} (ha : EvD K ta ρ (.int i)) (hb : EvD K tb ρ (.int j)) (hz : ∀ H, Dp K H (f i j) z) : EvD K (tOp (rI0 f) ta tb) ρ z :=
  ed_two ha hb fun H v w Q dv dw k => by
    cases dv
    cases dw
    exact ⟨i, j, rfl, rfl, k _ H (Ex.refl H) (hz H)⟩
theorem ed_I {C : Int → Int → Prop} {f : Int → Int → V} {z : PyData} {i j : Int} (ha : EvD K ta ρ (.int i)) (hb : EvD K tb ρ (.int j)) (hc : C i j) (hz : ∀ H, Dp K H (f i j) z) : EvD K (tOp (rI C f) ta tb) ρ z :=
  ed_two ha hb fun H v w Q dv dw k => by
    cases dv
    cases dw
    exact ⟨i, j, rfl, rfl, hc, k _ H (Ex.refl H) (hz H)⟩
theorem ed_add {i j : Int} (ha : EvD K ta ρ (.int i)) (hb : EvD K tb ρ (.int j)) : EvD K (tOp (rI0 fun i j => .int (i + j)) ta tb) ρ (.int (i + j)) := ed_I0 ha hb fun _ => .int _
theorem ed_sub {i j : Int} (ha : EvD K ta ρ (.int i)) (hb : EvD K tb ρ (.int j)) : EvD K (tOp (rI0 fun i j => .int (i - j)) ta tb) ρ (.int (i - j)) := ed_I0 ha hb fun _ => .int _
theorem ed_mul {i j : Int} (ha : EvD K ta ρ (.int i)) (hb : EvD K tb ρ (.int j)) (hc : CMul i j) : EvD K (tOp (rI CMul fun i j => .int (i * j)) ta tb) ρ (.int (i * j)) := ed_I ha hb hc fun _ => .int _
theorem ed_div {i j : Int} (ha : EvD K ta ρ (.int i)) (hb : EvD K tb ρ (.int j)) (hc : CDiv i j) : EvD K (tOp (rI CDiv fun i j => .int (i / j)) ta tb) ρ (.int (i / j)) := ed_I ha hb hc fun _ => .int _
theorem ed_mod {i j : Int} (ha : EvD K ta ρ (.int i)) (hb : EvD K tb ρ (.int j)) (hc : 0 < j) : EvD K (tOp (rI (fun _ j => 0 < j) fun i j => .int (i % j)) ta tb) ρ (.int (i % j)) := ed_I ha hb hc fun _ => .int _
theorem ed_pow {i j : Int} (ha : EvD K ta ρ (.int i)) (hb : EvD K tb ρ (.int j)) (hc : CPow i j) : EvD K (tOp (rI CPow fun i j => .int (i ^ j.toNat)) ta tb) ρ (.int (i ^ j.toNat)) := ed_I ha hb hc fun _ => .int _
theorem ed_lt {i j : Int} (ha : EvD K ta ρ (.int i)) (hb : EvD K tb ρ (.int j)) : EvD K (tOp (rI0 fun i j => .bl (decide (i < j))) ta tb) ρ (.bool (decide (i < j))) := ed_I0 ha hb fun _ => .bl _
theorem ed_le {i j : Int} (ha : EvD K ta ρ (.int i)) (hb : EvD K tb ρ (.int j)) : EvD K (tOp (rI0 fun i j => .bl (decide (i ≤ j))) ta tb) ρ (.bool (decide (i ≤ j))) := ed_I0 ha hb fun _ => .bl _
theorem ed_gt {i j : Int} (ha : EvD K ta ρ (.int i)) (hb : EvD K tb ρ (.int j)) : EvD K (tOp (rI0 fun i j => .bl (decide (j < i))) ta tb) ρ (.bool (decide (j < i))) := ed_I0 ha hb fun _ => .bl _
theorem ed_ge {i j : Int} (ha : EvD K ta ρ (.int i)) (hb : EvD K tb ρ (.int j)) : EvD K (tOp (rI0 fun i j => .bl (decide (j ≤ i))) ta tb) ρ (.bool (decide (j ≤ i))) := ed_I0 ha hb fun _ => .bl _
theorem ed_neg {i : Int} (ha : EvD K ta ρ (.int i)) : EvD K (tUn (rU fun i => .int (-i)) ta) ρ (.int (-i)) := fun σ H g Q q => ha σ H g _ fun v H1 e1 dv => by
  cases dv
  exact ⟨i, rfl, q _ H1 e1 (.int _)⟩
/-- == and != of data -/
theorem ed_eq {x y : PyData} (ha : EvD K ta ρ x) (hb : EvD K tb ρ y) (hx : SeqAt.shaped x = true) (hy : SeqAt.shaped y = true) : EvD K (tOp (rEqD K) ta tb) ρ (.bool (PyData.eqv x y)) :=
  ed_two ha hb fun H v w Q dv dw k => ⟨x, y, dv, dw, hx, hy, k _ H (Ex.refl H) (.bl _)⟩
theorem ed_ne {x y : PyData} (ha : EvD K ta ρ x) (hb : EvD K tb ρ y) (hx : SeqAt.shaped x = true) (hy : SeqAt.shaped y = true) : EvD K (tOp (rNeD K) ta tb) ρ (.bool (!PyData.eqv x y)) :=
  ed_two ha hb fun H v w Q dv dw k => ⟨x, y, dv, dw, hx, hy, k _ H (Ex.refl H) (.bl _)⟩
/-- texts -/
def sLt (x y : Str) : Bool := decide (x.cps.toList < y.cps.toList)
def rLtS : R2 := fun x y H Q => ∃ i j, x = .str i ∧ y = .str j ∧ Q (.bl (decide (i.cps.toList < j.cps.toList))) H
def rLeS : R2 := fun x y H Q => ∃ i j, x = .str i ∧ y = .str j ∧ Q (.bl (!decide (j.cps.toList < i.cps.toList))) H
def rGtS : R2 := fun x y H Q => ∃ i j, x = .str i ∧ y = .str j ∧ Q (.bl (decide (j.cps.toList < i.cps.toList))) H
def rGeS : R2 := fun x y H Q => ∃ i j, x = .str i ∧ y = .str j ∧ Q (.bl (!decide (i.cps.toList < j.cps.toList))) H
def rAddT : R2 := fun x y H Q => ∃ i j, x = .str i ∧ y = .str j ∧ i.length + j.length ≤ sizeLine ∧ Q (.str (i ++ j)) H
theorem op_ltS {X : Cx} : OpR X (compareOp .Lt) rLtS := op_lt_str
theorem op_leS {X : Cx} : OpR X (compareOp .LtE) rLeS := op_le_str
theorem op_gtS {X : Cx} : OpR X (compareOp .Gt) rGtS := op_gt_str
theorem op_geS {X : Cx} : OpR X (compareOp .GtE) rGeS := op_ge_str
theorem op_addS {X : Cx} : OpR X (binaryOp .Add) rAddT := op_add_str
theorem ed_ltS {i j : Str} (ha : EvD K ta ρ (.str i)) (hb : EvD K tb ρ (.str j)) : EvD K (tOp rLtS ta tb) ρ (.bool (sLt i j)) := ed_two ha hb fun H v w Q dv dw k => by
  cases dv
  cases dw
  exact ⟨i, j, rfl, rfl, k _ H (Ex.refl H) (.bl _)⟩
theorem ed_leS {i j : Str} (ha : EvD K ta ρ (.str i)) (hb : EvD K tb ρ (.str j)) : EvD K (tOp rLeS ta tb) ρ (.bool (!sLt j i)) := ed_two ha hb fun H v w Q dv dw k => by
  cases dv
  cases dw
  exact ⟨i, j, rfl, rfl, k _ H (Ex.refl H) (.bl _)⟩
theorem ed_gtS {i j : Str} (ha : EvD K ta ρ (.str i)) (hb : EvD K tb ρ (.str j)) : EvD K (tOp rGtS ta tb) ρ (.bool (sLt j i)) := ed_two ha hb fun H v w Q dv dw k => by
  cases dv
  cases dw
  exact ⟨i, j, rfl, rfl, k _ H (Ex.refl H) (.bl _)⟩
theorem ed_geS {i j : Str} (ha : EvD K ta ρ (.str i)) (hb : EvD K tb ρ (.str j)) : EvD K (tOp rGeS ta tb) ρ (.bool (!sLt i j)) := ed_two ha hb fun H v w Q dv dw k => by
  cases dv
  cases dw
  exact ⟨i, j, rfl, rfl, k _ H (Ex.refl H) (.bl _)⟩
theorem ed_addS {i j : Str} (ha : EvD K ta ρ (.str i)) (hb : EvD K tb ρ (.str j)) (hl : i.length + j.length ≤ sizeLine) : EvD K (tOp rAddT ta tb) ρ (.str (i ++ j)) := ed_two ha hb fun H v w Q dv dw k => by
  cases dv
  cases dw
  exact ⟨i, j, rfl, rfl, hl, k _ H (Ex.refl H) (.str _)⟩
/-- is None -/
def isNone : PyData → Bool
  | .none => true
  | _ => false
theorem isNone_dp {H : Hp} {v : V} (h : Dp K H v d) : decide (v = .non) = isNone d := by cases h <;> rfl
def rIsNo : R2 := fun x y H Q => y = .non ∧ Q (.bl (decide (x = .non))) H
def rNotNo : R2 := fun x y H Q => y = .non ∧ Q (.bl (!decide (x = .non))) H
theorem op_isNo {X : Cx} : OpR X (compareOp .Is) rIsNo := op_isN
theorem op_notNo {X : Cx} : OpR X (compareOp .IsNot) rNotNo := op_notN
theorem ed_isN {x : PyData} (ha : EvD K ta ρ x) : EvD K (tOp rIsNo ta (tC .non)) ρ (.bool (isNone x)) := ed_two ha ed_non fun H v w Q dv dw k => by
  cases dw
  exact ⟨rfl, by rw [isNone_dp dv]; exact k _ H (Ex.refl H) (.bl _)⟩
theorem ed_notN {x : PyData} (ha : EvD K ta ρ x) : EvD K (tOp rNotNo ta (tC .non)) ρ (.bool (!isNone x)) := ed_two ha ed_non fun H v w Q dv dw k => by
  cases dw
  exact ⟨rfl, by rw [isNone_dp dv]; exact k _ H (Ex.refl H) (.bl _)⟩
/-- and, or, not of bools -/
theorem ed_and {a b : Bool} (ha : EvD K ta ρ (.bool a)) (hb : a = true → EvD K tb ρ (.bool b)) : EvD K (tAndV ta tb) ρ (.bool (a && b)) := fun σ H g Q q => ha σ H g _ fun v H1 e1 dv => by
  cases dv
  cases a with
  | true => exact ⟨true, rfl, iteT (hb rfl σ H1 (g.mono e1) Q fun v H2 e2 d2 => q v H2 (e1.trans e2) d2)⟩
  | false => exact ⟨false, rfl, iteF (q _ H1 e1 (.bl _))⟩
theorem ed_or {a b : Bool} (ha : EvD K ta ρ (.bool a)) (hb : a = false → EvD K tb ρ (.bool b)) : EvD K (tOrV ta tb) ρ (.bool (a || b)) := fun σ H g Q q => ha σ H g _ fun v H1 e1 dv => by
  cases dv
  cases a with
  | true => exact ⟨true, rfl, iteT (q _ H1 e1 (.bl _))⟩
  | false => exact ⟨false, rfl, iteF (hb rfl σ H1 (g.mono e1) Q fun v H2 e2 d2 => q v H2 (e1.trans e2) d2)⟩
theorem ed_not {a : Bool} (ha : EvD K ta ρ (.bool a)) : EvD K (tNotV ta) ρ (.bool (!a)) := fun σ H g Q q => ha σ H g _ fun v H1 e1 dv => by
  cases dv
  exact ⟨a, rfl, q _ H1 e1 (.bl _)⟩
theorem ec_val {b : Bool} (h : EvD K ta ρ (.bool b)) : EvC K (tB ta) ρ b := fun σ H g Q q => h σ H g _ fun v H1 e1 dv => by
  cases dv
  exact ⟨b, rfl, q H1 e1⟩
theorem ed_if {b : Bool} {x : PyData} (hc : EvC K t ρ b) (h1 : b = true → EvD K ta ρ x) (h2 : b = false → EvD K tb ρ x) : EvD K (tIf t ta tb) ρ x := fun σ H g Q q => hc σ H g _ fun H1 e1 => by
  cases b with
  | true => exact iteT (h1 rfl σ H1 (g.mono e1) Q fun v H2 e2 d2 => q v H2 (e1.trans e2) d2)
  | false => exact iteF (h2 rfl σ H1 (g.mono e1) Q fun v H2 e2 d2 => q v H2 (e1.trans e2) d2)
/-- a < b < c, both answers bools -/
theorem ed_chain {r r' : R2} {x y z : PyData} {a b : Bool} (ha : EvD K ta ρ x) (hb : EvD K tb ρ y) (hc : EvD K tc ρ z)
    (hr : ∀ (H : Hp) (v w : V) (Q : VK), Dp K H v x → Dp K H w y → (Q (.bl a) H) → r v w H Q)
    (hr' : ∀ (H : Hp) (v w : V) (Q : VK), Dp K H v y → Dp K H w z → (Q (.bl b) H) → r' v w H Q) : EvD K (tChain r r' ta tb tc) ρ (.bool (a && b)) := fun σ H g Q q =>
  ha σ H g _ fun v H1 e1 d1 => hb σ H1 (g.mono e1) _ fun w H2 e2 d2 => hr H2 v w _ (dpm e2 d1) d2 ⟨a, rfl, by
    cases a with
    | true => exact iteT (hc σ H2 (g.mono (e1.trans e2)) _ fun u H3 e3 d3 => hr' H3 w u Q (dpm e3 d2) d3 (q _ H3 ((e1.trans e2).trans e3) (.bl _)))
    | false => exact iteF (q _ H2 (e1.trans e2) (.bl _))⟩
theorem ch_le {i j : Int} (H : Hp) (v w : V) (Q : VK) (dv : Dp K H v (.int i)) (dw : Dp K H w (.int j)) (q : Q (.bl (decide (i ≤ j))) H) : (rI0 fun i j => .bl (decide (i ≤ j))) v w H Q := by
  cases dv
  cases dw
  exact ⟨i, j, rfl, rfl, q⟩
theorem ch_leS {i j : Str} (H : Hp) (v w : V) (Q : VK) (dv : Dp K H v (.str i)) (dw : Dp K H w (.str j)) (q : Q (.bl (!sLt j i)) H) : rLeS v w H Q := by
  cases dv
  cases dw
  exact ⟨i, j, rfl, rfl, q⟩
/-! ### arguments, displays -/
theorem es_nil : EvS K tNil ρ [] := fun _ H _ _ q => q [] H (Ex.refl H) .nil
theorem es_cons {tr : TA} {x : PyData} {xs : List PyData} (h : EvD K ta ρ x) (hs : EvS K tr ρ xs) : EvS K (tCons ta tr) ρ (x :: xs) := fun σ H g Q q =>
  h σ H g _ fun v H1 e1 d1 => hs σ H1 (g.mono e1) _ fun vs H2 e2 d2 => q (v :: vs) H2 (e1.trans e2) (.cons (dpm e2 d1) d2)
theorem EvS.is {ta : TA} {xs ys : List PyData} (h : EvS K ta ρ xs) (q : xs = ys) : EvS K ta ρ ys := q ▸ h
theorem ed_tup {ta : TA} {xs : List PyData} (h : EvS K ta ρ xs) (hl : xs.length ≤ 100000) : EvD K (tTup ta) ρ (.tuple xs) := fun σ H g Q q =>
  h σ H g _ fun vs H1 e1 d1 => ⟨sz_of (by rw [dps_len d1]; exact hl), fun p hp => q _ _ (e1.trans (Ex.new hp)) (.tup (st_of upd_same) (dpms (Ex.new hp) d1))⟩
theorem ed_lst {ta : TA} {xs : List PyData} (h : EvS K ta ρ xs) (hl : xs.length ≤ 100000) : EvD K (tLst ta) ρ (.list xs) := fun σ H g Q q =>
  h σ H g _ fun vs H1 e1 d1 => ⟨sz_of (by rw [dps_len d1]; exact hl), fun p hp => q _ _ (e1.trans (Ex.new hp)) (.lst (sq_of upd_same) (dpms (Ex.new hp) d1))⟩
/-! ### subscripts -/
theorem ixN_of {n : Nat} {i : Int} {k : Nat} (h : i = (k : Int)) (hk : k < n) : ixN n i = some k := by
  unfold ixN
  rw [if_pos (by omega), if_pos (by omega), h]
  rfl
/-- the item at a place that is counted from 0 -/
theorem ed_ixT {xs : List PyData} {i : Int} {x : PyData} (ha : EvD K ta ρ (.tuple xs)) (hb : EvD K tb ρ (.int i)) (hi : 0 ≤ i) (hx : xs[i.toNat]? = some x) : EvD K (tOp (rIxT K) ta tb) ρ x := ed_two ha hb fun H v w Q dv dw k => by
  cases dw
  cases dv with
  | tup h hs =>
    obtain ⟨v, e1, e2⟩ := dps_at i.toNat hs hx
    exact ⟨_, _, i, v, rfl, rfl, h, at_of (by omega) e1, k v H (Ex.refl H) e2⟩
theorem ed_ixL {xs : List PyData} {i : Int} {x : PyData} (ha : EvD K ta ρ (.list xs)) (hb : EvD K tb ρ (.int i)) (hi : 0 ≤ i) (hx : xs[i.toNat]? = some x) : EvD K (tOp (rIxL K) ta tb) ρ x := ed_two ha hb fun H v w Q dv dw k => by
  cases dw
  cases dv with
  | lst h hs =>
    obtain ⟨v, e1, e2⟩ := dps_at i.toNat hs hx
    exact ⟨_, _, i, v, rfl, rfl, h, at_of (by omega) e1, k v H (Ex.refl H) e2⟩
theorem ed_ixS {z : Str} {i : Int} {c : Nat} (ha : EvD K ta ρ (.str z)) (hb : EvD K tb ρ (.int i)) (hl : z.length ≤ sizeLine) (hi : 0 ≤ i) (hx : z.cps.toList[i.toNat]? = some c) : EvD K (tOp rIxS ta tb) ρ (.str ⟨#[c]⟩) := ed_two ha hb fun H v w Q dv dw k => by
  cases dw
  cases dv
  have e : atI z.cps.toList i = some c := by
    have h1 := atI_nat hx
    rw [show ((i.toNat : Nat) : Int) = i by omega] at h1
    exact h1
  exact ⟨z, i, c, rfl, rfl, hl, e, k _ H (Ex.refl H) (.str _)⟩
/-! ### calls -/
/-- the promise of a pure def, told over data -/
def spD (K : Frag) (W : List PyData → PyData → Prop) : Sp := fun vs H Q _ => ∃ ds d, DpAll K H vs ds ∧ W ds d ∧ ∀ v H', Ex H H' → Dp K H' v d → Q v H'
theorem ed_call {W : List PyData → PyData → Prop} {E : XK} {ta : TA} {xs : List PyData} {x : PyData} (h : EvS K ta ρ xs) (hw : W xs x) : EvD K (tCall (spD K W) [] E ta) ρ x := fun σ H g Q q =>
  h σ H g _ fun vs H1 e1 d1 => by
    show spD K W (vs ++ []) H1 Q E
    rw [List.append_nil]
    exact ⟨xs, x, d1, hw, fun v H2 e2 d2 => q v H2 (e1.trans e2) d2⟩
theorem ed_cb {r : List V → Hp → VK → Prop} {ta : TA} {xs : List PyData} {x : PyData} (h : EvS K ta ρ xs) (hr : ∀ (H : Hp) (vs : List V) (Q : VK), DpAll K H vs xs → (∀ v H2, Ex H H2 → Dp K H2 v x → Q v H2) → r vs H Q) : EvD K (tCB r ta) ρ x := fun σ H g Q q =>
  h σ H g _ fun vs H1 e1 d1 => hr H1 vs Q d1 fun v H2 e2 d2 => q v H2 (e1.trans e2) d2
theorem dps1 {H : Hp} {vs : List V} {x : PyData} (h : DpAll K H vs [x]) : ∃ v, vs = [v] ∧ Dp K H v x := by
  cases h with
  | cons a b =>
    cases b
    exact ⟨_, rfl, a⟩
theorem dps2 {H : Hp} {vs : List V} {x y : PyData} (h : DpAll K H vs [x, y]) : ∃ v w, vs = [v, w] ∧ Dp K H v x ∧ Dp K H w y := by
  cases h with
  | cons a b =>
    obtain ⟨w, rfl, c⟩ := dps1 b
    exact ⟨_, w, rfl, a, c⟩
def rInt1 : List V → Hp → VK → Prop := fun xs H Q => (∃ i, xs = [.int i] ∧ Q (.int i) H) ∨ ∃ k, xs = [.bl k] ∧ Q (.int (if k then 1 else 0)) H
theorem cr_int1 {X : Cx} : CallR X (.type "int") rInt1 := call_int1
theorem ed_toint {ta : TA} {i : Int} (h : EvS K ta ρ [.int i]) : EvD K (tCB rInt1 ta) ρ (.int i) := ed_cb h fun H vs Q d1 k => by
  obtain ⟨v, rfl, dv⟩ := dps1 d1
  cases dv
  exact .inl ⟨i, rfl, k _ H (Ex.refl H) (.int i)⟩
/-- len -/
def rLenD (K : Frag) : List V → Hp → VK → Prop := fun xs H Q => ∃ x n, xs = [x] ∧ LenV K x H n ∧ Q (.int n) H
theorem cr_len {X : Cx} : CallR X (.builtin "len") (rLenD X.K) := call_len
theorem ed_lenT {ta : TA} {xs : List PyData} (h : EvS K ta ρ [.tuple xs]) : EvD K (tCB (rLenD K) ta) ρ (.int (xs.length : Int)) := ed_cb h fun H vs Q d1 k => by
  obtain ⟨v, rfl, dv⟩ := dps1 d1
  cases dv with
  | tup h hs => exact ⟨_, _, rfl, .inr ⟨_, h, (dps_len hs).symm⟩, k _ H (Ex.refl H) (.int _)⟩
theorem ed_lenL {ta : TA} {xs : List PyData} (h : EvS K ta ρ [.list xs]) : EvD K (tCB (rLenD K) ta) ρ (.int (xs.length : Int)) := ed_cb h fun H vs Q d1 k => by
  obtain ⟨v, rfl, dv⟩ := dps1 d1
  cases dv with
  | lst h hs => exact ⟨_, _, rfl, .inl ⟨_, h, (dps_len hs).symm⟩, k _ H (Ex.refl H) (.int _)⟩
theorem ed_lenS {ta : TA} {z : Str} (h : EvS K ta ρ [.str z]) (hl : z.length ≤ sizeLine) : EvD K (tCB (rLenD K) ta) ρ (.int (z.length : Int)) := ed_cb h fun H vs Q d1 k => by
  obtain ⟨v, rfl, dv⟩ := dps1 d1
  cases dv
  exact ⟨_, _, rfl, ⟨hl, rfl⟩, k _ H (Ex.refl H) (.int _)⟩
def rMaxI : List V → Hp → VK → Prop := fun xs H Q => ∃ i j, xs = [.int i, .int j] ∧ Q (.int (if j > i then j else i)) H
def rMinI : List V → Hp → VK → Prop := fun xs H Q => ∃ i j, xs = [.int i, .int j] ∧ Q (.int (if j < i then j else i)) H
theorem cr_maxI {X : Cx} (hc : X.calm = true) : CallR X (.builtin "max") rMaxI := call_max2 hc
theorem cr_minI {X : Cx} (hc : X.calm = true) : CallR X (.builtin "min") rMinI := call_min2 hc
theorem ed_maxI {ta : TA} {i j : Int} (h : EvS K ta ρ [.int i, .int j]) : EvD K (tCB rMaxI ta) ρ (.int (if j > i then j else i)) := ed_cb h fun H vs Q d1 k => by
  obtain ⟨v, w, rfl, dv, dw⟩ := dps2 d1
  cases dv
  cases dw
  exact ⟨i, j, rfl, k _ H (Ex.refl H) (.int _)⟩
theorem ed_minI {ta : TA} {i j : Int} (h : EvS K ta ρ [.int i, .int j]) : EvD K (tCB rMinI ta) ρ (.int (if j < i then j else i)) := ed_cb h fun H vs Q d1 k => by
  obtain ⟨v, w, rfl, dv, dw⟩ := dps2 d1
  cases dv
  cases dw
  exact ⟨i, j, rfl, k _ H (Ex.refl H) (.int _)⟩
/-! ### isinstance -/
def tyN : PyData → String
  | .none => "NoneType"
  | .bool _ => "bool"
  | .int _ => "int"
  | .str _ => "str"
  | .list _ => "list"
  | .tuple _ => "tuple"
  | .dict _ => "dict"
theorem tyx_of {H : Hp} {v : V} (h : Dp K H v d) : TyX K H v (.type (tyN d)) := by
  cases h with
  | non => exact .base .non
  | bl b => exact .base (.bl b)
  | int i => exact .base (.int i)
  | str x => exact .base (.str x)
  | lst h hs =>
    rcases h with (h | ⟨o, h⟩) | ⟨o, its, n, h, c, _⟩
    · exact .base (.lst h)
    · exact .base (.frz h)
    · exact .kList h c
  | tup h hs =>
    rcases h with (h | ⟨o, h⟩) | ⟨o, its, n, h, c, _⟩
    · exact .base (.tup h)
    · exact .fTuple h
    · exact .kTuple h c
/-- isinstance(x, T), T the built-in class named n: the second argument's reading is the class itself -/
theorem ed_isi {n : String} {x : PyData} {b : Bool} (h : EvD K ta ρ x) (hb : kitB (tyN x) n = some b) : EvD K (tCB (rIsi K) (tCons ta (tCons (tC (.ty n)) tNil))) ρ (.bool b) := fun σ H g Q q =>
  h σ H g _ fun v H1 e1 d1 => ⟨v, .ty n, _, _, b, rfl, .ty n, tyx_of d1, kit_ty hb, q _ H1 e1 (.bl b)⟩
end

/-! ### statements: N what is known where they end, R what they return -/
def Run (K : Frag) (ts : TS) (ρ : Rho) (N : Rho → Prop) (R : PyData → Prop) : Prop := ∀ (D : Ends) (σ : L2.St) (H : Hp), Holds K H σ ρ →
  (∀ ρ' σ' H', N ρ' → Ex H H' → Holds K H' σ' ρ' → D.nx σ' H') → (∀ d v H', R d → Ex H H' → Dp K H' v d → D.rt v H') → ts D σ H
section
variable {K : Frag} {ρ : Rho} {te : TE} {t : TT} {ta : TA} {t1 t2 tb : TS} {N M : Rho → Prop} {R : PyData → Prop} {d : PyData}
theorem run_seq (h1 : Run K t1 ρ M R) (h2 : ∀ ρ', M ρ' → Run K t2 ρ' N R) : Run K (tSeq t1 t2) ρ N R := fun D σ H g hN hR =>
  h1 { D with nx := t2 D } σ H g (fun ρ' σ' H' m e1 g1 => h2 ρ' m D σ' H' g1 (fun ρ2 σ2 H2 n e2 g2 => hN ρ2 σ2 H2 n (e1.trans e2) g2) fun d v H2 r e2 dv => hR d v H2 r (e1.trans e2) dv) hR
theorem run_next (h : N ρ) : Run K tNext ρ N R := fun D σ H g hN _ => hN ρ σ H h (Ex.refl H) g
theorem run_ret (h : EvD K te ρ d) (hr : R d) : Run K (tRet te) ρ N R := fun D σ H g _ hR => h σ H g _ fun v H1 e1 d1 => hR d v H1 hr e1 d1
theorem run_asg {i : Nat} (h : EvD K te ρ d) (hn : N (ρ.set i (some d))) : Run K (tAsg te (gName i)) ρ N R := fun D σ H g hN _ => h σ H g _ fun v H1 e1 d1 => hN _ _ H1 hn e1 ((g.mono e1).put i d1)
/-- x = e, and what follows -/
theorem run_set {i : Nat} (h : EvD K te ρ d) (k : Run K t2 (ρ.set i (some d)) N R) : Run K (tSeq (tAsg te (gName i)) t2) ρ N R := run_seq (M := fun ρ' => ρ' = ρ.set i (some d)) (run_asg h rfl) fun ρ' e => e ▸ k
theorem run_if {b : Bool} (h : EvC K t ρ b) (h1 : b = true → Run K t1 ρ N R) (h2 : b = false → Run K t2 ρ N R) : Run K (tIfS t t1 t2) ρ N R := fun D σ H g hN hR => h σ H g _ fun H1 e1 => by
  cases b with
  | true => exact iteT (h1 rfl D σ H1 (g.mono e1) (fun ρ' σ' H' n e2 g2 => hN ρ' σ' H' n (e1.trans e2) g2) fun d v H' r e2 dv => hR d v H' r (e1.trans e2) dv)
  | false => exact iteF (h2 rfl D σ H1 (g.mono e1) (fun ρ' σ' H' n e2 g2 => hN ρ' σ' H' n (e1.trans e2) g2) fun d v H' r e2 dv => hR d v H' r (e1.trans e2) dv)
/-- an if whose branches are followed by the same rest -/
theorem run_ifs {b : Bool} (h : EvC K t ρ b) (h1 : b = true → Run K (tSeq t1 tb) ρ N R) (h2 : b = false → Run K (tSeq t2 tb) ρ N R) : Run K (tSeq (tIfS t t1 t2) tb) ρ N R := fun D σ H g hN hR => h σ H g _ fun H1 e1 => by
  cases b with
  | true => exact iteT (h1 rfl D σ H1 (g.mono e1) (fun ρ' σ' H' n e2 g2 => hN ρ' σ' H' n (e1.trans e2) g2) fun d v H' r e2 dv => hR d v H' r (e1.trans e2) dv)
  | false => exact iteF (h2 rfl D σ H1 (g.mono e1) (fun ρ' σ' H' n e2 g2 => hN ρ' σ' H' n (e1.trans e2) g2) fun d v H' r e2 dv => hR d v H' r (e1.trans e2) dv)
theorem run_nexts (k : Run K t2 ρ N R) : Run K (tSeq tNext t2) ρ N R := fun D σ H g hN hR => k D σ H g hN hR
theorem run_retS (h : EvD K te ρ d) (hr : R d) : Run K (tSeq (tRet te) t2) ρ N R := fun D σ H g _ hR => h σ H g _ fun v H1 e1 d1 => hR d v H1 hr e1 d1
theorem run_assoc {t3 : TS} (h : Run K (tSeq t1 (tSeq t2 t3)) ρ N R) : Run K (tSeq (tSeq t1 t2) t3) ρ N R := h
/-- a, b = e -/
theorem run_pair {i j : Nat} {x y : PyData} (h : EvD K te ρ (.tuple [x, y])) (k : Run K t2 ((ρ.set i (some x)).set j (some y)) N R) :
    Run K (tSeq (tAsg te (gTup K 2 (gCons (gName i) (gCons (gName j) gNil)))) t2) ρ N R := fun D σ H g hN hR => h σ H g _ fun v H1 e1 d1 => by
  cases d1 with
  | tup hq hs =>
    obtain ⟨v, w, rfl, dv, dw⟩ := dps2 hs
    refine ⟨_, _, rfl, hq, rfl, v, [w], rfl, w, [], rfl, rfl, ?_⟩
    exact k D _ H1 (((g.mono e1).put i dv).put j dw) (fun ρ' σ' H' n e2 g2 => hN ρ' σ' H' n (e1.trans e2) g2) fun d v H' r e2 dv => hR d v H' r (e1.trans e2) dv
/-- a, b = e, f -/
theorem run_par {i j : Nat} {x y : PyData} (h : EvS K ta ρ [x, y]) (k : Run K t2 ((ρ.set i (some x)).set j (some y)) N R) : Run K (tSeq (tPar i j ta) t2) ρ N R := fun D σ H g hN hR => h σ H g _ fun vs H1 e1 d1 => by
  obtain ⟨v, w, rfl, dv, dw⟩ := dps2 d1
  exact ⟨v, w, rfl, k D _ H1 (((g.mono e1).put i dv).put j dw) (fun ρ' σ' H' n e2 g2 => hN ρ' σ' H' n (e1.trans e2) g2) fun d v H' r e2 dv => hR d v H' r (e1.trans e2) dv⟩
/-! loops: I the word, by the turn -/
theorem run_range {j : Nat} {n : Int} (h : EvS K ta ρ [.int n]) (hn : -(2 ^ 62) ≤ n ∧ n < 2 ^ 62) (I : Nat → Rho → Prop) (h0 : I 0 ρ)
    (hs : ∀ (i : Nat) ρ', (i : Int) < n → I i ρ' → Run K tb (ρ'.set j (some (.int (i : Int)))) (I (i + 1)) R) (hd : ∀ ρ', I n.toNat ρ' → Run K t2 ρ' N R) : Run K (tSeq (tFor (iRng1 ta) (gName j) tb) t2) ρ N R := fun D σ H g hN hR =>
  h σ H g _ fun vs H1 e1 d1 => by
    obtain ⟨v, rfl, dv⟩ := dps1 d1
    cases dv
    refine ⟨n, rfl, hn.1, hn.2, for_range (lo := 0) (n := n.toNat) (fun i σ' H' => ∃ ρ', I i ρ' ∧ Ex H H' ∧ Holds K H' σ' ρ') ⟨ρ, h0, e1, g.mono e1⟩ (fun i σ' H' hi w => ?_) fun σ' H' w => ?_⟩
    · obtain ⟨ρ', p, e2, g2⟩ := w
      have q := hs i ρ' (by omega) p
      show tb _ (σ'.set j (some (.int ((0 : Int) + (i : Int))))) H'
      rw [Int.zero_add]
      exact q _ _ H' (g2.put j (.int _)) (fun ρ3 σ3 H3 p3 e3 g3 => ⟨ρ3, p3, e2.trans e3, g3⟩) fun d v H3 r e3 dv => hR d v H3 r (e2.trans e3) dv
    · obtain ⟨ρ', p, e2, g2⟩ := w
      exact hd ρ' p D σ' H' g2 (fun ρ3 σ3 H3 p3 e3 g3 => hN ρ3 σ3 H3 p3 (e2.trans e3) g3) fun d v H3 r e3 dv => hR d v H3 r (e2.trans e3) dv
theorem run_forT {j : Nat} {xs : List PyData} (h : EvD K te ρ (.tuple xs)) (I : Nat → Rho → Prop) (h0 : I 0 ρ)
    (hs : ∀ (i : Nat) x ρ', xs[i]? = some x → I i ρ' → Run K tb (ρ'.set j (some x)) (I (i + 1)) R) (hd : ∀ ρ', I xs.length ρ' → Run K t2 ρ' N R) : Run K (tSeq (tFor (iTup K te) (gName j) tb) t2) ρ N R := fun D σ H g hN hR =>
  h σ H g _ fun v H1 e1 d1 => by
    cases d1 with
    | tup hq hds =>
      refine ⟨_, rfl, ⟨_, hq⟩, for_tup (K := K) (fun i σ' H' => ∃ ρ', I i ρ' ∧ Ex H1 H' ∧ Holds K H' σ' ρ') ⟨ρ, h0, Ex.refl _, g.mono e1⟩ (fun i σ' H' _ w => ex_t w.choose_spec.2.1 hq) (fun i v σ' H' hv w => ?_) fun σ' H' w => ?_⟩
      · obtain ⟨ρ', p, e2, g2⟩ := w
        obtain ⟨x, hx, dx⟩ := dps_to i hds hv
        exact hs i x ρ' hx p _ _ H' (g2.put j (dpm e2 dx)) (fun ρ3 σ3 H3 p3 e3 g3 => ⟨ρ3, p3, e2.trans e3, g3⟩) fun d v H3 r e3 dv => hR d v H3 r ((e1.trans e2).trans e3) dv
      · obtain ⟨ρ', p, e2, g2⟩ := w
        rw [dps_len hds] at p
        exact hd ρ' p D σ' H' g2 (fun ρ3 σ3 H3 p3 e3 g3 => hN ρ3 σ3 H3 p3 ((e1.trans e2).trans e3) g3) fun d v H3 r e3 dv => hR d v H3 r ((e1.trans e2).trans e3) dv
theorem run_forL {j : Nat} {xs : List PyData} (h : EvD K te ρ (.list xs)) (I : Nat → Rho → Prop) (h0 : I 0 ρ)
    (hs : ∀ (i : Nat) x ρ', xs[i]? = some x → I i ρ' → Run K tb (ρ'.set j (some x)) (I (i + 1)) R) (hd : ∀ ρ', I xs.length ρ' → Run K t2 ρ' N R) : Run K (tSeq (tFor (iList K te) (gName j) tb) t2) ρ N R := fun D σ H g hN hR =>
  h σ H g _ fun v H1 e1 d1 => by
    cases d1 with
    | lst hq hds =>
      refine ⟨_, rfl, ⟨_, hq⟩, for_list (K := K) (fun i σ' H' => ∃ ρ', I i ρ' ∧ Ex H1 H' ∧ Holds K H' σ' ρ') ⟨ρ, h0, Ex.refl _, g.mono e1⟩ (fun i σ' H' _ w => ex_l w.choose_spec.2.1 hq) (fun i v σ' H' hv w => ?_) fun σ' H' w => ?_⟩
      · obtain ⟨ρ', p, e2, g2⟩ := w
        obtain ⟨x, hx, dx⟩ := dps_to i hds hv
        exact hs i x ρ' hx p _ _ H' (g2.put j (dpm e2 dx)) (fun ρ3 σ3 H3 p3 e3 g3 => ⟨ρ3, p3, e2.trans e3, g3⟩) fun d v H3 r e3 dv => hR d v H3 r ((e1.trans e2).trans e3) dv
      · obtain ⟨ρ', p, e2, g2⟩ := w
        rw [dps_len hds] at p
        exact hd ρ' p D σ' H' g2 (fun ρ3 σ3 H3 p3 e3 g3 => hN ρ3 σ3 H3 p3 ((e1.trans e2).trans e3) g3) fun d v H3 r e3 dv => hR d v H3 r ((e1.trans e2).trans e3) dv
theorem run_forS {j : Nat} {z : Str} (h : EvD K te ρ (.str z)) (I : Nat → Rho → Prop) (h0 : I 0 ρ)
    (hs : ∀ (i : Nat) c ρ', z.cps.toList[i]? = some c → I i ρ' → Run K tb (ρ'.set j (some (.str ⟨#[c]⟩))) (I (i + 1)) R) (hd : ∀ ρ', I z.cps.toList.length ρ' → Run K t2 ρ' N R) : Run K (tSeq (tFor (iStr te) (gName j) tb) t2) ρ N R := fun D σ H g hN hR =>
  h σ H g _ fun v H1 e1 d1 => by
    cases d1
    refine ⟨z, rfl, for_it (walk_str (z := z)) (fun i σ' H' => ∃ ρ', I i ρ' ∧ Ex H H' ∧ Holds K H' σ' ρ') ⟨ρ, h0, e1, g.mono e1⟩ (fun _ _ _ _ _ => trivial) (fun i v σ' H' H2 hi w y => ?_) fun σ' H' w => ?_⟩
    · obtain ⟨ρ', p, e2, g2⟩ := w
      obtain ⟨rfl, c, hc, rfl⟩ := y
      exact hs i c ρ' (by rw [Array.getElem?_toList]; exact hc) p _ _ _ (g2.put j (.str _)) (fun ρ3 σ3 H3 p3 e3 g3 => ⟨ρ3, p3, e2.trans e3, g3⟩) fun d v H3 r e3 dv => hR d v H3 r (e2.trans e3) dv
    · obtain ⟨ρ', p, e2, g2⟩ := w
      exact hd ρ' (by rw [Array.length_toList]; exact p) D σ' H' g2 (fun ρ3 σ3 H3 p3 e3 g3 => hN ρ3 σ3 H3 p3 (e2.trans e3) g3) fun d v H3 r e3 dv => hR d v H3 r (e2.trans e3) dv
end

/-! ### a pure def keeps its promise -/
section
variable {P : Program} {w : World} {K : Frag} {mg : Str → Option Value} {base : Heap}
abbrev FnP (K : Frag) (x : Str) (st : Stmt) (f : Addr) (fd : FuncData) : Prop := L2.FunD K x x (defArgs st) (defBody st) (defScope st) [] [] f fd
def rho0 (n : Nat) (ds : List PyData) : Rho := ds.map some ++ List.replicate (n - ds.length) none
theorem fn_data {x : Str} {st : Stmt} {f : Addr} {fd : FuncData} {N ps : List Str} {k : Nat} {W : List PyData → PyData → Prop} (F : FnP K x st f fd) (S : FnScope N ps (defScope st)) (len : ∀ ds d, W ds d → ds.length = ps.length)
    (body : ∀ ds d, W ds d → ∀ (cdv : Value) (A : Around) (outer : List PySem.Env) (s : Shared) (H : Hp) (E : XK), Room k (A.deeper (PyProof.Rows.envOfC x (defScope st) s.heap.objs.size f cdv)) →
      ∃ t, PSs (cxOf CX0 P w K mg base N x (defScope st) f cdv A outer s H E).nox (defBody st) t ∧ Run K t (rho0 N.length ds) (fun _ => d = .none) (fun e => e = d)) : FnOk P w K mg base CX0 (k + 1) f fd ps (spD K W) := by
  refine L2.FunD.ok F S (fun vs H Q E h => ?_) (fun cdv A outer s H vs Q E hr h => ?_)
  · obtain ⟨ds, d, h1, h2, _⟩ := h
    rw [dps_len h1]
    exact len ds d h2
  · obtain ⟨ds, d, h1, h2, q⟩ := h
    obtain ⟨t, ht, hrun⟩ := body ds d h2 cdv A outer s H E hr
    refine ⟨t, PSs.nox ht, hrun _ _ H (dps_start h1) (fun ρ' σ' H' e e1 _ => ?_) fun e v H' q1 e1 dv => ?_⟩
    · subst e
      exact q .non H' e1 .non
    · subst q1
      exact q v H' e1 dv
/-- the script as data -/
def dScr (ns : List Int) : PyData := .list (ns.map PyData.int)
def WLaw : List PyData → PyData → Prop := fun ds d => ∃ ns : List Int, ds = [dScr ns] ∧ ns.length ≤ 63 ∧ d = .bool true
theorem law_end {H : Hp} {a : Addr} {ns : List Int} (hl : ns.length ≤ 63) (h : SqL K H a (ns.map V.int)) : spD K WLaw [.ref a] H (fun v _ => v = .bl true) (fun _ _ _ => False) :=
  ⟨[dScr ns], .bool true, .cons (.lst h (dps_ints ns)) .nil, ⟨ns, rfl, hl, rfl⟩, fun v _ _ dv => by
    cases dv
    rfl⟩
end
end Pd

namespace Pd
open PySem L2 Evl
theorem cmpS_gt {P : Program} {w : World} {A : Around} {B : Nat → Value → Prop} (z : Nat → Str) (hz : ∀ i v, B i v → ∃ t, v = .str (z i) t) : CmpOf P w A .Gt B (fun i j => decide ((z j).cps.toList < (z i).cps.toList)) := by
  intro i j vi vj s Q E bi bj h
  obtain ⟨t, rfl⟩ := hz i vi bi
  obtain ⟨u, rfl⟩ := hz j vj bj
  refine richCompare_gives (op := .Gt) (typeIs_str s _ t) (typeIs_str s _ u) F.slot_str_gt F.entry_str_gt ?_ (gives_str_gt _ _ t u) (fun q => nomatch q) h
  exact F.args_str_gt_2 _ _
theorem cmpS_lt {P : Program} {w : World} {A : Around} {B : Nat → Value → Prop} (z : Nat → Str) (hz : ∀ i v, B i v → ∃ t, v = .str (z i) t) : CmpOf P w A .Lt B (fun i j => decide ((z i).cps.toList < (z j).cps.toList)) := by
  intro i j vi vj s Q E bi bj h
  obtain ⟨t, rfl⟩ := hz i vi bi
  obtain ⟨u, rfl⟩ := hz j vj bj
  refine richCompare_gives (op := .Lt) (typeIs_str s _ t) (typeIs_str s _ u) F.slot_str_lt F.entry_str_lt ?_ (gives_str_lt _ _ t u) (fun q => nomatch q) h
  exact F.args_str_lt_2 _ _
section
variable {prog : Program} {w : World} {A : Around} {E : Value → Shared → Prop} {s : Shared}
/-- the walk over the pair that max, min lay down -/
theorem pair_walk {op : CmpOp} {a b : Value} {bt : Nat → Nat → Bool} {Q : Value → Shared → Prop} (hh : A.handled = none) (hc : CmpOf prog w A.in1 op (fun i v => (#[a, b] : Array Value)[i]? = some v) bt)
    (h : ∀ h' tk, (∀ c o, s.heap.get? c = some o → h'.get? c = some o) → Q (if bt 1 0 = true then b else a) { s with heap := h', toks := tk }) :
    wpAny (model prog w) A.in1 (pyIter (.ref s.heap.objs.size)) (fun it s₂ => ∃ I fp wr n P St bt, it = .ref I ∧ Walks prog w A.in1 I fp wr n P St ∧ St 0 s₂.heap ∧ (∀ b ∈ fp, b < s₂.heap.objs.size) ∧ 0 < n ∧ CmpOf prog w A.in1 op P bt ∧
      ∀ v h' tk, P (argBest bt (n - 1)) v → (∀ b o, b ∉ wr → s₂.heap.get? b = some o → h'.get? b = some o) → Q v { s₂ with heap := h', toks := tk }) E
      { s with heap := s.heap.push { cls := .type "tuple", data := .seq #[a, b] } } := by
  have new : (s.heap.push { cls := .type "tuple", data := .seq #[a, b] }).IsTuple s.heap.objs.size #[a, b] := ⟨_, Heap.get?_push_size _ rfl, rfl, 0, rfl⟩
  have sz : (s.heap.push { cls := .type "tuple", data := .seq #[a, b] }).objs.size = s.heap.objs.size + 1 := Heap.size_push ..
  refine wpAny_pyIter_tuple new ?_
  refine ⟨_, [_, s.heap.objs.size], [_], 2, _, _, bt, rfl, Walks.tuple (A := A.in1) hh _ s.heap.objs.size (fun z => Nat.succ_ne_self _ (sz.symm.trans z.symm)) #[a, b], ?_, ?_, by decide, hc, ?_⟩
  · exact ⟨⟨_, Heap.get?_push_size _ rfl, rfl, rfl⟩, new.push _⟩
  · intro c hm
    show c < ((s.heap.push _).push _).objs.size
    rw [Heap.size_push, sz]
    simp only [List.mem_cons, List.not_mem_nil, or_false] at hm
    rcases hm with rfl | rfl
    · rw [sz]
      exact Nat.lt_succ_self _
    · exact Nat.lt_succ_of_lt (Nat.lt_succ_self _)
  · intro v h' tk hP hk
    have old : ∀ c o, s.heap.get? c = some o → h'.get? c = some o := by
      intro c o e
      refine hk c o ?_ (Heap.get?_push_of_some _ (Heap.get?_push_of_some _ e))
      intro hm
      simp only [List.mem_cons, List.not_mem_nil, or_false] at hm
      have l := Heap.lt_size e
      rw [hm, sz] at l
      exact Nat.lt_irrefl _ (Nat.lt_of_succ_lt l)
    have q := h h' tk old
    have hv : v = if bt 1 0 = true then b else a := by
      have hb : argBest bt (2 - 1) = if bt 1 0 = true then 1 else 0 := by simp [argBest]
      rw [hb] at hP
      by_cases c : bt 1 0 = true
      · rw [if_pos c] at hP ⊢
        simpa using hP.symm
      · rw [if_neg c] at hP ⊢
        simpa using hP.symm
    rw [hv]
    exact q
theorem sAt {x y : Str} {t u : Tok} (i : Nat) (v : Value) (h : (#[Value.str x t, Value.str y u] : Array Value)[i]? = some v) : ∃ t', v = .str (if i = 0 then x else y) t' := by
  match i, h with
  | 0, h => exact ⟨t, by simpa using h.symm⟩
  | 1, h => exact ⟨u, by simpa using h.symm⟩
  | n + 2, h => simp at h
end
def sMax (x y : Str) : Str := if sLt x y = true then y else x
def sMin (x y : Str) : Str := if sLt y x = true then y else x
def rMaxS : List V → Hp → VK → Prop := fun xs H Q => ∃ x y, xs = [.str x, .str y] ∧ Q (.str (sMax x y)) H
def rMinS : List V → Hp → VK → Prop := fun xs H Q => ∃ x y, xs = [.str x, .str y] ∧ Q (.str (sMin x y)) H
theorem cr_maxS {X : Cx} (hc : X.calm = true) : CallR X (.builtin "max") rMaxS := by
  intro pins s σ H xs us Q I r h
  obtain ⟨x, y, rfl, q⟩ := h
  obtain ⟨u1, u2, rfl, ⟨t, rfl⟩, ⟨t', rfl⟩⟩ := vals2 r
  refine call_max_two (pair_walk (I.ok.hd hc) (cmpS_gt (fun i => if i = 0 then x else y) (fun i v => sAt i v)) fun h' tk k => ⟨_, H, I.kept k, ?_, q⟩)
  unfold sMax sLt
  by_cases c : x.cps.toList < y.cps.toList
  · simp [c]
    exact ⟨_, rfl⟩
  · simp [c]
    exact ⟨_, rfl⟩
theorem cr_minS {X : Cx} (hc : X.calm = true) : CallR X (.builtin "min") rMinS := by
  intro pins s σ H xs us Q I r h
  obtain ⟨x, y, rfl, q⟩ := h
  obtain ⟨u1, u2, rfl, ⟨t, rfl⟩, ⟨t', rfl⟩⟩ := vals2 r
  refine call_min_two (pair_walk (I.ok.hd hc) (cmpS_lt (fun i => if i = 0 then x else y) (fun i v => sAt i v)) fun h' tk k => ⟨_, H, I.kept k, ?_, q⟩)
  unfold sMin sLt
  by_cases c : y.cps.toList < x.cps.toList
  · simp [c]
    exact ⟨_, rfl⟩
  · simp [c]
    exact ⟨_, rfl⟩
section
variable {K : Frag} {ρ : Rho} {ta tb tc te : TE} {t u : TT} {d e : PyData}
theorem ed_maxS {ta : TA} {i j : Str} (h : EvS K ta ρ [.str i, .str j]) : EvD K (tCB rMaxS ta) ρ (.str (sMax i j)) := ed_cb h fun H vs Q d1 k => by
  obtain ⟨v, w, rfl, dv, dw⟩ := dps2 d1
  cases dv
  cases dw
  exact ⟨i, j, rfl, k _ H (Ex.refl H) (.str _)⟩
theorem ed_minS {ta : TA} {i j : Str} (h : EvS K ta ρ [.str i, .str j]) : EvD K (tCB rMinS ta) ρ (.str (sMin i j)) := ed_cb h fun H vs Q d1 k => by
  obtain ⟨v, w, rfl, dv, dw⟩ := dps2 d1
  cases dv
  cases dw
  exact ⟨i, j, rfl, k _ H (Ex.refl H) (.str _)⟩
/-! tests -/
theorem ec_test {b : Bool} (h : EvD K ta ρ (.bool b)) : EvC K (tTest ta) ρ b := fun σ H g Q q => h σ H g _ fun v H1 e1 dv => by
  cases dv
  exact ⟨b, rfl, q H1 e1⟩
theorem ec_and {a b : Bool} (h1 : EvC K t ρ a) (h2 : a = true → EvC K u ρ b) : EvC K (tAnd t u) ρ (a && b) := fun σ H g Q q => h1 σ H g _ fun H1 e1 => by
  cases a with
  | true => exact iteT (h2 rfl σ H1 (g.mono e1) Q fun H2 e2 => q H2 (e1.trans e2))
  | false => exact iteF (q H1 e1)
theorem ec_or {a b : Bool} (h1 : EvC K t ρ a) (h2 : a = false → EvC K u ρ b) : EvC K (tOr t u) ρ (a || b) := fun σ H g Q q => h1 σ H g _ fun H1 e1 => by
  cases a with
  | true => exact iteT (q H1 e1)
  | false => exact iteF (h2 rfl σ H1 (g.mono e1) Q fun H2 e2 => q H2 (e1.trans e2))
theorem ec_not {a : Bool} (h1 : EvC K t ρ a) : EvC K (tNot t) ρ (!a) := fun σ H g Q q => h1 σ H g _ fun H1 e1 => q H1 e1
end
/-! // and % by a number that is known to be positive, of any kind -/
/-! ### defs by their names -/
structure Def (P : Program) (w : World) (K : Frag) (mg : Str → Option Value) (base : Heap) (k : Nat) (x : Str) (ps : List Str) (sp : Sp) : Prop where
  ex : ∃ (f : Addr) (fd : FuncData), FnOk P w K mg base CX0 k f fd ps sp ∧ mg x = some (.ref f) ∧ PySem.W.keepIn K (.ref f) = true ∧ Binds K fd ps []
section
variable {P : Program} {w : World} {K : Frag} {mg : Str → Option Value} {base : Heap}
theorem def_mk {k : Nat} {x : Str} {st : Stmt} {f : Addr} {fd : FuncData} {ps : List Str} {sp : Sp} (F : FnP K x st f fd) (g : mg x = some (.ref f)) (b : Binds K fd ps []) (h : FnOk P w K mg base CX0 k f fd ps sp) : Def P w K mg base k x ps sp := ⟨f, fd, h, g, F.kp, b⟩
end
theorem pe_callD {X : Cx} {k : Nat} {x : Str} {ps : List Str} {sp : Sp} {e : Expr} {es : List Expr} {p pos : Pos} {t : TA} (D : Def X.prog X.w X.K X.mg X.base k x ps sp) (hr : Room k X.A) (hg : Gl X x) (ha : PA X (e :: es) t) (hdb : (x == ("__debug__" : Str)) = false := by decide)
    (he : starEach (e :: es) X.env = (false, eval e X.env) :: starEach es X.env := by rfl) (hpl : (backTo pos (starEach es X.env)).any (·.1) = false := by rfl) : PE X (.Call (.Name x p) (e :: es) [] pos) (tCall sp [] E0 t) := by
  obtain ⟨f, fd, h, g, kp, b⟩ := D.ex
  exact pe_call h hr hg g kp b .nil pass0 ha hdb he hpl
end Pd
namespace Pd
open PySem L2 Evl
theorem sh_int {x : Int} : SeqAt.shaped (.int x) = true := rfl
theorem sh_bl {x : Bool} : SeqAt.shaped (.bool x) = true := rfl
theorem sh_non : SeqAt.shaped .none = true := rfl
section
variable {K : Frag} {ρ : Rho} {ta tb tc te : TE} {t u : TT} {d e : PyData}
theorem ed_eqI {i j : Int} (ha : EvD K ta ρ (.int i)) (hb : EvD K tb ρ (.int j)) : EvD K (tOp rEq ta tb) ρ (.bool (decide (i = j))) := ed_two ha hb fun H v w Q dv dw k => by
  cases dv
  cases dw
  refine ⟨rfl, ?_⟩
  rw [show decide (V.int i = V.int j) = decide (i = j) by simp]
  exact k _ H (Ex.refl H) (.bl _)
theorem ed_neI {i j : Int} (ha : EvD K ta ρ (.int i)) (hb : EvD K tb ρ (.int j)) : EvD K (tOp rNe ta tb) ρ (.bool (!decide (i = j))) := ed_two ha hb fun H v w Q dv dw k => by
  cases dv
  cases dw
  refine ⟨rfl, ?_⟩
  rw [show decide (V.int i = V.int j) = decide (i = j) by simp]
  exact k _ H (Ex.refl H) (.bl _)
theorem ed_eqS {i j : Str} (ha : EvD K ta ρ (.str i)) (hb : EvD K tb ρ (.str j)) : EvD K (tOp rEq ta tb) ρ (.bool (decide (i = j))) := ed_two ha hb fun H v w Q dv dw k => by
  cases dv
  cases dw
  refine ⟨rfl, ?_⟩
  rw [show decide (V.str i = V.str j) = decide (i = j) by simp]
  exact k _ H (Ex.refl H) (.bl _)
theorem ed_neS {i j : Str} (ha : EvD K ta ρ (.str i)) (hb : EvD K tb ρ (.str j)) : EvD K (tOp rNe ta tb) ρ (.bool (!decide (i = j))) := ed_two ha hb fun H v w Q dv dw k => by
  cases dv
  cases dw
  refine ⟨rfl, ?_⟩
  rw [show decide (V.str i = V.str j) = decide (i = j) by simp]
  exact k _ H (Ex.refl H) (.bl _)
theorem ed_eqB {i j : Bool} (ha : EvD K ta ρ (.bool i)) (hb : EvD K tb ρ (.bool j)) : EvD K (tOp rEq ta tb) ρ (.bool (decide (i = j))) := ed_two ha hb fun H v w Q dv dw k => by
  cases dv
  cases dw
  refine ⟨rfl, ?_⟩
  rw [show decide (V.bl i = V.bl j) = decide (i = j) by simp]
  exact k _ H (Ex.refl H) (.bl _)
theorem ed_neB {i j : Bool} (ha : EvD K ta ρ (.bool i)) (hb : EvD K tb ρ (.bool j)) : EvD K (tOp rNe ta tb) ρ (.bool (!decide (i = j))) := ed_two ha hb fun H v w Q dv dw k => by
  cases dv
  cases dw
  refine ⟨rfl, ?_⟩
  rw [show decide (V.bl i = V.bl j) = decide (i = j) by simp]
  exact k _ H (Ex.refl H) (.bl _)
/-- a statement's known end -/
theorem run_post {ts : TS} {N M : Rho → Prop} {R : PyData → Prop} (h : Run K ts ρ M R) (q : ∀ ρ', M ρ' → N ρ') : Run K ts ρ N R := fun D σ H g hN hR => h D σ H g (fun ρ' σ' H' m => hN ρ' σ' H' (q ρ' m)) hR
end
end Pd

/-! Pw: values with tuples as values (W), a store of the objects that change (Mu), and what pieces of programs do to them. -/
namespace Pw
open PySem L2 Evl
open Pd (sLt)
abbrev Frag := PySem.W.Frag

inductive W where
  | non | bl (b : Bool) | int (i : Int) | str (x : Str) | tup (ws : List W) | ref (a : Addr)
abbrev Rho := List (Option W)

mutual
inductive Rw (K : Frag) (H : Hp) : V → W → Prop
  | non : Rw K H .non .non
  | bl (b : Bool) : Rw K H (.bl b) (.bl b)
  | int (i : Int) : Rw K H (.int i) (.int i)
  | str (x : Str) : Rw K H (.str x) (.str x)
  | ref (a : Addr) : Rw K H (.ref a) (.ref a)
  | tup {a : Addr} {vs : List V} {ws : List W} : SqT K H a vs → RwAll K H vs ws → Rw K H (.ref a) (.tup ws)
inductive RwAll (K : Frag) (H : Hp) : List V → List W → Prop
  | nil : RwAll K H [] []
  | cons {v : V} {vs : List V} {w : W} {ws : List W} : Rw K H v w → RwAll K H vs ws → RwAll K H (v :: vs) (w :: ws)
end
/-- the tuples stand -/
def T0 (H H' : Hp) : Prop := ∀ a xs, Rd H a (.tup xs) → Rd H' a (.tup xs)
/-- .. and what is locked -/
def Tk (H H' : Hp) : Prop := T0 H H' ∧ ∀ a o u, H a = some (.frz o u) → H' a = some (.frz o u)
theorem Tk.refl (H : Hp) : Tk H H := ⟨fun _ _ h => h, fun _ _ _ h => h⟩
theorem Tk.trans {H H1 H2 : Hp} (a : Tk H H1) (b : Tk H1 H2) : Tk H H2 := ⟨fun c xs h => b.1 c xs (a.1 c xs h), fun c o u h => b.2 c o u (a.2 c o u h)⟩
theorem Tk.ex {H H' : Hp} (e : Ex H H') : Tk H H' := ⟨fun _ _ h => ex_rd e h, fun a _ _ h => e a _ h⟩
/-- no tuple stands there, nothing locked -/
def NT (H : Hp) (a : Addr) : Prop := (∀ xs, ¬ Rd H a (.tup xs)) ∧ ∀ o u, H a ≠ some (.frz o u)
theorem T0.upd {H : Hp} {a : Addr} {o : HO} (h : ∀ xs, ¬ Rd H a (.tup xs)) : T0 H (upd H a o) := fun b xs r => by
  have n : b ≠ a := fun e => h xs (e ▸ r)
  rcases r with r | ⟨ob, r⟩
  · exact .inl (by rw [upd_ne n]; exact r)
  · exact .inr ⟨ob, by rw [upd_ne n]; exact r⟩
theorem Tk.upd {H : Hp} {a : Addr} {o : HO} (h : NT H a) : Tk H (upd H a o) := ⟨T0.upd h.1, fun b ob u r => by
  have n : b ≠ a := fun e => h.2 ob u (e ▸ r)
  rw [upd_ne n]
  exact r⟩
theorem nt_none {H : Hp} {a : Addr} (h : H a = none) : NT H a := ⟨fun xs r => by
  rcases r with r | ⟨o, r⟩ <;> (rw [h] at r; cases r), fun o u r => by
  rw [h] at r
  cases r⟩
theorem nt_lst {H : Hp} {a : Addr} {vs : List V} (h : H a = some (.lst vs)) : NT H a := ⟨fun xs r => by
  rcases r with r | ⟨o, r⟩ <;> (rw [h] at r; cases r), fun o u r => by
  rw [h] at r
  cases r⟩
theorem nt_dk {H : Hp} {a : Addr} {vs : List (Key × V)} (h : H a = some (.dK vs)) : NT H a := ⟨fun xs r => by
  rcases r with r | ⟨o, r⟩ <;> (rw [h] at r; cases r), fun o u r => by
  rw [h] at r
  cases r⟩
theorem nt_ins {H : Hp} {a C dx : Addr} {fs : List (Str × V)} (h : H a = some (.ins C dx fs)) : NT H a := ⟨fun xs r => by
  rcases r with r | ⟨o, r⟩ <;> (rw [h] at r; cases r), fun o u r => by
  rw [h] at r
  cases r⟩
theorem t0_t {K : Frag} {H H' : Hp} {a : Addr} {xs : List V} (e : T0 H H') (h : SqT K H a xs) : SqT K H' a xs := by
  rcases h with h | h
  · exact .inl (e _ _ h)
  · exact .inr h
theorem tk_t {K : Frag} {H H' : Hp} {a : Addr} {xs : List V} (e : Tk H H') (h : SqT K H a xs) : SqT K H' a xs := t0_t e.1 h
mutual
theorem rwm0 {K : Frag} {H H' : Hp} (e : T0 H H') : ∀ {v : V} {d : W}, Rw K H v d → Rw K H' v d
  | _, _, .non => .non
  | _, _, .bl b => .bl b
  | _, _, .int i => .int i
  | _, _, .str x => .str x
  | _, _, .ref a => .ref a
  | _, _, .tup h hs => .tup (t0_t e h) (rwms0 e hs)
theorem rwms0 {K : Frag} {H H' : Hp} (e : T0 H H') : ∀ {vs : List V} {ds : List W}, RwAll K H vs ds → RwAll K H' vs ds
  | _, _, .nil => .nil
  | _, _, .cons h hs => .cons (rwm0 e h) (rwms0 e hs)
end
theorem rwm {K : Frag} {H H' : Hp} (e : Tk H H') {v : V} {d : W} (h : Rw K H v d) : Rw K H' v d := rwm0 e.1 h
theorem rwms {K : Frag} {H H' : Hp} (e : Tk H H') {vs : List V} {ds : List W} (h : RwAll K H vs ds) : RwAll K H' vs ds := rwms0 e.1 h
theorem dpm {K : Frag} {H H' : Hp} (e : Ex H H') {v : V} {d : W} (h : Rw K H v d) : Rw K H' v d := rwm (Tk.ex e) h
theorem dpms {K : Frag} {H H' : Hp} (e : Ex H H') {vs : List V} {ds : List W} (h : RwAll K H vs ds) : RwAll K H' vs ds := rwms (Tk.ex e) h
theorem dps_len {K : Frag} {H : Hp} : ∀ {vs : List V} {ds : List W}, RwAll K H vs ds → vs.length = ds.length
  | _, _, .nil => rfl
  | _, _, .cons _ hs => congrArg Nat.succ (dps_len hs)
theorem dps_at {K : Frag} {H : Hp} : ∀ {vs : List V} {ds : List W} (i : Nat) {d : W}, RwAll K H vs ds → ds[i]? = some d → ∃ v, vs[i]? = some v ∧ Rw K H v d
  | _, _, i, d, .nil, e => by simp at e
  | _, _, 0, d, .cons h _, e => by
    cases e
    exact ⟨_, rfl, h⟩
  | _, _, i + 1, d, .cons _ hs, e => dps_at i hs e
theorem dps_to {K : Frag} {H : Hp} : ∀ {vs : List V} {ds : List W} (i : Nat) {v : V}, RwAll K H vs ds → vs[i]? = some v → ∃ d, ds[i]? = some d ∧ Rw K H v d
  | _, _, i, d, .nil, e => by simp at e
  | _, _, 0, d, .cons h _, e => by
    cases e
    exact ⟨_, rfl, h⟩
  | _, _, i + 1, d, .cons _ hs, e => dps_to i hs e
theorem dps_app {K : Frag} {H : Hp} : ∀ {vs ws : List V} {ds es : List W}, RwAll K H vs ds → RwAll K H ws es → RwAll K H (vs ++ ws) (ds ++ es)
  | _, _, _, _, .nil, g => g
  | _, _, _, _, .cons h hs, g => .cons h (dps_app hs g)
theorem dps_take {K : Frag} {H : Hp} : ∀ {vs : List V} {ds : List W} (n : Nat), RwAll K H vs ds → RwAll K H (vs.take n) (ds.take n)
  | _, _, 0, _ => .nil
  | _, _, _ + 1, .nil => .nil
  | _, _, n + 1, .cons h hs => .cons h (dps_take n hs)
theorem dps_drop {K : Frag} {H : Hp} : ∀ {vs : List V} {ds : List W} (n : Nat), RwAll K H vs ds → RwAll K H (vs.drop n) (ds.drop n)
  | _, _, 0, h => h
  | _, _, _ + 1, .nil => .nil
  | _, _, n + 1, .cons _ hs => dps_drop n hs
theorem dps_set {K : Frag} {H : Hp} {x : V} {y : W} (h : Rw K H x y) : ∀ {vs : List V} {ds : List W} (i : Nat), RwAll K H vs ds → RwAll K H (vs.set i x) (ds.set i y)
  | _, _, _, .nil => .nil
  | _, _, 0, .cons _ hs => .cons h hs
  | _, _, i + 1, .cons g hs => .cons g (dps_set h i hs)
theorem dps_ints {K : Frag} {H : Hp} : ∀ (ns : List Int), RwAll K H (ns.map V.int) (ns.map W.int)
  | [] => .nil
  | n :: r => .cons (.int n) (dps_ints r)
theorem dps_strs {K : Frag} {H : Hp} : ∀ (ns : List Str), RwAll K H (ns.map V.str) (ns.map W.str)
  | [] => .nil
  | n :: r => .cons (.str n) (dps_strs r)
theorem dps_strs_of {K : Frag} {H : Hp} : ∀ {vs : List V} {ns : List Str}, RwAll K H vs (ns.map W.str) → vs = ns.map V.str
  | _, [], h => by
    cases h
    rfl
  | _, n :: r, h => by
    cases h with
    | cons a b =>
      cases a
      rw [dps_strs_of b]
      rfl
theorem dps1 {K : Frag} {H : Hp} {vs : List V} {x : W} (h : RwAll K H vs [x]) : ∃ v, vs = [v] ∧ Rw K H v x := by
  cases h with
  | cons a b =>
    cases b
    exact ⟨_, rfl, a⟩
theorem dps2 {K : Frag} {H : Hp} {vs : List V} {x y : W} (h : RwAll K H vs [x, y]) : ∃ v w, vs = [v, w] ∧ Rw K H v x ∧ Rw K H w y := by
  cases h with
  | cons a b =>
    obtain ⟨w, rfl, c⟩ := dps1 b
    exact ⟨_, w, rfl, a, c⟩
theorem dps3 {K : Frag} {H : Hp} {vs : List V} {x y z : W} (h : RwAll K H vs [x, y, z]) : ∃ v w u, vs = [v, w, u] ∧ Rw K H v x ∧ Rw K H w y ∧ Rw K H u z := by
  cases h with
  | cons a b =>
    obtain ⟨w, u, rfl, c, d⟩ := dps2 b
    exact ⟨_, w, u, rfl, a, c, d⟩

/-! ### the store -/
/-- lists that are read alone, lists, dicts with int and text keys, instances -/
inductive O where
  | rl (ws : List W) | ls (ws : List W) | dk (kvs : List (Key × W)) | rk (kvs : List (Key × W)) | ins (x : Str) (dx : Addr) (fs : List (Str × W))
abbrev RwP (K : Frag) (H : Hp) {κ : Type} : List (κ × V) → List (κ × W) → Prop := Paired fun (p : κ × V) (q : κ × W) => p.1 = q.1 ∧ Rw K H p.2 q.2
theorem rwpm0 {K : Frag} {H H' : Hp} {κ : Type} (e : T0 H H') {kv : List (κ × V)} {kw : List (κ × W)} (h : RwP K H kv kw) : RwP K H' kv kw := Paired.mapP h fun _ _ z => ⟨z.1, rwm0 e z.2⟩
theorem rwpm {K : Frag} {H H' : Hp} {κ : Type} (e : Tk H H') {kv : List (κ × V)} {kw : List (κ × W)} (h : RwP K H kv kw) : RwP K H' kv kw := Paired.mapP h fun _ _ z => ⟨z.1, rwm e z.2⟩
def RelO (K : Frag) (H : Hp) (a : Addr) : O → Prop
  | .rl ws => ∃ vs, Rd H a (.lst vs) ∧ RwAll K H vs ws
  | .ls ws => ∃ vs, H a = some (.lst vs) ∧ RwAll K H vs ws
  | .dk kvs => ∃ kv, H a = some (.dK kv) ∧ RwP K H kv kvs
  | .rk kvs => ∃ kv, Rd H a (.dK kv) ∧ RwP K H kv kvs
  | .ins x dx fs => ∃ fv, H a = some (.ins (He.ga K x) dx fv) ∧ RwP K H fv fs
abbrev Mu := Addr → Option O
def mset (μ : Mu) (a : Addr) (o : O) : Mu := fun b => if b = a then some o else μ b
theorem mset_same {μ : Mu} {a : Addr} {o : O} : mset μ a o a = some o := by unfold mset; rw [if_pos rfl]
theorem mset_ne {μ : Mu} {a b : Addr} {o : O} (h : b ≠ a) : mset μ a o b = μ b := by unfold mset; rw [if_neg h]
theorem mset_mset {μ : Mu} {a : Addr} {o u : O} : mset (mset μ a o) a u = mset μ a u := by
  funext b
  unfold mset
  split <;> rfl
def Mem (K : Frag) (H : Hp) (μ : Mu) : Prop := ∀ a o, μ a = some o → RelO K H a o
theorem RelO.same0 {K : Frag} {H H' : Hp} {a : Addr} {o : O} (h : RelO K H a o) (e : T0 H H') (q : H' a = H a) : RelO K H' a o := by
  cases o with
  | rl ws =>
    obtain ⟨vs, r, w⟩ := h
    refine ⟨vs, ?_, rwms0 e w⟩
    rcases r with r | ⟨o, r⟩
    · exact .inl (q.trans r)
    · exact .inr ⟨o, q.trans r⟩
  | ls ws =>
    obtain ⟨vs, r, w⟩ := h
    exact ⟨vs, q.trans r, rwms0 e w⟩
  | dk kvs =>
    obtain ⟨vs, r, w⟩ := h
    exact ⟨vs, q.trans r, rwpm0 e w⟩
  | rk kvs =>
    obtain ⟨vs, r, w⟩ := h
    refine ⟨vs, ?_, rwpm0 e w⟩
    rcases r with r | ⟨o, r⟩
    · exact .inl (q.trans r)
    · exact .inr ⟨o, q.trans r⟩
  | ins C dx fs =>
    obtain ⟨vs, r, w⟩ := h
    exact ⟨vs, q.trans r, rwpm0 e w⟩
theorem RelO.same {K : Frag} {H H' : Hp} {a : Addr} {o : O} (h : RelO K H a o) (e : Tk H H') (q : H' a = H a) : RelO K H' a o := h.same0 e.1 q
theorem RelO.there {K : Frag} {H : Hp} {a : Addr} {o : O} (h : RelO K H a o) : ∃ u, H a = some u := by
  cases o with
  | rl ws =>
    obtain ⟨vs, r, w⟩ := h
    rcases r with r | ⟨o, r⟩
    · exact ⟨_, r⟩
    · exact ⟨_, r⟩
  | ls ws =>
    obtain ⟨vs, r, w⟩ := h
    exact ⟨_, r⟩
  | dk kvs =>
    obtain ⟨vs, r, w⟩ := h
    exact ⟨_, r⟩
  | rk kvs =>
    obtain ⟨vs, r, w⟩ := h
    rcases r with r | ⟨o, r⟩
    · exact ⟨_, r⟩
    · exact ⟨_, r⟩
  | ins C dx fs =>
    obtain ⟨vs, r, w⟩ := h
    exact ⟨_, r⟩
theorem Mem.ex {K : Frag} {H H' : Hp} {μ : Mu} (m : Mem K H μ) (e : Ex H H') : Mem K H' μ := fun a o q => by
  obtain ⟨u, hu⟩ := (m a o q).there
  exact (m a o q).same (Tk.ex e) ((e a u hu).trans hu.symm)
theorem Mem.free {K : Frag} {H : Hp} {μ : Mu} (m : Mem K H μ) {p : Addr} (h : H p = none) : μ p = none := by
  cases q : μ p with
  | none => rfl
  | some o =>
    obtain ⟨u, hu⟩ := (m p o q).there
    rw [h] at hu
    cases hu
theorem Mem.put0 {K : Frag} {H : Hp} {μ : Mu} {a : Addr} {o : O} {ho : HO} (m : Mem K H μ) (n : ∀ xs, ¬ Rd H a (.tup xs)) (r : RelO K (upd H a ho) a o) : Mem K (upd H a ho) (mset μ a o) := fun b u q => by
  by_cases hb : b = a
  · subst hb
    rw [mset_same] at q
    cases q
    exact r
  · rw [mset_ne hb] at q
    exact (m b u q).same0 (T0.upd n) (upd_ne hb)
theorem Mem.put {K : Frag} {H : Hp} {μ : Mu} {a : Addr} {o : O} {ho : HO} (m : Mem K H μ) (n : NT H a) (r : RelO K (upd H a ho) a o) : Mem K (upd H a ho) (mset μ a o) := m.put0 n.1 r

def Holds (K : Frag) (H : Hp) (σ : L2.St) (ρ : Rho) : Prop := σ.length = ρ.length ∧ ∀ (i : Nat) (d : W), ρ[i]? = some (some d) → ∃ v, σ[i]? = some (some v) ∧ Rw K H v d
theorem Holds.tk {K : Frag} {H H' : Hp} {σ : L2.St} {ρ : Rho} (h : Holds K H σ ρ) (e : Tk H H') : Holds K H' σ ρ :=
  ⟨h.1, fun i d q => (h.2 i d q).imp fun _ z => ⟨z.1, rwm e z.2⟩⟩
theorem Holds.put {K : Frag} {H : Hp} {σ : L2.St} {ρ : Rho} {v : V} {d : W} (i : Nat) (h : Holds K H σ ρ) (hv : Rw K H v d) : Holds K H (σ.set i (some v)) (ρ.set i (some d)) := by
  refine ⟨by rw [List.length_set, List.length_set, h.1], fun j e q => ?_⟩
  rw [List.getElem?_set] at q ⊢
  by_cases hij : i = j
  · subst hij
    rw [if_pos rfl] at q ⊢
    rw [h.1]
    by_cases hl : i < ρ.length
    · rw [if_pos hl] at q ⊢
      cases q
      exact ⟨v, rfl, hv⟩
    · rw [if_neg hl] at q
      cases q
  · rw [if_neg hij] at q ⊢
    exact h.2 j e q
/-- a slot of which nothing is said any more -/
theorem Holds.hide {K : Frag} {H : Hp} {σ : L2.St} {ρ : Rho} {v : Option V} (i : Nat) (h : Holds K H σ ρ) : Holds K H (σ.set i v) (ρ.set i none) := by
  refine ⟨by rw [List.length_set, List.length_set, h.1], fun j e q => ?_⟩
  rw [List.getElem?_set] at q ⊢
  by_cases hij : i = j
  · subst hij
    rw [if_pos rfl] at q
    split at q <;> cases q
  · rw [if_neg hij] at q ⊢
    exact h.2 j e q
theorem dps_start {K : Frag} {H : Hp} {N : List Str} {vs : List V} {ds : List W} (h : RwAll K H vs ds) : Holds K H (L2.start N vs) (ds.map some ++ List.replicate (N.length - ds.length) none) := by
  have hl := dps_len h
  refine ⟨by unfold L2.start; simp [hl], fun i d q => ?_⟩
  unfold L2.start
  by_cases hi : i < ds.length
  · rw [List.getElem?_append_left (by simpa using hi), List.getElem?_map] at q
    rw [List.getElem?_append_left (by simpa [hl] using hi), List.getElem?_map]
    cases e : ds[i]? with
    | none =>
      rw [e] at q
      cases q
    | some d' =>
      rw [e] at q
      cases q
      obtain ⟨v, e1, e2⟩ := dps_at i h e
      exact ⟨v, by rw [e1]; rfl, e2⟩
  · rw [List.getElem?_append_right (by simpa using hi)] at q
    rw [List.getElem?_replicate] at q
    split at q <;> cases q
/-- the slots and the store -/
def S (K : Frag) (H : Hp) (σ : L2.St) (ρ : Rho) (μ : Mu) : Prop := Holds K H σ ρ ∧ Mem K H μ
theorem S.mono {K : Frag} {H H' : Hp} {σ : L2.St} {ρ : Rho} {μ : Mu} (e : Ex H H') (h : S K H σ ρ μ) : S K H' σ ρ μ := ⟨h.1.tk (Tk.ex e), h.2.ex e⟩
theorem S.put {K : Frag} {H : Hp} {σ : L2.St} {ρ : Rho} {μ : Mu} {v : V} {d : W} (i : Nat) (h : S K H σ ρ μ) (hv : Rw K H v d) : S K H (σ.set i (some v)) (ρ.set i (some d)) μ := ⟨h.1.put i hv, h.2⟩
theorem S.hide {K : Frag} {H : Hp} {σ : L2.St} {ρ : Rho} {μ : Mu} {v : Option V} (i : Nat) (h : S K H σ ρ μ) : S K H (σ.set i v) (ρ.set i none) μ := ⟨h.1.hide i, h.2⟩

/-! ### expressions that leave what is known -/
def EvD (K : Frag) (te : TE) (ρ : Rho) (μ : Mu) (d : W) : Prop := ∀ (σ : L2.St) (H : Hp), S K H σ ρ μ → ∀ Q : VK, (∀ v H2, Ex H H2 → Rw K H2 v d → Q v H2) → te σ H Q
def EvC (K : Frag) (t : TT) (ρ : Rho) (μ : Mu) (b : Bool) : Prop := ∀ (σ : L2.St) (H : Hp), S K H σ ρ μ → ∀ Q : Bool → Hp → Prop, (∀ H2, Ex H H2 → Q b H2) → t σ H Q
def EvS (K : Frag) (ta : TA) (ρ : Rho) (μ : Mu) (ds : List W) : Prop := ∀ (σ : L2.St) (H : Hp), S K H σ ρ μ → ∀ Q : List V → Hp → Prop, (∀ vs H2, Ex H H2 → RwAll K H2 vs ds → Q vs H2) → ta σ H Q
section
variable {K : Frag} {ρ : Rho} {μ : Mu} {ta tb tc te : TE} {t u : TT} {d e : W}
theorem EvD.is (h : EvD K te ρ μ d) (q : d = e) : EvD K te ρ μ e := q ▸ h
theorem EvC.is {a b : Bool} (h : EvC K t ρ μ a) (q : a = b) : EvC K t ρ μ b := q ▸ h
theorem ed_var {i : Nat} (h : ρ[i]? = some (some d)) : EvD K (tVar i) ρ μ d := fun σ H g Q q => by
  obtain ⟨v, e1, e2⟩ := g.1.2 i d h
  exact ⟨v, e1, q v H (Ex.refl H) e2⟩
theorem ed_int {i : Int} : EvD K (tC (.int i)) ρ μ (.int i) := fun _ H _ _ q => q _ H (Ex.refl H) (.int i)
theorem ed_str {x : Str} : EvD K (tC (.str x)) ρ μ (.str x) := fun _ H _ _ q => q _ H (Ex.refl H) (.str x)
theorem ed_bl {x : Bool} : EvD K (tC (.bl x)) ρ μ (.bl x) := fun _ H _ _ q => q _ H (Ex.refl H) (.bl x)
theorem ed_non : EvD K (tC .non) ρ μ .non := fun _ H _ _ q => q _ H (Ex.refl H) .non
/-- two operands, then the operation on their values -/
theorem ed_two {r : R2} {x y z : W} (ha : EvD K ta ρ μ x) (hb : EvD K tb ρ μ y)
    (hr : ∀ (H : Hp) (v w : V) (Q : VK), Rw K H v x → Rw K H w y → (∀ u H2, Ex H H2 → Rw K H2 u z → Q u H2) → r v w H Q) : EvD K (tOp r ta tb) ρ μ z := fun σ H g Q q =>
  ha σ H g _ fun v H1 e1 d1 => hb σ H1 (g.mono e1) _ fun w H2 e2 d2 => hr H2 v w Q (dpm e2 d1) d2 fun u H3 e3 d3 => q u H3 ((e1.trans e2).trans e3) d3
theorem ed_I0 {f : Int → Int → V} {z : W} {i j : Int} (ha : EvD K ta ρ μ (.int i)) (hb : EvD K tb ρ μ (.int j)) (hz : ∀ H, Rw K H (f i j) z) : EvD K (tOp (rI0 f) ta tb) ρ μ z :=
  ed_two ha hb fun H v w Q dv dw k => by
    cases dv
    cases dw
    exact ⟨i, j, rfl, rfl, k _ H (Ex.refl H) (hz H)⟩
theorem ed_I {C : Int → Int → Prop} {f : Int → Int → V} {z : W} {i j : Int} (ha : EvD K ta ρ μ (.int i)) (hb : EvD K tb ρ μ (.int j)) (hc : C i j) (hz : ∀ H, Rw K H (f i j) z) : EvD K (tOp (rI C f) ta tb) ρ μ z :=
  ed_two ha hb fun H v w Q dv dw k => by
    cases dv
    cases dw
    exact ⟨i, j, rfl, rfl, hc, k _ H (Ex.refl H) (hz H)⟩
theorem ed_add {i j : Int} (ha : EvD K ta ρ μ (.int i)) (hb : EvD K tb ρ μ (.int j)) : EvD K (tOp (rI0 fun i j => .int (i + j)) ta tb) ρ μ (.int (i + j)) := ed_I0 ha hb fun _ => .int _
theorem ed_sub {i j : Int} (ha : EvD K ta ρ μ (.int i)) (hb : EvD K tb ρ μ (.int j)) : EvD K (tOp (rI0 fun i j => .int (i - j)) ta tb) ρ μ (.int (i - j)) := ed_I0 ha hb fun _ => .int _
theorem ed_mul {i j : Int} (ha : EvD K ta ρ μ (.int i)) (hb : EvD K tb ρ μ (.int j)) (hc : CMul i j) : EvD K (tOp (rI CMul fun i j => .int (i * j)) ta tb) ρ μ (.int (i * j)) := ed_I ha hb hc fun _ => .int _
theorem ed_div {i j : Int} (ha : EvD K ta ρ μ (.int i)) (hb : EvD K tb ρ μ (.int j)) (hc : CDiv i j) : EvD K (tOp (rI CDiv fun i j => .int (i / j)) ta tb) ρ μ (.int (i / j)) := ed_I ha hb hc fun _ => .int _
theorem ed_mod {i j : Int} (ha : EvD K ta ρ μ (.int i)) (hb : EvD K tb ρ μ (.int j)) (hc : 0 < j) : EvD K (tOp (rI (fun _ j => 0 < j) fun i j => .int (i % j)) ta tb) ρ μ (.int (i % j)) := ed_I ha hb hc fun _ => .int _
theorem ed_pow {i j : Int} (ha : EvD K ta ρ μ (.int i)) (hb : EvD K tb ρ μ (.int j)) (hc : CPow i j) : EvD K (tOp (rI CPow fun i j => .int (i ^ j.toNat)) ta tb) ρ μ (.int (i ^ j.toNat)) := ed_I ha hb hc fun _ => .int _
theorem ed_lt {i j : Int} (ha : EvD K ta ρ μ (.int i)) (hb : EvD K tb ρ μ (.int j)) : EvD K (tOp (rI0 fun i j => .bl (decide (i < j))) ta tb) ρ μ (.bl (decide (i < j))) := ed_I0 ha hb fun _ => .bl _
theorem ed_le {i j : Int} (ha : EvD K ta ρ μ (.int i)) (hb : EvD K tb ρ μ (.int j)) : EvD K (tOp (rI0 fun i j => .bl (decide (i ≤ j))) ta tb) ρ μ (.bl (decide (i ≤ j))) := ed_I0 ha hb fun _ => .bl _
theorem ed_gt {i j : Int} (ha : EvD K ta ρ μ (.int i)) (hb : EvD K tb ρ μ (.int j)) : EvD K (tOp (rI0 fun i j => .bl (decide (j < i))) ta tb) ρ μ (.bl (decide (j < i))) := ed_I0 ha hb fun _ => .bl _
theorem ed_ge {i j : Int} (ha : EvD K ta ρ μ (.int i)) (hb : EvD K tb ρ μ (.int j)) : EvD K (tOp (rI0 fun i j => .bl (decide (j ≤ i))) ta tb) ρ μ (.bl (decide (j ≤ i))) := ed_I0 ha hb fun _ => .bl _
theorem ed_neg {i : Int} (ha : EvD K ta ρ μ (.int i)) : EvD K (tUn (rU fun i => .int (-i)) ta) ρ μ (.int (-i)) := fun σ H g Q q => ha σ H g _ fun v H1 e1 dv => by
  cases dv
  exact ⟨i, rfl, q _ H1 e1 (.int _)⟩


/-- texts -/
def rLtS : R2 := fun x y H Q => ∃ i j, x = .str i ∧ y = .str j ∧ Q (.bl (decide (i.cps.toList < j.cps.toList))) H
def rLeS : R2 := fun x y H Q => ∃ i j, x = .str i ∧ y = .str j ∧ Q (.bl (!decide (j.cps.toList < i.cps.toList))) H
def rGtS : R2 := fun x y H Q => ∃ i j, x = .str i ∧ y = .str j ∧ Q (.bl (decide (j.cps.toList < i.cps.toList))) H
def rGeS : R2 := fun x y H Q => ∃ i j, x = .str i ∧ y = .str j ∧ Q (.bl (!decide (i.cps.toList < j.cps.toList))) H
def rAddT : R2 := fun x y H Q => ∃ i j, x = .str i ∧ y = .str j ∧ i.length + j.length ≤ sizeLine ∧ Q (.str (i ++ j)) H
theorem op_ltS {X : Cx} : OpR X (compareOp .Lt) rLtS := op_lt_str
theorem op_leS {X : Cx} : OpR X (compareOp .LtE) rLeS := op_le_str
theorem op_gtS {X : Cx} : OpR X (compareOp .Gt) rGtS := op_gt_str
theorem op_geS {X : Cx} : OpR X (compareOp .GtE) rGeS := op_ge_str
theorem op_addS {X : Cx} : OpR X (binaryOp .Add) rAddT := op_add_str
theorem ed_ltS {i j : Str} (ha : EvD K ta ρ μ (.str i)) (hb : EvD K tb ρ μ (.str j)) : EvD K (tOp rLtS ta tb) ρ μ (.bl (sLt i j)) := ed_two ha hb fun H v w Q dv dw k => by
  cases dv
  cases dw
  exact ⟨i, j, rfl, rfl, k _ H (Ex.refl H) (.bl _)⟩
theorem ed_leS {i j : Str} (ha : EvD K ta ρ μ (.str i)) (hb : EvD K tb ρ μ (.str j)) : EvD K (tOp rLeS ta tb) ρ μ (.bl (!sLt j i)) := ed_two ha hb fun H v w Q dv dw k => by
  cases dv
  cases dw
  exact ⟨i, j, rfl, rfl, k _ H (Ex.refl H) (.bl _)⟩
theorem ed_gtS {i j : Str} (ha : EvD K ta ρ μ (.str i)) (hb : EvD K tb ρ μ (.str j)) : EvD K (tOp rGtS ta tb) ρ μ (.bl (sLt j i)) := ed_two ha hb fun H v w Q dv dw k => by
  cases dv
  cases dw
  exact ⟨i, j, rfl, rfl, k _ H (Ex.refl H) (.bl _)⟩
theorem ed_geS {i j : Str} (ha : EvD K ta ρ μ (.str i)) (hb : EvD K tb ρ μ (.str j)) : EvD K (tOp rGeS ta tb) ρ μ (.bl (!sLt i j)) := ed_two ha hb fun H v w Q dv dw k => by
  cases dv
  cases dw
  exact ⟨i, j, rfl, rfl, k _ H (Ex.refl H) (.bl _)⟩
theorem ed_addS {i j : Str} (ha : EvD K ta ρ μ (.str i)) (hb : EvD K tb ρ μ (.str j)) (hl : i.length + j.length ≤ sizeLine) : EvD K (tOp rAddT ta tb) ρ μ (.str (i ++ j)) := ed_two ha hb fun H v w Q dv dw k => by
  cases dv
  cases dw
  exact ⟨i, j, rfl, rfl, hl, k _ H (Ex.refl H) (.str _)⟩
/-- is None -/
def isNone : W → Bool
  | .non => true
  | _ => false
theorem isNone_dp {H : Hp} {v : V} (h : Rw K H v d) : decide (v = .non) = isNone d := by cases h <;> rfl
def rIsNo : R2 := fun x y H Q => y = .non ∧ Q (.bl (decide (x = .non))) H
def rNotNo : R2 := fun x y H Q => y = .non ∧ Q (.bl (!decide (x = .non))) H
theorem op_isNo {X : Cx} : OpR X (compareOp .Is) rIsNo := op_isN
theorem op_notNo {X : Cx} : OpR X (compareOp .IsNot) rNotNo := op_notN
theorem ed_isN {x : W} (ha : EvD K ta ρ μ x) : EvD K (tOp rIsNo ta (tC .non)) ρ μ (.bl (isNone x)) := ed_two ha ed_non fun H v w Q dv dw k => by
  cases dw
  exact ⟨rfl, by rw [isNone_dp dv]; exact k _ H (Ex.refl H) (.bl _)⟩
theorem ed_notN {x : W} (ha : EvD K ta ρ μ x) : EvD K (tOp rNotNo ta (tC .non)) ρ μ (.bl (!isNone x)) := ed_two ha ed_non fun H v w Q dv dw k => by
  cases dw
  exact ⟨rfl, by rw [isNone_dp dv]; exact k _ H (Ex.refl H) (.bl _)⟩
/-- and, or, not of bools -/
theorem ed_and {a b : Bool} (ha : EvD K ta ρ μ (.bl a)) (hb : a = true → EvD K tb ρ μ (.bl b)) : EvD K (tAndV ta tb) ρ μ (.bl (a && b)) := fun σ H g Q q => ha σ H g _ fun v H1 e1 dv => by
  cases dv
  cases a with
  | true => exact ⟨true, rfl, iteT (hb rfl σ H1 (g.mono e1) Q fun v H2 e2 d2 => q v H2 (e1.trans e2) d2)⟩
  | false => exact ⟨false, rfl, iteF (q _ H1 e1 (.bl _))⟩
theorem ed_or {a b : Bool} (ha : EvD K ta ρ μ (.bl a)) (hb : a = false → EvD K tb ρ μ (.bl b)) : EvD K (tOrV ta tb) ρ μ (.bl (a || b)) := fun σ H g Q q => ha σ H g _ fun v H1 e1 dv => by
  cases dv
  cases a with
  | true => exact ⟨true, rfl, iteT (q _ H1 e1 (.bl _))⟩
  | false => exact ⟨false, rfl, iteF (hb rfl σ H1 (g.mono e1) Q fun v H2 e2 d2 => q v H2 (e1.trans e2) d2)⟩
theorem ed_not {a : Bool} (ha : EvD K ta ρ μ (.bl a)) : EvD K (tNotV ta) ρ μ (.bl (!a)) := fun σ H g Q q => ha σ H g _ fun v H1 e1 dv => by
  cases dv
  exact ⟨a, rfl, q _ H1 e1 (.bl _)⟩
theorem ec_val {b : Bool} (h : EvD K ta ρ μ (.bl b)) : EvC K (tB ta) ρ μ b := fun σ H g Q q => h σ H g _ fun v H1 e1 dv => by
  cases dv
  exact ⟨b, rfl, q H1 e1⟩
theorem ed_if {b : Bool} {x : W} (hc : EvC K t ρ μ b) (h1 : b = true → EvD K ta ρ μ x) (h2 : b = false → EvD K tb ρ μ x) : EvD K (tIf t ta tb) ρ μ x := fun σ H g Q q => hc σ H g _ fun H1 e1 => by
  cases b with
  | true => exact iteT (h1 rfl σ H1 (g.mono e1) Q fun v H2 e2 d2 => q v H2 (e1.trans e2) d2)
  | false => exact iteF (h2 rfl σ H1 (g.mono e1) Q fun v H2 e2 d2 => q v H2 (e1.trans e2) d2)
/-- a < b < c, both answers bools -/
theorem ed_chain {r r' : R2} {x y z : W} {a b : Bool} (ha : EvD K ta ρ μ x) (hb : EvD K tb ρ μ y) (hc : EvD K tc ρ μ z)
    (hr : ∀ (H : Hp) (v w : V) (Q : VK), Rw K H v x → Rw K H w y → (Q (.bl a) H) → r v w H Q)
    (hr' : ∀ (H : Hp) (v w : V) (Q : VK), Rw K H v y → Rw K H w z → (Q (.bl b) H) → r' v w H Q) : EvD K (tChain r r' ta tb tc) ρ μ (.bl (a && b)) := fun σ H g Q q =>
  ha σ H g _ fun v H1 e1 d1 => hb σ H1 (g.mono e1) _ fun w H2 e2 d2 => hr H2 v w _ (dpm e2 d1) d2 ⟨a, rfl, by
    cases a with
    | true => exact iteT (hc σ H2 (g.mono (e1.trans e2)) _ fun u H3 e3 d3 => hr' H3 w u Q (dpm e3 d2) d3 (q _ H3 ((e1.trans e2).trans e3) (.bl _)))
    | false => exact iteF (q _ H2 (e1.trans e2) (.bl _))⟩
theorem ch_le {i j : Int} (H : Hp) (v w : V) (Q : VK) (dv : Rw K H v (.int i)) (dw : Rw K H w (.int j)) (q : Q (.bl (decide (i ≤ j))) H) : (rI0 fun i j => .bl (decide (i ≤ j))) v w H Q := by
  cases dv
  cases dw
  exact ⟨i, j, rfl, rfl, q⟩
theorem ch_leS {i j : Str} (H : Hp) (v w : V) (Q : VK) (dv : Rw K H v (.str i)) (dw : Rw K H w (.str j)) (q : Q (.bl (!sLt j i)) H) : rLeS v w H Q := by
  cases dv
  cases dw
  exact ⟨i, j, rfl, rfl, q⟩
/-! ### arguments, displays -/
theorem es_nil : EvS K tNil ρ μ [] := fun _ H _ _ q => q [] H (Ex.refl H) .nil
theorem es_cons {tr : TA} {x : W} {xs : List W} (h : EvD K ta ρ μ x) (hs : EvS K tr ρ μ xs) : EvS K (tCons ta tr) ρ μ (x :: xs) := fun σ H g Q q =>
  h σ H g _ fun v H1 e1 d1 => hs σ H1 (g.mono e1) _ fun vs H2 e2 d2 => q (v :: vs) H2 (e1.trans e2) (.cons (dpm e2 d1) d2)
theorem EvS.is {ta : TA} {xs ys : List W} (h : EvS K ta ρ μ xs) (q : xs = ys) : EvS K ta ρ μ ys := q ▸ h
theorem ed_tup {ta : TA} {xs : List W} (h : EvS K ta ρ μ xs) (hl : xs.length ≤ 100000) : EvD K (tTup ta) ρ μ (.tup xs) := fun σ H g Q q =>
  h σ H g _ fun vs H1 e1 d1 => ⟨sz_of (by rw [dps_len d1]; exact hl), fun p hp => q _ _ (e1.trans (Ex.new hp)) (.tup (st_of upd_same) (dpms (Ex.new hp) d1))⟩

/-! ### subscripts -/
theorem ixN_of {n : Nat} {i : Int} {k : Nat} (h : i = (k : Int)) (hk : k < n) : ixN n i = some k := by
  unfold ixN
  rw [if_pos (by omega), if_pos (by omega), h]
  rfl
/-- the item at a place that is counted from 0 -/
theorem ed_ixT {xs : List W} {i : Int} {x : W} (ha : EvD K ta ρ μ (.tup xs)) (hb : EvD K tb ρ μ (.int i)) (hi : 0 ≤ i) (hx : xs[i.toNat]? = some x) : EvD K (tOp (rIxT K) ta tb) ρ μ x := ed_two ha hb fun H v w Q dv dw k => by
  cases dw
  cases dv with
  | tup h hs =>
    obtain ⟨v, e1, e2⟩ := dps_at i.toNat hs hx
    exact ⟨_, _, i, v, rfl, rfl, h, at_of (by omega) e1, k v H (Ex.refl H) e2⟩

theorem ed_ixS {z : Str} {i : Int} {c : Nat} (ha : EvD K ta ρ μ (.str z)) (hb : EvD K tb ρ μ (.int i)) (hl : z.length ≤ sizeLine) (hi : 0 ≤ i) (hx : z.cps.toList[i.toNat]? = some c) : EvD K (tOp rIxS ta tb) ρ μ (.str ⟨#[c]⟩) := ed_two ha hb fun H v w Q dv dw k => by
  cases dw
  cases dv
  have e : atI z.cps.toList i = some c := by
    have h1 := atI_nat hx
    rw [show ((i.toNat : Nat) : Int) = i by omega] at h1
    exact h1
  exact ⟨z, i, c, rfl, rfl, hl, e, k _ H (Ex.refl H) (.str _)⟩
/-! ### calls -/
/-- the promise of a def that changes nothing: Wf arguments store result -/
def spP (K : Frag) (Wf : List W → Mu → W → Prop) : Sp := fun vs H Q _ => ∃ ws μ w, RwAll K H vs ws ∧ Mem K H μ ∧ Wf ws μ w ∧ ∀ v H', Ex H H' → Rw K H' v w → Q v H'
theorem ed_call {Wf : List W → Mu → W → Prop} {E : XK} {ta : TA} {xs : List W} {x : W} (h : EvS K ta ρ μ xs) (hw : Wf xs μ x) : EvD K (tCall (spP K Wf) [] E ta) ρ μ x := fun σ H g Q q =>
  h σ H g _ fun vs H1 e1 d1 => by
    show spP K Wf (vs ++ []) H1 Q E
    rw [List.append_nil]
    exact ⟨xs, μ, x, d1, g.2.ex e1, hw, fun v H2 e2 d2 => q v H2 (e1.trans e2) d2⟩
theorem ed_cb {r : List V → Hp → VK → Prop} {ta : TA} {xs : List W} {x : W} (h : EvS K ta ρ μ xs) (hr : ∀ (H : Hp) (vs : List V) (Q : VK), RwAll K H vs xs → (∀ v H2, Ex H H2 → Rw K H2 v x → Q v H2) → r vs H Q) : EvD K (tCB r ta) ρ μ x := fun σ H g Q q =>
  h σ H g _ fun vs H1 e1 d1 => hr H1 vs Q d1 fun v H2 e2 d2 => q v H2 (e1.trans e2) d2
theorem ed_cbm {r : List V → Hp → VK → Prop} {ta : TA} {xs : List W} {x : W} (h : EvS K ta ρ μ xs) (hr : ∀ (H : Hp) (vs : List V) (Q : VK), Mem K H μ → RwAll K H vs xs → (∀ v H2, Ex H H2 → Rw K H2 v x → Q v H2) → r vs H Q) : EvD K (tCB r ta) ρ μ x := fun σ H g Q q =>
  h σ H g _ fun vs H1 e1 d1 => hr H1 vs Q (g.2.ex e1) d1 fun v H2 e2 d2 => q v H2 (e1.trans e2) d2


def rInt1 : List V → Hp → VK → Prop := fun xs H Q => (∃ i, xs = [.int i] ∧ Q (.int i) H) ∨ ∃ k, xs = [.bl k] ∧ Q (.int (if k then 1 else 0)) H
theorem cr_int1 {X : Cx} : CallR X (.type "int") rInt1 := call_int1
theorem ed_toint {ta : TA} {i : Int} (h : EvS K ta ρ μ [.int i]) : EvD K (tCB rInt1 ta) ρ μ (.int i) := ed_cb h fun H vs Q d1 k => by
  obtain ⟨v, rfl, dv⟩ := dps1 d1
  cases dv
  exact .inl ⟨i, rfl, k _ H (Ex.refl H) (.int i)⟩
/-- len -/
def rLenD (K : Frag) : List V → Hp → VK → Prop := fun xs H Q => ∃ x n, xs = [x] ∧ LenV K x H n ∧ Q (.int n) H
theorem cr_len {X : Cx} : CallR X (.builtin "len") (rLenD X.K) := call_len
theorem ed_lenT {ta : TA} {xs : List W} (h : EvS K ta ρ μ [.tup xs]) : EvD K (tCB (rLenD K) ta) ρ μ (.int (xs.length : Int)) := ed_cb h fun H vs Q d1 k => by
  obtain ⟨v, rfl, dv⟩ := dps1 d1
  cases dv with
  | tup h hs => exact ⟨_, _, rfl, .inr ⟨_, h, (dps_len hs).symm⟩, k _ H (Ex.refl H) (.int _)⟩

theorem ed_lenS {ta : TA} {z : Str} (h : EvS K ta ρ μ [.str z]) (hl : z.length ≤ sizeLine) : EvD K (tCB (rLenD K) ta) ρ μ (.int (z.length : Int)) := ed_cb h fun H vs Q d1 k => by
  obtain ⟨v, rfl, dv⟩ := dps1 d1
  cases dv
  exact ⟨_, _, rfl, ⟨hl, rfl⟩, k _ H (Ex.refl H) (.int _)⟩
def rMaxI : List V → Hp → VK → Prop := fun xs H Q => ∃ i j, xs = [.int i, .int j] ∧ Q (.int (if j > i then j else i)) H
def rMinI : List V → Hp → VK → Prop := fun xs H Q => ∃ i j, xs = [.int i, .int j] ∧ Q (.int (if j < i then j else i)) H
theorem cr_maxI {X : Cx} (hc : X.calm = true) : CallR X (.builtin "max") rMaxI := call_max2 hc
theorem cr_minI {X : Cx} (hc : X.calm = true) : CallR X (.builtin "min") rMinI := call_min2 hc
theorem ed_maxI {ta : TA} {i j : Int} (h : EvS K ta ρ μ [.int i, .int j]) : EvD K (tCB rMaxI ta) ρ μ (.int (if j > i then j else i)) := ed_cb h fun H vs Q d1 k => by
  obtain ⟨v, w, rfl, dv, dw⟩ := dps2 d1
  cases dv
  cases dw
  exact ⟨i, j, rfl, k _ H (Ex.refl H) (.int _)⟩
theorem ed_minI {ta : TA} {i j : Int} (h : EvS K ta ρ μ [.int i, .int j]) : EvD K (tCB rMinI ta) ρ μ (.int (if j < i then j else i)) := ed_cb h fun H vs Q d1 k => by
  obtain ⟨v, w, rfl, dv, dw⟩ := dps2 d1
  cases dv
  cases dw
  exact ⟨i, j, rfl, k _ H (Ex.refl H) (.int _)⟩
end
section
variable {K : Frag} {ρ : Rho} {μ : Mu} {ta tb tc te : TE} {t u : TT} {d e : W}
/-! ### min, max, == of atoms -/
theorem ed_maxS {ta : TA} {i j : Str} (h : EvS K ta ρ μ [.str i, .str j]) : EvD K (tCB Pd.rMaxS ta) ρ μ (.str (Pd.sMax i j)) := ed_cb h fun H vs Q d1 k => by
  obtain ⟨v, w, rfl, dv, dw⟩ := dps2 d1
  cases dv
  cases dw
  exact ⟨i, j, rfl, k _ H (Ex.refl H) (.str _)⟩
theorem ed_minS {ta : TA} {i j : Str} (h : EvS K ta ρ μ [.str i, .str j]) : EvD K (tCB Pd.rMinS ta) ρ μ (.str (Pd.sMin i j)) := ed_cb h fun H vs Q d1 k => by
  obtain ⟨v, w, rfl, dv, dw⟩ := dps2 d1
  cases dv
  cases dw
  exact ⟨i, j, rfl, k _ H (Ex.refl H) (.str _)⟩
theorem ed_eqI {i j : Int} (ha : EvD K ta ρ μ (.int i)) (hb : EvD K tb ρ μ (.int j)) : EvD K (tOp rEq ta tb) ρ μ (.bl (decide (i = j))) := ed_two ha hb fun H v w Q dv dw k => by
  cases dv
  cases dw
  refine ⟨rfl, ?_⟩
  rw [show decide (V.int i = V.int j) = decide (i = j) by simp]
  exact k _ H (Ex.refl H) (.bl _)
theorem ed_neI {i j : Int} (ha : EvD K ta ρ μ (.int i)) (hb : EvD K tb ρ μ (.int j)) : EvD K (tOp rNe ta tb) ρ μ (.bl (!decide (i = j))) := ed_two ha hb fun H v w Q dv dw k => by
  cases dv
  cases dw
  refine ⟨rfl, ?_⟩
  rw [show decide (V.int i = V.int j) = decide (i = j) by simp]
  exact k _ H (Ex.refl H) (.bl _)
theorem ed_eqS {i j : Str} (ha : EvD K ta ρ μ (.str i)) (hb : EvD K tb ρ μ (.str j)) : EvD K (tOp rEq ta tb) ρ μ (.bl (decide (i = j))) := ed_two ha hb fun H v w Q dv dw k => by
  cases dv
  cases dw
  refine ⟨rfl, ?_⟩
  rw [show decide (V.str i = V.str j) = decide (i = j) by simp]
  exact k _ H (Ex.refl H) (.bl _)
theorem ed_neS {i j : Str} (ha : EvD K ta ρ μ (.str i)) (hb : EvD K tb ρ μ (.str j)) : EvD K (tOp rNe ta tb) ρ μ (.bl (!decide (i = j))) := ed_two ha hb fun H v w Q dv dw k => by
  cases dv
  cases dw
  refine ⟨rfl, ?_⟩
  rw [show decide (V.str i = V.str j) = decide (i = j) by simp]
  exact k _ H (Ex.refl H) (.bl _)
theorem ed_eqB {i j : Bool} (ha : EvD K ta ρ μ (.bl i)) (hb : EvD K tb ρ μ (.bl j)) : EvD K (tOp rEq ta tb) ρ μ (.bl (decide (i = j))) := ed_two ha hb fun H v w Q dv dw k => by
  cases dv
  cases dw
  refine ⟨rfl, ?_⟩
  rw [show decide (V.bl i = V.bl j) = decide (i = j) by simp]
  exact k _ H (Ex.refl H) (.bl _)
theorem ed_neB {i j : Bool} (ha : EvD K ta ρ μ (.bl i)) (hb : EvD K tb ρ μ (.bl j)) : EvD K (tOp rNe ta tb) ρ μ (.bl (!decide (i = j))) := ed_two ha hb fun H v w Q dv dw k => by
  cases dv
  cases dw
  refine ⟨rfl, ?_⟩
  rw [show decide (V.bl i = V.bl j) = decide (i = j) by simp]
  exact k _ H (Ex.refl H) (.bl _)
/-! ### tests -/
theorem ec_test {b : Bool} (h : EvD K ta ρ μ (.bl b)) : EvC K (tTest ta) ρ μ b := fun σ H g Q q => h σ H g _ fun v H1 e1 dv => by
  cases dv
  exact ⟨b, rfl, q H1 e1⟩
theorem ec_and {a b : Bool} (h1 : EvC K t ρ μ a) (h2 : a = true → EvC K u ρ μ b) : EvC K (tAnd t u) ρ μ (a && b) := fun σ H g Q q => h1 σ H g _ fun H1 e1 => by
  cases a with
  | true => exact iteT (h2 rfl σ H1 (g.mono e1) Q fun H2 e2 => q H2 (e1.trans e2))
  | false => exact iteF (q H1 e1)
theorem ec_or {a b : Bool} (h1 : EvC K t ρ μ a) (h2 : a = false → EvC K u ρ μ b) : EvC K (tOr t u) ρ μ (a || b) := fun σ H g Q q => h1 σ H g _ fun H1 e1 => by
  cases a with
  | true => exact iteT (q H1 e1)
  | false => exact iteF (h2 rfl σ H1 (g.mono e1) Q fun H2 e2 => q H2 (e1.trans e2))
theorem ec_not {a : Bool} (h1 : EvC K t ρ μ a) : EvC K (tNot t) ρ μ (!a) := fun σ H g Q q => h1 σ H g _ fun H1 e1 => q H1 e1
/-! ### lists of the store -/
def isL (μ : Mu) (a : Addr) (ws : List W) : Prop := μ a = some (.ls ws) ∨ μ a = some (.rl ws)
theorem isL.sq {H : Hp} {a : Addr} {ws : List W} (l : isL μ a ws) (m : Mem K H μ) : ∃ vs, SqL K H a vs ∧ RwAll K H vs ws := by
  rcases l with l | l
  · obtain ⟨vs, h, r⟩ := m a _ l
    exact ⟨vs, .inl (.inl h), r⟩
  · obtain ⟨vs, h, r⟩ := m a _ l
    exact ⟨vs, .inl h, r⟩
theorem ed_twom {r : R2} {x y z : W} (ha : EvD K ta ρ μ x) (hb : EvD K tb ρ μ y)
    (hr : ∀ (H : Hp) (v w : V) (Q : VK), Mem K H μ → Rw K H v x → Rw K H w y → (∀ u H2, Ex H H2 → Rw K H2 u z → Q u H2) → r v w H Q) : EvD K (tOp r ta tb) ρ μ z := fun σ H g Q q =>
  ha σ H g _ fun v H1 e1 d1 => hb σ H1 (g.mono e1) _ fun w H2 e2 d2 => hr H2 v w Q (g.2.ex (e1.trans e2)) (dpm e2 d1) d2 fun u H3 e3 d3 => q u H3 ((e1.trans e2).trans e3) d3
theorem ed_ixL {a : Addr} {xs : List W} {i : Int} {x : W} (ha : EvD K ta ρ μ (.ref a)) (hb : EvD K tb ρ μ (.int i)) (l : isL μ a xs) (hi : 0 ≤ i) (hx : xs[i.toNat]? = some x) : EvD K (tOp (rIxL K) ta tb) ρ μ x := ed_twom ha hb fun H v w Q m dv dw k => by
  cases dw
  cases dv
  obtain ⟨vs, h, hs⟩ := l.sq m
  obtain ⟨v, e1, e2⟩ := dps_at i.toNat hs hx
  exact ⟨_, _, i, v, rfl, rfl, h, at_of (by omega) e1, k v H (Ex.refl H) e2⟩
/-- an item of a list that is written there -/
theorem ed_pick {ta : TA} {xs : List W} {i : Int} {x : W} (h : EvS K ta ρ μ xs) (hb : EvD K tb ρ μ (.int i)) (hl : xs.length ≤ 100000) (hi : 0 ≤ i) (hx : xs[i.toNat]? = some x) : EvD K (tOp (rIxL K) (tLst ta) tb) ρ μ x := fun σ H g Q q =>
  h σ H g _ fun vs H1 e1 d1 => ⟨sz_of (by rw [dps_len d1]; exact hl), fun p hp => hb σ _ (g.mono (e1.trans (Ex.new hp))) _ fun w H2 e2 dw => by
    cases dw
    obtain ⟨v, f1, f2⟩ := dps_at i.toNat d1 hx
    exact ⟨p, vs, i, v, rfl, rfl, sq_of (e2 _ _ upd_same), at_of (by omega) f1, q v H2 ((e1.trans (Ex.new hp)).trans e2) (dpm ((Ex.new hp).trans e2) f2)⟩⟩
theorem ed_lenL {ta : TA} {a : Addr} {xs : List W} (h : EvS K ta ρ μ [.ref a]) (l : isL μ a xs) : EvD K (tCB (rLenD K) ta) ρ μ (.int (xs.length : Int)) := ed_cbm h fun H vs Q m d1 k => by
  obtain ⟨v, rfl, dv⟩ := dps1 d1
  cases dv
  obtain ⟨vs, h, hs⟩ := l.sq m
  exact ⟨_, _, rfl, .inl ⟨_, h, (dps_len hs).symm⟩, k _ H (Ex.refl H) (.int _)⟩
/-! ### isinstance -/
inductive Ty (μ : Mu) : W → String → Prop
  | non : Ty μ .non "NoneType"
  | bl {b : Bool} : Ty μ (.bl b) "bool"
  | int {i : Int} : Ty μ (.int i) "int"
  | str {x : Str} : Ty μ (.str x) "str"
  | tup {ws : List W} : Ty μ (.tup ws) "tuple"
  | lst {a : Addr} {ws : List W} (l : isL μ a ws) : Ty μ (.ref a) "list"
  | dct {a : Addr} {kvs : List (Key × W)} (l : μ a = some (.dk kvs)) : Ty μ (.ref a) "dict"
theorem tyx_of {H : Hp} {v : V} {T : String} (m : Mem K H μ) (h : Rw K H v d) (y : Ty μ d T) : TyX K H v (.type T) := by
  cases y with
  | non => cases h; exact .base .non
  | bl => cases h; exact .base (.bl _)
  | int => cases h; exact .base (.int _)
  | str => cases h; exact .base (.str _)
  | tup =>
    cases h with
    | tup h hs =>
      rcases h with (h | ⟨o, h⟩) | ⟨o, its, n, h, c, _⟩
      · exact .base (.tup h)
      · exact .fTuple h
      · exact .kTuple h c
  | lst l =>
    cases h
    rcases l with l | l
    · obtain ⟨vs, h, _⟩ := m _ _ l
      exact .base (.lst h)
    · obtain ⟨vs, h, _⟩ := m _ _ l
      rcases h with h | ⟨o, h⟩
      · exact .base (.lst h)
      · exact .base (.frz h)
  | dct l =>
    cases h
    obtain ⟨vs, h, _⟩ := m _ _ l
    exact .base (.dK h)
theorem ed_isi {n T : String} {x : W} {b : Bool} (h : EvD K ta ρ μ x) (y : Ty μ x T) (hb : kitB T n = some b) : EvD K (tCB (rIsi K) (tCons ta (tCons (tC (.ty n)) tNil))) ρ μ (.bl b) := fun σ H g Q q =>
  h σ H g _ fun v H1 e1 d1 => ⟨v, .ty n, _, _, b, rfl, .ty n, tyx_of (g.2.ex e1) d1 y, kit_ty hb, q _ H1 e1 (.bl b)⟩
/-! ### == of data -/
mutual
inductive Dw (μ : Mu) : W → PyData → Prop
  | non : Dw μ .non .none
  | bl {b : Bool} : Dw μ (.bl b) (.bool b)
  | int {i : Int} : Dw μ (.int i) (.int i)
  | str {x : Str} : Dw μ (.str x) (.str x)
  | tup {ws : List W} {ds : List PyData} (h : DwAll μ ws ds) : Dw μ (.tup ws) (.tuple ds)
  | lst {a : Addr} {ws : List W} {ds : List PyData} (l : isL μ a ws) (h : DwAll μ ws ds) : Dw μ (.ref a) (.list ds)
inductive DwAll (μ : Mu) : List W → List PyData → Prop
  | nil : DwAll μ [] []
  | cons {w : W} {ws : List W} {d : PyData} {ds : List PyData} (h : Dw μ w d) (hs : DwAll μ ws ds) : DwAll μ (w :: ws) (d :: ds)
end
mutual
theorem dp_of {H : Hp} (m : Mem K H μ) : ∀ {w : W} {d : PyData} {v : V}, Dw μ w d → Rw K H v w → Dp K H v d
  | _, _, _, .non, h => by cases h; exact .non
  | _, _, _, .bl, h => by cases h; exact .bl _
  | _, _, _, .int, h => by cases h; exact .int _
  | _, _, _, .str, h => by cases h; exact .str _
  | _, _, _, .tup z, h => by
    cases h with
    | tup h hs => exact .tup h (dps_of m z hs)
  | _, _, _, .lst l z, h => by
    cases h
    obtain ⟨vs, h, hs⟩ := l.sq m
    exact .lst h (dps_of m z hs)
theorem dps_of {H : Hp} (m : Mem K H μ) : ∀ {ws : List W} {ds : List PyData} {vs : List V}, DwAll μ ws ds → RwAll K H vs ws → DpAll K H vs ds
  | _, _, _, .nil, h => by cases h; exact .nil
  | _, _, _, .cons z zs, h => by
    cases h with
    | cons h hs => exact .cons (dp_of m z h) (dps_of m zs hs)
end
theorem ed_eq {x y : W} {dx dy : PyData} (ha : EvD K ta ρ μ x) (hb : EvD K tb ρ μ y) (zx : Dw μ x dx) (zy : Dw μ y dy) (hx : SeqAt.shaped dx = true) (hy : SeqAt.shaped dy = true) : EvD K (tOp (rEqD K) ta tb) ρ μ (.bl (PyData.eqv dx dy)) :=
  ed_twom ha hb fun H v w Q m dv dw k => ⟨dx, dy, dp_of m zx dv, dp_of m zy dw, hx, hy, k _ H (Ex.refl H) (.bl _)⟩
theorem ed_ne {x y : W} {dx dy : PyData} (ha : EvD K ta ρ μ x) (hb : EvD K tb ρ μ y) (zx : Dw μ x dx) (zy : Dw μ y dy) (hx : SeqAt.shaped dx = true) (hy : SeqAt.shaped dy = true) : EvD K (tOp (rNeD K) ta tb) ρ μ (.bl (!PyData.eqv dx dy)) :=
  ed_twom ha hb fun H v w Q m dv dw k => ⟨dx, dy, dp_of m zx dv, dp_of m zy dw, hx, hy, k _ H (Ex.refl H) (.bl _)⟩
/-! ### dicts of the store -/
def kW : Key → W
  | .inl i => .int i
  | .inr x => .str x
theorem kv_of {H : Hp} {v : V} {k : Key} (h : Rw K H v (kW k)) : v = kV k := by
  cases k <;> (cases h; rfl)
def valW (kvs : List (Key × W)) (k : Key) : Option W := (kvs.find? fun kv => decide (kv.1 = k)).map (·.2)
def putW (kvs : List (Key × W)) (k : Key) (v : W) : List (Key × W) :=
  if (kvs.any fun kv => decide (kv.1 = k)) = true then kvs.map (fun kv => if kv.1 = k then (kv.1, v) else kv) else kvs ++ [(k, v)]
def dropW (kvs : List (Key × W)) (k : Key) : List (Key × W) := kvs.filter fun kv => decide (kv.1 ≠ k)
theorem rwp_any {H : Hp} {k : Key} {kv : List (Key × V)} {kw : List (Key × W)} (h : RwP K H kv kw) : (kv.any fun p => decide (p.1 = k)) = (kw.any fun p => decide (p.1 = k)) := by
  induction h with
  | nil => rfl
  | cons a b ih => rw [List.any_cons, List.any_cons, ih, a.1]
theorem rwp_val {H : Hp} {k : Key} {kv : List (Key × V)} {kw : List (Key × W)} (h : RwP K H kv kw) : (valW kw k = none → valV kv k = none) ∧ ∀ w, valW kw k = some w → ∃ v, valV kv k = some v ∧ Rw K H v w := by
  induction h with
  | nil => exact ⟨fun _ => rfl, fun w e => by cases e⟩
  | @cons p q r s a b ih =>
    unfold valW valV at *
    rw [List.find?_cons, List.find?_cons, a.1]
    cases hd : decide (q.1 = k) with
    | true =>
      refine ⟨fun e => (by cases e), fun w e => ?_⟩
      cases e
      exact ⟨_, rfl, a.2⟩
    | false => exact ih
theorem rwp_map {H : Hp} {k : Key} {x : V} {y : W} (hv : Rw K H x y) {kv : List (Key × V)} {kw : List (Key × W)} (h : RwP K H kv kw) : RwP K H (kv.map fun p => if p.1 = k then (p.1, x) else p) (kw.map fun p => if p.1 = k then (p.1, y) else p) := by
  induction h with
  | nil => exact .nil
  | @cons p q r s a b ih =>
    obtain ⟨pk, pv⟩ := p
    obtain ⟨qk, qv⟩ := q
    obtain ⟨a1, a2⟩ := a
    have a1 : pk = qk := a1
    subst a1
    refine .cons ?_ ih
    show (if pk = k then (pk, x) else (pk, pv)).1 = (if pk = k then (pk, y) else (pk, qv)).1 ∧ Rw K H (if pk = k then (pk, x) else (pk, pv)).2 (if pk = k then (pk, y) else (pk, qv)).2
    by_cases c : pk = k
    · rw [if_pos c, if_pos c]
      exact ⟨rfl, hv⟩
    · rw [if_neg c, if_neg c]
      exact ⟨rfl, a2⟩
theorem rwp_snoc {H : Hp} {k : Key} {x : V} {y : W} (hv : Rw K H x y) {kv : List (Key × V)} {kw : List (Key × W)} (h : RwP K H kv kw) : RwP K H (kv ++ [(k, x)]) (kw ++ [(k, y)]) := by
  induction h with
  | nil => exact .cons ⟨rfl, hv⟩ .nil
  | cons a b ih => exact .cons a ih
theorem rwp_put {H : Hp} {k : Key} {x : V} {y : W} (hv : Rw K H x y) {kv : List (Key × V)} {kw : List (Key × W)} (h : RwP K H kv kw) : RwP K H (putK kv k x) (putW kw k y) := by
  unfold putK putW
  rw [rwp_any h]
  split
  · exact rwp_map hv h
  · exact rwp_snoc hv h
theorem rwp_drop {H : Hp} {k : Key} {kv : List (Key × V)} {kw : List (Key × W)} (h : RwP K H kv kw) : RwP K H (dropK kv k) (dropW kw k) := by
  unfold dropK dropW
  induction h with
  | nil => exact .nil
  | @cons p q r s a b ih =>
    rw [List.filter_cons, List.filter_cons, a.1]
    split
    · exact .cons a ih
    · exact ih
theorem rwp_len {H : Hp} {κ : Type} {kv : List (κ × V)} {kw : List (κ × W)} (h : RwP K H kv kw) : kv.length = kw.length := Paired.length h
theorem ed_dget {a : Addr} {kvs : List (Key × W)} {k : Key} {x : W} (ha : EvD K ta ρ μ (.ref a)) (hb : EvD K tb ρ μ (kW k)) (l : μ a = some (.dk kvs)) (hx : valW kvs k = some x) : EvD K (tDGet ta tb) ρ μ x := fun σ H g Q q =>
  ha σ H g _ fun v H1 e1 d1 => hb σ H1 (g.mono e1) _ fun w H2 e2 d2 => by
    cases d1
    rw [kv_of d2]
    obtain ⟨kv, h, r⟩ := g.2.ex (e1.trans e2) a _ l
    obtain ⟨u, f1, f2⟩ := (rwp_val r).2 x hx
    refine ⟨a, u, rfl, ?_, q u H2 (e1.trans e2) f2⟩
    rw [← f1]
    exact DGet.k h
theorem ed_din {a : Addr} {kvs : List (Key × W)} {k : Key} (hb : EvD K tb ρ μ (kW k)) (ha : EvD K ta ρ μ (.ref a)) (l : μ a = some (.dk kvs)) : EvD K (tDIn tb ta) ρ μ (.bl (valW kvs k).isSome) := fun σ H g Q q =>
  hb σ H g _ fun v H1 e1 d1 => ha σ H1 (g.mono e1) _ fun w H2 e2 d2 => by
    cases d2
    rw [kv_of d1]
    obtain ⟨kv, h, r⟩ := g.2.ex (e1.trans e2) a _ l
    refine ⟨a, _, rfl, DGet.k h, ?_⟩
    have e : (valV kv k).isSome = (valW kvs k).isSome := by
      cases f : valW kvs k with
      | none => rw [(rwp_val r).1 f] <;> rfl
      | some w =>
        obtain ⟨u, f1, _⟩ := (rwp_val r).2 w f
        rw [f1] <;> rfl
    rw [e]
    exact q _ H2 (e1.trans e2) (.bl _)
theorem ed_dnotin {a : Addr} {kvs : List (Key × W)} {k : Key} (hb : EvD K tb ρ μ (kW k)) (ha : EvD K ta ρ μ (.ref a)) (l : μ a = some (.dk kvs)) : EvD K (tDNotIn tb ta) ρ μ (.bl (!(valW kvs k).isSome)) := fun σ H g Q q =>
  hb σ H g _ fun v H1 e1 d1 => ha σ H1 (g.mono e1) _ fun w H2 e2 d2 => by
    cases d2
    rw [kv_of d1]
    obtain ⟨kv, h, r⟩ := g.2.ex (e1.trans e2) a _ l
    refine ⟨a, _, rfl, DGet.k h, ?_⟩
    have e : (valV kv k).isSome = (valW kvs k).isSome := by
      cases f : valW kvs k with
      | none => rw [(rwp_val r).1 f] <;> rfl
      | some w =>
        obtain ⟨u, f1, _⟩ := (rwp_val r).2 w f
        rw [f1] <;> rfl
    rw [e]
    exact q _ H2 (e1.trans e2) (.bl _)
end
/-! ### statements: N what is known where they end, R what they return -/
def Run (K : Frag) (ts : TS) (ρ : Rho) (μ : Mu) (N : Rho → Prop) (R : W → Prop) : Prop := ∀ (D : Ends) (σ : L2.St) (H : Hp), S K H σ ρ μ →
  (∀ ρ' σ' H', N ρ' → Ex H H' → S K H' σ' ρ' μ → D.nx σ' H') → (∀ d v H', R d → Ex H H' → Rw K H' v d → D.rt v H') → ts D σ H
section
variable {K : Frag} {ρ : Rho} {μ : Mu} {te : TE} {t : TT} {ta : TA} {t1 t2 tb : TS} {N M : Rho → Prop} {R : W → Prop} {d : W}
theorem run_seq (h1 : Run K t1 ρ μ M R) (h2 : ∀ ρ', M ρ' → Run K t2 ρ' μ N R) : Run K (tSeq t1 t2) ρ μ N R := fun D σ H g hN hR =>
  h1 { D with nx := t2 D } σ H g (fun ρ' σ' H' m e1 g1 => h2 ρ' m D σ' H' g1 (fun ρ2 σ2 H2 n e2 g2 => hN ρ2 σ2 H2 n (e1.trans e2) g2) fun d v H2 r e2 dv => hR d v H2 r (e1.trans e2) dv) hR
theorem run_next (h : N ρ) : Run K tNext ρ μ N R := fun D σ H g hN _ => hN ρ σ H h (Ex.refl H) g
theorem run_ret (h : EvD K te ρ μ d) (hr : R d) : Run K (tRet te) ρ μ N R := fun D σ H g _ hR => h σ H g _ fun v H1 e1 d1 => hR d v H1 hr e1 d1
theorem run_asg {i : Nat} (h : EvD K te ρ μ d) (hn : N (ρ.set i (some d))) : Run K (tAsg te (gName i)) ρ μ N R := fun D σ H g hN _ => h σ H g _ fun v H1 e1 d1 => hN _ _ H1 hn e1 ((g.mono e1).put i d1)
/-- x = e, and what follows -/
theorem run_set {i : Nat} (h : EvD K te ρ μ d) (k : Run K t2 (ρ.set i (some d)) μ N R) : Run K (tSeq (tAsg te (gName i)) t2) ρ μ N R := run_seq (M := fun ρ' => ρ' = ρ.set i (some d)) (run_asg h rfl) fun ρ' e => e ▸ k
theorem run_if {b : Bool} (h : EvC K t ρ μ b) (h1 : b = true → Run K t1 ρ μ N R) (h2 : b = false → Run K t2 ρ μ N R) : Run K (tIfS t t1 t2) ρ μ N R := fun D σ H g hN hR => h σ H g _ fun H1 e1 => by
  cases b with
  | true => exact iteT (h1 rfl D σ H1 (g.mono e1) (fun ρ' σ' H' n e2 g2 => hN ρ' σ' H' n (e1.trans e2) g2) fun d v H' r e2 dv => hR d v H' r (e1.trans e2) dv)
  | false => exact iteF (h2 rfl D σ H1 (g.mono e1) (fun ρ' σ' H' n e2 g2 => hN ρ' σ' H' n (e1.trans e2) g2) fun d v H' r e2 dv => hR d v H' r (e1.trans e2) dv)
/-- an if whose branches are followed by the same rest -/
theorem run_ifs {b : Bool} (h : EvC K t ρ μ b) (h1 : b = true → Run K (tSeq t1 tb) ρ μ N R) (h2 : b = false → Run K (tSeq t2 tb) ρ μ N R) : Run K (tSeq (tIfS t t1 t2) tb) ρ μ N R := fun D σ H g hN hR => h σ H g _ fun H1 e1 => by
  cases b with
  | true => exact iteT (h1 rfl D σ H1 (g.mono e1) (fun ρ' σ' H' n e2 g2 => hN ρ' σ' H' n (e1.trans e2) g2) fun d v H' r e2 dv => hR d v H' r (e1.trans e2) dv)
  | false => exact iteF (h2 rfl D σ H1 (g.mono e1) (fun ρ' σ' H' n e2 g2 => hN ρ' σ' H' n (e1.trans e2) g2) fun d v H' r e2 dv => hR d v H' r (e1.trans e2) dv)
theorem run_nexts (k : Run K t2 ρ μ N R) : Run K (tSeq tNext t2) ρ μ N R := fun D σ H g hN hR => k D σ H g hN hR
theorem run_retS (h : EvD K te ρ μ d) (hr : R d) : Run K (tSeq (tRet te) t2) ρ μ N R := fun D σ H g _ hR => h σ H g _ fun v H1 e1 d1 => hR d v H1 hr e1 d1
theorem run_assoc {t3 : TS} (h : Run K (tSeq t1 (tSeq t2 t3)) ρ μ N R) : Run K (tSeq (tSeq t1 t2) t3) ρ μ N R := h
/-- a, b = e -/
theorem run_pair {i j : Nat} {x y : W} (h : EvD K te ρ μ (.tup [x, y])) (k : Run K t2 ((ρ.set i (some x)).set j (some y)) μ N R) :
    Run K (tSeq (tAsg te (gTup K 2 (gCons (gName i) (gCons (gName j) gNil)))) t2) ρ μ N R := fun D σ H g hN hR => h σ H g _ fun v H1 e1 d1 => by
  cases d1 with
  | tup hq hs =>
    obtain ⟨v, w, rfl, dv, dw⟩ := dps2 hs
    refine ⟨_, _, rfl, hq, rfl, v, [w], rfl, w, [], rfl, rfl, ?_⟩
    exact k D _ H1 (((g.mono e1).put i dv).put j dw) (fun ρ' σ' H' n e2 g2 => hN ρ' σ' H' n (e1.trans e2) g2) fun d v H' r e2 dv => hR d v H' r (e1.trans e2) dv
/-- a, b = e, f -/
theorem run_par {i j : Nat} {x y : W} (h : EvS K ta ρ μ [x, y]) (k : Run K t2 ((ρ.set i (some x)).set j (some y)) μ N R) : Run K (tSeq (tPar i j ta) t2) ρ μ N R := fun D σ H g hN hR => h σ H g _ fun vs H1 e1 d1 => by
  obtain ⟨v, w, rfl, dv, dw⟩ := dps2 d1
  exact ⟨v, w, rfl, k D _ H1 (((g.mono e1).put i dv).put j dw) (fun ρ' σ' H' n e2 g2 => hN ρ' σ' H' n (e1.trans e2) g2) fun d v H' r e2 dv => hR d v H' r (e1.trans e2) dv⟩
/-! loops: I the word, by the turn -/
theorem run_range {j : Nat} {n : Int} (h : EvS K ta ρ μ [.int n]) (hn : -(2 ^ 62) ≤ n ∧ n < 2 ^ 62) (I : Nat → Rho → Prop) (h0 : I 0 ρ)
    (hs : ∀ (i : Nat) ρ', (i : Int) < n → I i ρ' → Run K tb (ρ'.set j (some (.int (i : Int)))) μ (I (i + 1)) R) (hd : ∀ ρ', I n.toNat ρ' → Run K t2 ρ' μ N R) : Run K (tSeq (tFor (iRng1 ta) (gName j) tb) t2) ρ μ N R := fun D σ H g hN hR =>
  h σ H g _ fun vs H1 e1 d1 => by
    obtain ⟨v, rfl, dv⟩ := dps1 d1
    cases dv
    refine ⟨n, rfl, hn.1, hn.2, for_range (lo := 0) (n := n.toNat) (fun i σ' H' => ∃ ρ', I i ρ' ∧ Ex H H' ∧ S K H' σ' ρ' μ) ⟨ρ, h0, e1, g.mono e1⟩ (fun i σ' H' hi w => ?_) fun σ' H' w => ?_⟩
    · obtain ⟨ρ', p, e2, g2⟩ := w
      have q := hs i ρ' (by omega) p
      show tb _ (σ'.set j (some (.int ((0 : Int) + (i : Int))))) H'
      rw [Int.zero_add]
      exact q _ _ H' (g2.put j (.int _)) (fun ρ3 σ3 H3 p3 e3 g3 => ⟨ρ3, p3, e2.trans e3, g3⟩) fun d v H3 r e3 dv => hR d v H3 r (e2.trans e3) dv
    · obtain ⟨ρ', p, e2, g2⟩ := w
      exact hd ρ' p D σ' H' g2 (fun ρ3 σ3 H3 p3 e3 g3 => hN ρ3 σ3 H3 p3 (e2.trans e3) g3) fun d v H3 r e3 dv => hR d v H3 r (e2.trans e3) dv
theorem run_forT {j : Nat} {xs : List W} (h : EvD K te ρ μ (.tup xs)) (I : Nat → Rho → Prop) (h0 : I 0 ρ)
    (hs : ∀ (i : Nat) x ρ', xs[i]? = some x → I i ρ' → Run K tb (ρ'.set j (some x)) μ (I (i + 1)) R) (hd : ∀ ρ', I xs.length ρ' → Run K t2 ρ' μ N R) : Run K (tSeq (tFor (iTup K te) (gName j) tb) t2) ρ μ N R := fun D σ H g hN hR =>
  h σ H g _ fun v H1 e1 d1 => by
    cases d1 with
    | tup hq hds =>
      refine ⟨_, rfl, ⟨_, hq⟩, for_tup (K := K) (fun i σ' H' => ∃ ρ', I i ρ' ∧ Ex H1 H' ∧ S K H' σ' ρ' μ) ⟨ρ, h0, Ex.refl _, g.mono e1⟩ (fun i σ' H' _ w => ex_t w.choose_spec.2.1 hq) (fun i v σ' H' hv w => ?_) fun σ' H' w => ?_⟩
      · obtain ⟨ρ', p, e2, g2⟩ := w
        obtain ⟨x, hx, dx⟩ := dps_to i hds hv
        exact hs i x ρ' hx p _ _ H' (g2.put j (dpm e2 dx)) (fun ρ3 σ3 H3 p3 e3 g3 => ⟨ρ3, p3, e2.trans e3, g3⟩) fun d v H3 r e3 dv => hR d v H3 r ((e1.trans e2).trans e3) dv
      · obtain ⟨ρ', p, e2, g2⟩ := w
        rw [dps_len hds] at p
        exact hd ρ' p D σ' H' g2 (fun ρ3 σ3 H3 p3 e3 g3 => hN ρ3 σ3 H3 p3 ((e1.trans e2).trans e3) g3) fun d v H3 r e3 dv => hR d v H3 r ((e1.trans e2).trans e3) dv
theorem run_forL {j : Nat} {a : Addr} {xs : List W} (h : EvD K te ρ μ (.ref a)) (l : isL μ a xs) (I : Nat → Rho → Prop) (h0 : I 0 ρ)
    (hs : ∀ (i : Nat) x ρ', xs[i]? = some x → I i ρ' → Run K tb (ρ'.set j (some x)) μ (I (i + 1)) R) (hd : ∀ ρ', I xs.length ρ' → Run K t2 ρ' μ N R) : Run K (tSeq (tFor (iList K te) (gName j) tb) t2) ρ μ N R := fun D σ H g hN hR =>
  h σ H g _ fun v H1 e1 d1 => by
    cases d1
    obtain ⟨vs, hq, hds⟩ := l.sq (g.2.ex e1)
    · refine ⟨_, rfl, ⟨_, hq⟩, for_list (K := K) (fun i σ' H' => ∃ ρ', I i ρ' ∧ Ex H1 H' ∧ S K H' σ' ρ' μ) ⟨ρ, h0, Ex.refl _, g.mono e1⟩ (fun i σ' H' _ w => ex_l w.choose_spec.2.1 hq) (fun i v σ' H' hv w => ?_) fun σ' H' w => ?_⟩
      · obtain ⟨ρ', p, e2, g2⟩ := w
        obtain ⟨x, hx, dx⟩ := dps_to i hds hv
        exact hs i x ρ' hx p _ _ H' (g2.put j (dpm e2 dx)) (fun ρ3 σ3 H3 p3 e3 g3 => ⟨ρ3, p3, e2.trans e3, g3⟩) fun d v H3 r e3 dv => hR d v H3 r ((e1.trans e2).trans e3) dv
      · obtain ⟨ρ', p, e2, g2⟩ := w
        rw [dps_len hds] at p
        exact hd ρ' p D σ' H' g2 (fun ρ3 σ3 H3 p3 e3 g3 => hN ρ3 σ3 H3 p3 ((e1.trans e2).trans e3) g3) fun d v H3 r e3 dv => hR d v H3 r ((e1.trans e2).trans e3) dv
theorem run_forS {j : Nat} {z : Str} (h : EvD K te ρ μ (.str z)) (I : Nat → Rho → Prop) (h0 : I 0 ρ)
    (hs : ∀ (i : Nat) c ρ', z.cps.toList[i]? = some c → I i ρ' → Run K tb (ρ'.set j (some (.str ⟨#[c]⟩))) μ (I (i + 1)) R) (hd : ∀ ρ', I z.cps.toList.length ρ' → Run K t2 ρ' μ N R) : Run K (tSeq (tFor (iStr te) (gName j) tb) t2) ρ μ N R := fun D σ H g hN hR =>
  h σ H g _ fun v H1 e1 d1 => by
    cases d1
    refine ⟨z, rfl, for_it (walk_str (z := z)) (fun i σ' H' => ∃ ρ', I i ρ' ∧ Ex H H' ∧ S K H' σ' ρ' μ) ⟨ρ, h0, e1, g.mono e1⟩ (fun _ _ _ _ _ => trivial) (fun i v σ' H' H2 hi w y => ?_) fun σ' H' w => ?_⟩
    · obtain ⟨ρ', p, e2, g2⟩ := w
      obtain ⟨rfl, c, hc, rfl⟩ := y
      exact hs i c ρ' (by rw [Array.getElem?_toList]; exact hc) p _ _ _ (g2.put j (.str _)) (fun ρ3 σ3 H3 p3 e3 g3 => ⟨ρ3, p3, e2.trans e3, g3⟩) fun d v H3 r e3 dv => hR d v H3 r (e2.trans e3) dv
    · obtain ⟨ρ', p, e2, g2⟩ := w
      exact hd ρ' (by rw [Array.length_toList]; exact p) D σ' H' g2 (fun ρ3 σ3 H3 p3 e3 g3 => hN ρ3 σ3 H3 p3 (e2.trans e3) g3) fun d v H3 r e3 dv => hR d v H3 r (e2.trans e3) dv
end

section
variable {K : Frag} {ρ : Rho} {μ : Mu} {te tl : TE} {t : TT} {ta : TA} {t1 t2 tb : TS} {N M : Rho → Prop} {R : W → Prop} {d : W}
/-- a, b, c = e -/
theorem run_triple {i j l : Nat} {x y z : W} (h : EvD K te ρ μ (.tup [x, y, z])) (k : Run K t2 (((ρ.set i (some x)).set j (some y)).set l (some z)) μ N R) :
    Run K (tSeq (tAsg te (gTup K 3 (gCons (gName i) (gCons (gName j) (gCons (gName l) gNil))))) t2) ρ μ N R := fun D σ H g hN hR => h σ H g _ fun v H1 e1 d1 => by
  cases d1 with
  | tup hq hs =>
    obtain ⟨v, w, u, rfl, dv, dw, du⟩ := dps3 hs
    refine ⟨_, _, rfl, hq, rfl, v, [w, u], rfl, w, [u], rfl, u, [], rfl, rfl, ?_⟩
    exact k D _ H1 ((((g.mono e1).put i dv).put j dw).put l du) (fun ρ' σ' H' n e2 g2 => hN ρ' σ' H' n (e1.trans e2) g2) fun d v H' r e2 dv => hR d v H' r (e1.trans e2) dv
theorem run_post {ts : TS} (h : Run K ts ρ μ M R) (q : ∀ ρ', M ρ' → N ρ') : Run K ts ρ μ N R := fun D σ H g hN hR => h D σ H g (fun ρ' σ' H' m => hN ρ' σ' H' (q ρ' m)) hR
end
/-! ### statements that change the store; E what is wished of what is raised -/
def RunM (K : Frag) (E : XK) (ts : TS) (ρ : Rho) (μ : Mu) (N : Rho → Mu → Prop) (R : W → Mu → Prop) (X : Value → Mu → Prop) : Prop := ∀ (D : Ends) (σ : L2.St) (H : Hp), S K H σ ρ μ →
  (∀ ρ' μ' σ' H', N ρ' μ' → Tk H H' → S K H' σ' ρ' μ' → D.nx σ' H') → (∀ w μ' v H', R w μ' → Tk H H' → Mem K H' μ' → Rw K H' v w → D.rt v H') → (∀ c μ' H', X c μ' → Tk H H' → Mem K H' μ' → E c none H') → ts D σ H
/-- an expression that may change the store or raise -/
def EvW (K : Frag) (E : XK) (te : TE) (ρ : Rho) (μ : Mu) (P : W → Mu → Prop) (X : Value → Mu → Prop) : Prop := ∀ (σ : L2.St) (H : Hp), S K H σ ρ μ → ∀ Q : VK, (∀ w μ' v H', P w μ' → Tk H H' → S K H' σ ρ μ' → Rw K H' v w → Q v H') →
  (∀ c μ' H', X c μ' → Tk H H' → Mem K H' μ' → E c none H') → te σ H Q
section
variable {K : Frag} {E : XK} {ρ : Rho} {μ : Mu} {te tl td ty tv : TE} {t : TT} {ta : TA} {t1 t2 tb : TS} {N M : Rho → Mu → Prop} {R : W → Mu → Prop} {X : Value → Mu → Prop} {d : W} {P : W → Mu → Prop}
theorem ew_pure (h : EvD K te ρ μ d) (p : P d μ) : EvW K E te ρ μ P X := fun σ H g Q q _ => h σ H g _ fun v H1 e1 d1 => q d μ v H1 p (Tk.ex e1) (g.mono e1) d1
theorem rm_of {N : Rho → Prop} {R : W → Prop} {N' : Rho → Mu → Prop} {R' : W → Mu → Prop} (h : Run K t1 ρ μ N R) (hn : ∀ ρ', N ρ' → N' ρ' μ) (hr : ∀ w, R w → R' w μ) : RunM K E t1 ρ μ N' R' X := fun D σ H g hN hR _ =>
  h D σ H g (fun ρ' σ' H' n e g' => hN ρ' μ σ' H' (hn _ n) (Tk.ex e) g') fun w v H' r e dv => hR w μ v H' (hr _ r) (Tk.ex e) (g.2.ex e) dv
theorem rm_seq (h1 : RunM K E t1 ρ μ M R X) (h2 : ∀ ρ' μ', M ρ' μ' → RunM K E t2 ρ' μ' N R X) : RunM K E (tSeq t1 t2) ρ μ N R X := fun D σ H g hN hR hX =>
  h1 { D with nx := t2 D } σ H g (fun ρ' μ' σ' H' m e1 g1 => h2 ρ' μ' m D σ' H' g1 (fun ρ2 μ2 σ2 H2 n e2 g2 => hN ρ2 μ2 σ2 H2 n (e1.trans e2) g2) (fun d μ2 v H2 r e2 => hR d μ2 v H2 r (e1.trans e2)) fun c μ2 H2 x e2 => hX c μ2 H2 x (e1.trans e2)) hR hX
theorem rm_next (h : N ρ μ) : RunM K E tNext ρ μ N R X := fun D σ H g hN _ _ => hN ρ μ σ H h (Tk.refl H) g
theorem rm_nexts (k : RunM K E t2 ρ μ N R X) : RunM K E (tSeq tNext t2) ρ μ N R X := fun D σ H g hN hR hX => k D σ H g hN hR hX
theorem rm_retW (h : EvW K E te ρ μ R X) : RunM K E (tRet te) ρ μ N R X := fun D σ H g _ hR hX => h σ H g _ (fun w μ' v H' r e g' dv => hR w μ' v H' r e g'.2 dv) hX
theorem rm_ret (h : EvD K te ρ μ d) (hr : R d μ) : RunM K E (tRet te) ρ μ N R X := rm_retW (ew_pure h hr)
theorem rm_retS (h : EvD K te ρ μ d) (hr : R d μ) : RunM K E (tSeq (tRet te) t2) ρ μ N R X := fun D σ H g _ hR _ => h σ H g _ fun v H1 e1 d1 => hR d μ v H1 hr (Tk.ex e1) (g.2.ex e1) d1
theorem rm_asgW {i : Nat} (h : EvW K E te ρ μ P X) (hn : ∀ w μ', P w μ' → N (ρ.set i (some w)) μ') : RunM K E (tAsg te (gName i)) ρ μ N R X := fun D σ H g hN _ hX =>
  h σ H g _ (fun w μ' v H' p e g' dv => hN _ _ _ H' (hn w μ' p) e (g'.put i dv)) hX
theorem rm_setW {i : Nat} (h : EvW K E te ρ μ P X) (k : ∀ w μ', P w μ' → RunM K E t2 (ρ.set i (some w)) μ' N R X) : RunM K E (tSeq (tAsg te (gName i)) t2) ρ μ N R X := fun D σ H g hN hR hX =>
  h σ H g _ (fun w μ' v H' p e g' dv => k w μ' p D _ H' (g'.put i dv) (fun ρ2 μ2 σ2 H2 n e2 => hN ρ2 μ2 σ2 H2 n (e.trans e2)) (fun d μ2 v H2 r e2 => hR d μ2 v H2 r (e.trans e2)) fun c μ2 H2 x e2 => hX c μ2 H2 x (e.trans e2)) hX
theorem rm_asg {i : Nat} (h : EvD K te ρ μ d) (hn : N (ρ.set i (some d)) μ) : RunM K E (tAsg te (gName i)) ρ μ N R X := rm_asgW (P := fun w μ' => w = d ∧ μ' = μ) (ew_pure h ⟨rfl, rfl⟩) fun w μ' p => by
  obtain ⟨rfl, rfl⟩ := p
  exact hn
theorem rm_set {i : Nat} (h : EvD K te ρ μ d) (k : RunM K E t2 (ρ.set i (some d)) μ N R X) : RunM K E (tSeq (tAsg te (gName i)) t2) ρ μ N R X := rm_setW (P := fun w μ' => w = d ∧ μ' = μ) (ew_pure h ⟨rfl, rfl⟩) fun w μ' p => by
  obtain ⟨rfl, rfl⟩ := p
  exact k
theorem rm_dropW (h : EvW K E te ρ μ P X) (hn : ∀ w μ', P w μ' → N ρ μ') : RunM K E (tDrop te) ρ μ N R X := fun D σ H g hN _ hX =>
  h σ H g _ (fun w μ' v H' p e g' dv => hN _ _ _ H' (hn w μ' p) e g') hX
theorem rm_drop (h : EvW K E te ρ μ P X) (k : ∀ w μ', P w μ' → RunM K E t2 ρ μ' N R X) : RunM K E (tSeq (tDrop te) t2) ρ μ N R X := fun D σ H g hN hR hX =>
  h σ H g _ (fun w μ' v H' p e g' dv => k w μ' p D _ H' g' (fun ρ2 μ2 σ2 H2 n e2 => hN ρ2 μ2 σ2 H2 n (e.trans e2)) (fun d μ2 v H2 r e2 => hR d μ2 v H2 r (e.trans e2)) fun c μ2 H2 x e2 => hX c μ2 H2 x (e.trans e2)) hX
theorem rm_if {b : Bool} (h : EvC K t ρ μ b) (h1 : b = true → RunM K E t1 ρ μ N R X) (h2 : b = false → RunM K E t2 ρ μ N R X) : RunM K E (tIfS t t1 t2) ρ μ N R X := fun D σ H g hN hR hX => h σ H g _ fun H1 e1 => by
  have a1 := Tk.ex e1
  cases b with
  | true => exact iteT (h1 rfl D σ H1 (g.mono e1) (fun ρ' μ' σ' H' n e2 => hN ρ' μ' σ' H' n (a1.trans e2)) (fun d μ' v H' r e2 => hR d μ' v H' r (a1.trans e2)) fun c μ' H' x e2 => hX c μ' H' x (a1.trans e2))
  | false => exact iteF (h2 rfl D σ H1 (g.mono e1) (fun ρ' μ' σ' H' n e2 => hN ρ' μ' σ' H' n (a1.trans e2)) (fun d μ' v H' r e2 => hR d μ' v H' r (a1.trans e2)) fun c μ' H' x e2 => hX c μ' H' x (a1.trans e2))
theorem rm_ifs {b : Bool} (h : EvC K t ρ μ b) (h1 : b = true → RunM K E (tSeq t1 tb) ρ μ N R X) (h2 : b = false → RunM K E (tSeq t2 tb) ρ μ N R X) : RunM K E (tSeq (tIfS t t1 t2) tb) ρ μ N R X := fun D σ H g hN hR hX => h σ H g _ fun H1 e1 => by
  have a1 := Tk.ex e1
  cases b with
  | true => exact iteT (h1 rfl D σ H1 (g.mono e1) (fun ρ' μ' σ' H' n e2 => hN ρ' μ' σ' H' n (a1.trans e2)) (fun d μ' v H' r e2 => hR d μ' v H' r (a1.trans e2)) fun c μ' H' x e2 => hX c μ' H' x (a1.trans e2))
  | false => exact iteF (h2 rfl D σ H1 (g.mono e1) (fun ρ' μ' σ' H' n e2 => hN ρ' μ' σ' H' n (a1.trans e2)) (fun d μ' v H' r e2 => hR d μ' v H' r (a1.trans e2)) fun c μ' H' x e2 => hX c μ' H' x (a1.trans e2))
theorem rm_assoc {t3 : TS} (h : RunM K E (tSeq t1 (tSeq t2 t3)) ρ μ N R X) : RunM K E (tSeq (tSeq t1 t2) t3) ρ μ N R X := h
theorem rm_pair {i j : Nat} {x y : W} (h : EvD K te ρ μ (.tup [x, y])) (k : RunM K E t2 ((ρ.set i (some x)).set j (some y)) μ N R X) :
    RunM K E (tSeq (tAsg te (gTup K 2 (gCons (gName i) (gCons (gName j) gNil)))) t2) ρ μ N R X := fun D σ H g hN hR hX => h σ H g _ fun v H1 e1 d1 => by
  have a1 := Tk.ex e1
  cases d1 with
  | tup hq hs =>
    obtain ⟨v, w, rfl, dv, dw⟩ := dps2 hs
    refine ⟨_, _, rfl, hq, rfl, v, [w], rfl, w, [], rfl, rfl, ?_⟩
    exact k D _ H1 (((g.mono e1).put i dv).put j dw) (fun ρ' μ' σ' H' n e2 => hN ρ' μ' σ' H' n (a1.trans e2)) (fun d μ' v H' r e2 => hR d μ' v H' r (a1.trans e2)) fun c μ' H' x e2 => hX c μ' H' x (a1.trans e2)
theorem rm_triple {i j l : Nat} {x y z : W} (h : EvD K te ρ μ (.tup [x, y, z])) (k : RunM K E t2 (((ρ.set i (some x)).set j (some y)).set l (some z)) μ N R X) :
    RunM K E (tSeq (tAsg te (gTup K 3 (gCons (gName i) (gCons (gName j) (gCons (gName l) gNil))))) t2) ρ μ N R X := fun D σ H g hN hR hX => h σ H g _ fun v H1 e1 d1 => by
  have a1 := Tk.ex e1
  cases d1 with
  | tup hq hs =>
    obtain ⟨v, w, u, rfl, dv, dw, du⟩ := dps3 hs
    refine ⟨_, _, rfl, hq, rfl, v, [w, u], rfl, w, [u], rfl, u, [], rfl, rfl, ?_⟩
    exact k D _ H1 ((((g.mono e1).put i dv).put j dw).put l du) (fun ρ' μ' σ' H' n e2 => hN ρ' μ' σ' H' n (a1.trans e2)) (fun d μ' v H' r e2 => hR d μ' v H' r (a1.trans e2)) fun c μ' H' x e2 => hX c μ' H' x (a1.trans e2)
/-! new objects -/
theorem ew_newD : EvW K E tDNewK ρ μ (fun w μ' => ∃ p, μ p = none ∧ w = .ref p ∧ μ' = mset μ p (.dk [])) X := fun σ H g Q q _ => fun p hp =>
  q (.ref p) (mset μ p (.dk [])) (.ref p) _ ⟨p, g.2.free hp, rfl, rfl⟩ (Tk.ex (Ex.new hp)) ⟨g.1.tk (Tk.ex (Ex.new hp)), g.2.put (nt_none hp) ⟨[], upd_same, .nil⟩⟩ (.ref p)
theorem ew_lst {ta : TA} {xs : List W} (h : EvS K ta ρ μ xs) (hl : xs.length ≤ 100000) : EvW K E (tLst ta) ρ μ (fun w μ' => ∃ p, μ p = none ∧ w = .ref p ∧ μ' = mset μ p (.ls xs)) X := fun σ H g Q q _ =>
  h σ H g _ fun vs H1 e1 d1 => ⟨sz_of (by rw [dps_len d1]; exact hl), fun p hp =>
    have t := (Tk.ex e1).trans (Tk.ex (Ex.new hp))
    q (.ref p) (mset μ p (.ls xs)) (.ref p) _ ⟨p, (g.2.ex e1).free hp, rfl, rfl⟩ t ⟨g.1.tk t, (g.2.ex e1).put (nt_none hp) ⟨vs, upd_same, dpms (Ex.new hp) d1⟩⟩ (.ref p)⟩
/-! d[k] = v, del d[k] -/
theorem rm_dput {a : Addr} {kvs : List (Key × W)} {k : Key} {x : W} (hv : EvD K tv ρ μ x) (hd : EvD K td ρ μ (.ref a)) (hk : EvD K ty ρ μ (kW k)) (l : μ a = some (.dk kvs)) (hl : kvs.length < 100000) (kk : RunM K E t2 ρ (mset μ a (.dk (putW kvs k x))) N R X) :
    RunM K E (tSeq (sDPut td ty tv) t2) ρ μ N R X := fun D σ H g hN hR hX =>
  hv σ H g _ fun v H1 e1 d1 => hd σ H1 (g.mono e1) _ fun u H2 e2 d2 => hk σ H2 (g.mono (e1.trans e2)) _ fun y H3 e3 d3 => by
    cases d2
    rw [kv_of d3]
    have e := (e1.trans e2).trans e3
    obtain ⟨kv, h, r⟩ := g.2.ex e a _ l
    have tk := Tk.upd (o := .dK (putK kv k v)) (nt_dk h)
    have t := (Tk.ex e).trans tk
    refine ⟨a, upd H3 a (.dK (putK kv k v)), rfl, DPut.k h (sz_lt (by rw [rwp_len r]; exact hl)), ?_⟩
    exact kk D σ _ ⟨g.1.tk t, (g.2.ex e).put (nt_dk h) ⟨_, upd_same, rwp_put (rwm tk (dpm (e2.trans e3) d1)) (rwpm tk r)⟩⟩ (fun ρ' μ' σ' H' n e2 => hN ρ' μ' σ' H' n (t.trans e2)) (fun d μ' v H' r e2 => hR d μ' v H' r (t.trans e2)) fun c μ' H' x e2 => hX c μ' H' x (t.trans e2)
theorem rm_dput1 {a : Addr} {kvs : List (Key × W)} {k : Key} {x : W} (hv : EvD K tv ρ μ x) (hd : EvD K td ρ μ (.ref a)) (hk : EvD K ty ρ μ (kW k)) (l : μ a = some (.dk kvs)) (hl : kvs.length < 100000) (hn : N ρ (mset μ a (.dk (putW kvs k x)))) :
    RunM K E (sDPut td ty tv) ρ μ N R X := fun D σ H g hN hR hX =>
  rm_dput (t2 := tNext) hv hd hk l hl (rm_next hn) D σ H g hN hR hX
theorem rm_ddel {a : Addr} {kvs : List (Key × W)} {k : Key} (hd : EvD K td ρ μ (.ref a)) (hk : EvD K ty ρ μ (kW k)) (l : μ a = some (.dk kvs)) (hs : (valW kvs k).isSome = true) (kk : RunM K E t2 ρ (mset μ a (.dk (dropW kvs k))) N R X) :
    RunM K E (tSeq (sDDel td ty) t2) ρ μ N R X := fun D σ H g hN hR hX =>
  hd σ H g _ fun u H2 e2 d2 => hk σ H2 (g.mono e2) _ fun y H3 e3 d3 => by
    cases d2
    have ey := kv_of d3
    have e := e2.trans e3
    obtain ⟨kv, h, r⟩ := g.2.ex e a _ l
    have tk := Tk.upd (o := .dK (dropK kv k)) (nt_dk h)
    have t := (Tk.ex e).trans tk
    have hs2 : (valV kv k).isSome = true := by
      cases f : valW kvs k with
      | none =>
        rw [f] at hs
        cases hs
      | some w =>
        obtain ⟨u, f1, _⟩ := (rwp_val r).2 w f
        rw [f1]
        rfl
    refine ⟨a, kv, k, rfl, h, ey, hs2, ?_⟩
    exact kk D σ _ ⟨g.1.tk t, (g.2.ex e).put (nt_dk h) ⟨_, upd_same, rwp_drop (rwpm tk r)⟩⟩ (fun ρ' μ' σ' H' n e2 => hN ρ' μ' σ' H' n (t.trans e2)) (fun d μ' v H' r e2 => hR d μ' v H' r (t.trans e2)) fun c μ' H' x e2 => hX c μ' H' x (t.trans e2)
/-! xs.append(e) -/
theorem rm_app {a : Addr} {xs : List W} {x : W} (hl : EvD K tl ρ μ (.ref a)) (hv : EvD K tv ρ μ x) (l : μ a = some (.ls xs)) (hz : xs.length < 100000) (kk : RunM K E t2 ρ (mset μ a (.ls (xs ++ [x]))) N R X) :
    RunM K E (tSeq (tDrop (tBM K "list" rAppend tl (tCons tv tNil))) t2) ρ μ N R X := fun D σ H g hN hR hX =>
  hl σ H g _ fun u H1 e1 d1 => by
    cases d1
    obtain ⟨vs, h, r⟩ := g.2.ex e1 a _ l
    refine ⟨.inl ⟨rfl, _, SqL.of h⟩, ?_⟩
    refine hv σ H1 (g.mono e1) _ fun v H2 e2 d2 => ?_
    have e := e1.trans e2
    have h2 := e2 _ _ h
    have tk := Tk.upd (o := .lst (vs ++ [v])) (nt_lst h2)
    have t := (Tk.ex e).trans tk
    refine ⟨a, vs, v, rfl, rfl, h2, sz_lt (by rw [dps_len r]; exact hz), ?_⟩
    exact kk D σ _ ⟨g.1.tk t, (g.2.ex e).put (nt_lst h2) ⟨_, upd_same, dps_app (rwms tk (dpms e2 r)) (.cons (rwm tk d2) .nil)⟩⟩ (fun ρ' μ' σ' H' n e2 => hN ρ' μ' σ' H' n (t.trans e2)) (fun d μ' v H' r e2 => hR d μ' v H' r (t.trans e2)) fun c μ' H' x e2 => hX c μ' H' x (t.trans e2)
/-! loops -/
theorem rm_range {j : Nat} {n : Int} (h : EvS K ta ρ μ [.int n]) (hn : -(2 ^ 62) ≤ n ∧ n < 2 ^ 62) (I : Nat → Rho → Mu → Prop) (h0 : I 0 ρ μ)
    (hs : ∀ (i : Nat) ρ' μ', (i : Int) < n → I i ρ' μ' → RunM K E tb (ρ'.set j (some (.int (i : Int)))) μ' (I (i + 1)) R X) (hd : ∀ ρ' μ', I n.toNat ρ' μ' → RunM K E t2 ρ' μ' N R X) : RunM K E (tSeq (tFor (iRng1 ta) (gName j) tb) t2) ρ μ N R X := fun D σ H g hN hR hX =>
  h σ H g _ fun vs H1 e1 d1 => by
    obtain ⟨v, rfl, dv⟩ := dps1 d1
    cases dv
    refine ⟨n, rfl, hn.1, hn.2, for_range (lo := 0) (n := n.toNat) (fun i σ' H' => ∃ ρ' μ', I i ρ' μ' ∧ Tk H H' ∧ S K H' σ' ρ' μ') ⟨ρ, μ, h0, Tk.ex e1, g.mono e1⟩ (fun i σ' H' hi w => ?_) fun σ' H' w => ?_⟩
    · obtain ⟨ρ', μ', p, e2, g2⟩ := w
      have q := hs i ρ' μ' (by omega) p
      show tb _ (σ'.set j (some (.int ((0 : Int) + (i : Int))))) H'
      rw [Int.zero_add]
      exact q _ _ H' (g2.put j (.int _)) (fun ρ3 μ3 σ3 H3 p3 e3 g3 => ⟨ρ3, μ3, p3, e2.trans e3, g3⟩) (fun d μ3 v H3 r e3 => hR d μ3 v H3 r (e2.trans e3)) fun c μ3 H3 x e3 => hX c μ3 H3 x (e2.trans e3)
    · obtain ⟨ρ', μ', p, e2, g2⟩ := w
      exact hd ρ' μ' p D σ' H' g2 (fun ρ3 μ3 σ3 H3 p3 e3 => hN ρ3 μ3 σ3 H3 p3 (e2.trans e3)) (fun d μ3 v H3 r e3 => hR d μ3 v H3 r (e2.trans e3)) fun c μ3 H3 x e3 => hX c μ3 H3 x (e2.trans e3)
/-- over a list that the body leaves -/
theorem rm_forL {j : Nat} {a : Addr} {xs : List W} (h : EvD K te ρ μ (.ref a)) (l : isL μ a xs) (I : Nat → Rho → Mu → Prop) (h0 : I 0 ρ μ) (hl : ∀ i ρ' μ', I i ρ' μ' → isL μ' a xs)
    (hs : ∀ (i : Nat) x ρ' μ', xs[i]? = some x → I i ρ' μ' → RunM K E tb (ρ'.set j (some x)) μ' (I (i + 1)) R X) (hd : ∀ ρ' μ', I xs.length ρ' μ' → RunM K E t2 ρ' μ' N R X)
    (flat : ∀ (H H' : Hp) (vs vs' : List V), RwAll K H vs xs → RwAll K H' vs' xs → vs' = vs) : RunM K E (tSeq (tFor (iList K te) (gName j) tb) t2) ρ μ N R X := fun D σ H g hN hR hX =>
  h σ H g _ fun v H1 e1 d1 => by
    cases d1
    obtain ⟨vs, hq, hds⟩ := l.sq (g.2.ex e1)
    refine ⟨_, rfl, ⟨_, hq⟩, for_list (K := K) (xs := vs) (fun i σ' H' => ∃ ρ' μ', I i ρ' μ' ∧ Tk H H' ∧ S K H' σ' ρ' μ') ⟨ρ, μ, h0, Tk.ex e1, g.mono e1⟩ (fun i σ' H' _ w => ?_) (fun i v σ' H' hv w => ?_) fun σ' H' w => ?_⟩
    · obtain ⟨ρ', μ', p, e2, g2⟩ := w
      obtain ⟨vs', hq', hds'⟩ := (hl i ρ' μ' p).sq g2.2
      rw [flat H1 H' vs vs' hds hds'] at hq'
      exact hq'
    · obtain ⟨ρ', μ', p, e2, g2⟩ := w
      obtain ⟨vs', hq', hds'⟩ := (hl i ρ' μ' p).sq g2.2
      rw [flat H1 H' vs vs' hds hds'] at hds'
      obtain ⟨x, hx, dx⟩ := dps_to i hds' hv
      exact hs i x ρ' μ' hx p _ _ H' (g2.put j dx) (fun ρ3 μ3 σ3 H3 p3 e3 g3 => ⟨ρ3, μ3, p3, e2.trans e3, g3⟩) (fun d μ3 v H3 r e3 => hR d μ3 v H3 r (e2.trans e3)) fun c μ3 H3 x e3 => hX c μ3 H3 x (e2.trans e3)
    · obtain ⟨ρ', μ', p, e2, g2⟩ := w
      rw [dps_len hds] at p
      exact hd ρ' μ' p D σ' H' g2 (fun ρ3 μ3 σ3 H3 p3 e3 => hN ρ3 μ3 σ3 H3 p3 (e2.trans e3)) (fun d μ3 v H3 r e3 => hR d μ3 v H3 r (e2.trans e3)) fun c μ3 H3 x e3 => hX c μ3 H3 x (e2.trans e3)
/-! ### promises of defs that change the store -/
def spM (K : Frag) (Wf : List W → Mu → (W → Mu → Prop) → (Value → Mu → Prop) → Prop) : Sp := fun vs H Q E => ∃ ws μ P X, RwAll K H vs ws ∧ Mem K H μ ∧ Wf ws μ P X ∧ (∀ w μ' v H', P w μ' → Tk H H' → Mem K H' μ' → Rw K H' v w → Q v H') ∧ (∀ c μ' H', X c μ' → Tk H H' → Mem K H' μ' → E c none H')
theorem ew_call {Wf : List W → Mu → (W → Mu → Prop) → (Value → Mu → Prop) → Prop} {ta : TA} {xs : List W} (h : EvS K ta ρ μ xs) (hw : Wf xs μ P X) : EvW K E (tCall (spM K Wf) [] E ta) ρ μ P X := fun σ H g Q q hX =>
  h σ H g _ fun vs H1 e1 d1 => by
    show spM K Wf (vs ++ []) H1 Q E
    rw [List.append_nil]
    exact ⟨xs, μ, P, X, d1, g.2.ex e1, hw, fun w μ' v H2 p e2 m2 d2 => q w μ' v H2 p ((Tk.ex e1).trans e2) ⟨g.1.tk ((Tk.ex e1).trans e2), m2⟩ d2, fun c μ' H2 x e2 m2 => hX c μ' H2 x ((Tk.ex e1).trans e2) m2⟩
end
/-! ### defs -/
section
variable {P : Program} {w : World} {K : Frag} {mg : Str → Option Value} {base : Heap}
abbrev FnP (K : Frag) (x : Str) (st : Stmt) (f : Addr) (fd : FuncData) : Prop := L2.FunD K x x (defArgs st) (defBody st) (defScope st) [] [] f fd
def rho0 (n : Nat) (ds : List W) : Rho := ds.map some ++ List.replicate (n - ds.length) none
theorem fn_pure {x : Str} {st : Stmt} {f : Addr} {fd : FuncData} {N ps : List Str} {k : Nat} {Wf : List W → Mu → W → Prop} (F : FnP K x st f fd) (S : FnScope N ps (defScope st)) (len : ∀ ds μ d, Wf ds μ d → ds.length = ps.length)
    (body : ∀ ds μ d, Wf ds μ d → ∀ (cdv : Value) (A : Around) (outer : List PySem.Env) (s : Shared) (H : Hp) (E : XK), Room k (A.deeper (PyProof.Rows.envOfC x (defScope st) s.heap.objs.size f cdv)) →
      ∃ t, PSs (cxOf CX0 P w K mg base N x (defScope st) f cdv A outer s H E).nox (defBody st) t ∧ Run K t (rho0 N.length ds) μ (fun _ => d = .non) (fun e => e = d)) : FnOk P w K mg base CX0 (k + 1) f fd ps (spP K Wf) := by
  refine L2.FunD.ok F S (fun vs H Q E h => ?_) (fun cdv A outer s H vs Q E hr h => ?_)
  · obtain ⟨ds, μ, d, h1, _, h2, _⟩ := h
    rw [dps_len h1]
    exact len ds μ d h2
  · obtain ⟨ds, μ, d, h1, hm, h2, q⟩ := h
    obtain ⟨t, ht, hrun⟩ := body ds μ d h2 cdv A outer s H E hr
    refine ⟨t, PSs.nox ht, hrun _ _ H ⟨dps_start h1, hm⟩ (fun ρ' σ' H' e e1 _ => ?_) fun e v H' q1 e1 dv => ?_⟩
    · subst e
      exact q .non H' e1 .non
    · subst q1
      exact q v H' e1 dv
theorem fn_mut {x : Str} {st : Stmt} {f : Addr} {fd : FuncData} {N ps : List Str} {k : Nat} {Wf : List W → Mu → (W → Mu → Prop) → (Value → Mu → Prop) → Prop} (F : FnP K x st f fd) (S : FnScope N ps (defScope st)) (len : ∀ ds μ Pq X, Wf ds μ Pq X → ds.length = ps.length)
    (body : ∀ ds μ Pq X, Wf ds μ Pq X → ∀ (cdv : Value) (A : Around) (outer : List PySem.Env) (s : Shared) (H : Hp) (E : XK), Room k (A.deeper (PyProof.Rows.envOfC x (defScope st) s.heap.objs.size f cdv)) →
      ∃ t, PSs (cxOf CX0 P w K mg base N x (defScope st) f cdv A outer s H E).nox (defBody st) t ∧ RunM K E t (rho0 N.length ds) μ (fun _ μ' => Pq .non μ') Pq X) : FnOk P w K mg base CX0 (k + 1) f fd ps (spM K Wf) := by
  refine L2.FunD.ok F S (fun vs H Q E h => ?_) (fun cdv A outer s H vs Q E hr h => ?_)
  · obtain ⟨ds, μ, Pq, X, h1, _, h2, _⟩ := h
    rw [dps_len h1]
    exact len ds μ Pq X h2
  · obtain ⟨ds, μ, Pq, X, h1, hm, h2, q, qx⟩ := h
    obtain ⟨t, ht, hrun⟩ := body ds μ Pq X h2 cdv A outer s H E hr
    exact ⟨t, PSs.nox ht, hrun _ _ H ⟨dps_start h1, hm⟩ (fun ρ' μ' σ' H' e e1 g => q .non μ' .non H' e e1 g.2 .non) (fun e μ' v H' q1 e1 m dv => q e μ' v H' q1 e1 m dv) fun c μ' H' x e1 m => qx c μ' H' x e1 m⟩
structure Def (P : Program) (w : World) (K : Frag) (mg : Str → Option Value) (base : Heap) (k : Nat) (x : Str) (ps : List Str) (sp : Sp) : Prop where
  ex : ∃ (f : Addr) (fd : FuncData), FnOk P w K mg base CX0 k f fd ps sp ∧ mg x = some (.ref f) ∧ PySem.W.keepIn K (.ref f) = true ∧ Binds K fd ps []
theorem def_mk {k : Nat} {x : Str} {st : Stmt} {f : Addr} {fd : FuncData} {ps : List Str} {sp : Sp} (F : FnP K x st f fd) (g : mg x = some (.ref f)) (b : Binds K fd ps []) (h : FnOk P w K mg base CX0 k f fd ps sp) : Def P w K mg base k x ps sp := ⟨f, fd, h, g, F.kp, b⟩
end
theorem pe_callD {X : Cx} {k : Nat} {x : Str} {ps : List Str} {sp : Sp} {e : Expr} {es : List Expr} {p pos : Pos} {t : TA} (D : Def X.prog X.w X.K X.mg X.base k x ps sp) (hr : Room k X.A) (hg : Gl X x) (ha : PA X (e :: es) t) (hdb : (x == ("__debug__" : Str)) = false := by decide)
    (he : starEach (e :: es) X.env = (false, eval e X.env) :: starEach es X.env := by rfl) (hpl : (backTo pos (starEach es X.env)).any (·.1) = false := by rfl) : PE X (.Call (.Name x p) (e :: es) [] pos) (tCall sp [] E0 t) := by
  obtain ⟨f, fd, h, g, kp, b⟩ := D.ex
  exact pe_call h hr hg g kp b .nil (fun _ _ _ _ _ _ _ h => h.elim) ha hdb he hpl
theorem pe_callD0 {X : Cx} {k : Nat} {x : Str} {ps : List Str} {sp : Sp} {p pos : Pos} (D : Def X.prog X.w X.K X.mg X.base k x ps sp) (hr : Room k X.A) (hg : Gl X x) (hdb : (x == ("__debug__" : Str)) = false := by decide) : PE X (.Call (.Name x p) [] [] pos) (tCall sp [] E0 tNil) := by
  obtain ⟨f, fd, h, g, kp, b⟩ := D.ex
  exact pe_call0 h hr hg g kp b .nil (fun _ _ _ _ _ _ _ h => h.elim) hdb
theorem pe_callM {X : Cx} {k : Nat} {x : Str} {ps : List Str} {sp : Sp} {e : Expr} {es : List Expr} {p pos : Pos} {t : TA} (E : XK) (D : Def X.prog X.w X.K X.mg X.base k x ps sp) (hr : Room k X.A) (hg : Gl X x) (ha : PA X (e :: es) t) (hdb : (x == ("__debug__" : Str)) = false := by decide)
    (he : starEach (e :: es) X.env = (false, eval e X.env) :: starEach es X.env := by rfl) (hpl : (backTo pos (starEach es X.env)).any (·.1) = false := by rfl) : PE X (.Call (.Name x p) (e :: es) [] pos) (tCall sp [] E t) := by
  obtain ⟨f, fd, h, g, kp, b⟩ := D.ex
  exact pe_call h hr hg g kp b .nil (fun _ _ _ _ _ _ _ h => h.elim) ha hdb he hpl
theorem pe_callM0 {X : Cx} {k : Nat} {x : Str} {ps : List Str} {sp : Sp} {p pos : Pos} (E : XK) (D : Def X.prog X.w X.K X.mg X.base k x ps sp) (hr : Room k X.A) (hg : Gl X x) (hdb : (x == ("__debug__" : Str)) = false := by decide) : PE X (.Call (.Name x p) [] [] pos) (tCall sp [] E tNil) := by
  obtain ⟨f, fd, h, g, kp, b⟩ := D.ex
  exact pe_call0 h hr hg g kp b .nil (fun _ _ _ _ _ _ _ h => h.elim) hdb
/-- the script -/
def scr (ns : List Int) : O := .rl (ns.map W.int)
end Pw

/-! what the laws draw, as functions over ints and texts -/
namespace Pd
open PySem L2 Evl
/-- the cell of the script -/
def cell (ns : List Int) (k : Int) : Int := if k < (ns.length : Int) then ns.getD k.toNat 0 else 0
def rich (c k : Int) : Int :=
  if (10 : Int) ^ (18 : Int).toNat ≤ c then c else
    (c * 48271 + k * 69621 + 11) % 2147483647 * 2147483629 + ((c * 48271 + k * 69621 + 11) % 2147483647 * 16807 + c) % 2147483629
def sign (ch : Str) (r : Int) : Nat := ch.cps.toList.getD (r % (ch.length : Int)).toNat 0
/-- the word so far and the rest of the seed -/
def wst (ch : Str) (seed : Int) : Nat → Str × Int
  | 0 => ("", seed)
  | n + 1 => ((wst ch seed n).1 ++ ⟨#[sign ch (wst ch seed n).2]⟩, (wst ch seed n).2 / (ch.length : Int))
def word (n : Int) (ch : Str) (seed : Int) : Str := (wst ch seed n.toNat).1
theorem len_app (x y : Str) : (x ++ y).length = x.length + y.length := by
  show (x.cps ++ y.cps).size = _
  rw [Array.size_append]
  rfl
theorem wst_len (ch : Str) (seed : Int) : ∀ n, (wst ch seed n).1.length = n
  | 0 => rfl
  | n + 1 => by
    show ((wst ch seed n).1 ++ (⟨#[sign ch (wst ch seed n).2]⟩ : Str)).length = n + 1
    rw [len_app, wst_len ch seed n]
    rfl
def keys8 : List Str := ["a", "b", "c", "d", "k", "m", "kk", "z"]
def abc : Str := "abcdefghijklmnopqrstuvwxyz"
def keyF (r : Int) : Str := if r % 4 < 3 then keys8.getD (r / 4 % 8).toNat "" else word (1 + r / 4 % 8) abc (r / 32)
def boundF (r : Int) : Str := if r % 6 = 5 then "" else keyF (r / 6)
/-- None or a text, as data -/
def oD : Option Str → PyData
  | none => .none
  | some x => .str x
def rangeF (r : Int) : Str × Option Str :=
  if boundF r = boundF (r / 1000) ∨ r / 7 % 5 = 0 then (boundF r, none) else (sMin (boundF r) (boundF (r / 1000)), some (sMax (boundF r) (boundF (r / 1000))))
def belowF : Option Str → Option Str → Bool
  | none, _ => false
  | some _, none => true
  | some x, some y => sLt x y
/-! the order of texts -/
theorem sLt_irr (x : Str) : sLt x x = false := by
  unfold sLt
  exact decide_eq_false (List.lt_irrefl _)
theorem sLt_tr {x y z : Str} (h1 : sLt x y = true) (h2 : sLt y z = true) : sLt x z = true := by
  unfold sLt at *
  exact decide_eq_true (List.lt_trans (of_decide_eq_true h1) (of_decide_eq_true h2))
theorem str_eq {x y : Str} (h : x.cps.toList = y.cps.toList) : x = y := by
  cases x
  cases y
  exact congrArg _ (Array.toList_inj.mp h)
theorem sLt_tri (x y : Str) : sLt x y = true ∨ x = y ∨ sLt y x = true := by
  unfold sLt
  by_cases h1 : x.cps.toList < y.cps.toList
  · exact .inl (decide_eq_true h1)
  · by_cases h2 : y.cps.toList < x.cps.toList
    · exact .inr (.inr (decide_eq_true h2))
    · exact .inr (.inl (str_eq (List.le_antisymm (List.not_lt.mp h2) (List.not_lt.mp h1))))
theorem sLt_as {x y : Str} (h : sLt x y = true) : sLt y x = false := by
  cases e : sLt y x with
  | false => rfl
  | true =>
    have q := sLt_tr h e
    rw [sLt_irr] at q
    cases q
end Pd

namespace Pw
open PySem L2 Evl
section
variable {K : Frag} {ρ : Rho} {μ : Mu} {ta tb tc te : TE} {t u : TT} {d e : W}
theorem ty_of {w : W} {d : PyData} (h : Dw μ w d) : Ty μ w (Pd.tyN d) := by
  cases h with
  | non => exact .non
  | bl => exact .bl
  | int => exact .int
  | str => exact .str
  | tup h => exact .tup
  | lst l h => exact .lst l
/-- no dict -/
def notD : PyData → Prop
  | .dict _ => False
  | _ => True
theorem dw_notD {w : W} {d : PyData} (h : Dw μ w d) : notD d := by cases h <;> trivial
theorem kit_str (d : PyData) (h : notD d) : kitB (Pd.tyN d) "str" = some (Pd.tyN d == "str") := by
  cases d with
  | none => exact (show kitB "NoneType" "str" = some ("NoneType" == "str") by decide +kernel)
  | bool b => exact (show kitB "bool" "str" = some ("bool" == "str") by decide +kernel)
  | int i => exact (show kitB "int" "str" = some ("int" == "str") by decide +kernel)
  | str x => exact (show kitB "str" "str" = some ("str" == "str") by decide +kernel)
  | list x => exact (show kitB "list" "str" = some ("list" == "str") by decide +kernel)
  | tuple x => exact (show kitB "tuple" "str" = some ("tuple" == "str") by decide +kernel)
  | dict x => exact h.elim
theorem kit_tuple (d : PyData) (h : notD d) : kitB (Pd.tyN d) "tuple" = some (Pd.tyN d == "tuple") := by
  cases d with
  | none => exact (show kitB "NoneType" "tuple" = some ("NoneType" == "tuple") by decide +kernel)
  | bool b => exact (show kitB "bool" "tuple" = some ("bool" == "tuple") by decide +kernel)
  | int i => exact (show kitB "int" "tuple" = some ("int" == "tuple") by decide +kernel)
  | str x => exact (show kitB "str" "tuple" = some ("str" == "tuple") by decide +kernel)
  | list x => exact (show kitB "list" "tuple" = some ("list" == "tuple") by decide +kernel)
  | tuple x => exact (show kitB "tuple" "tuple" = some ("tuple" == "tuple") by decide +kernel)
  | dict x => exact h.elim
theorem kit_bool (d : PyData) (h : notD d) : kitB (Pd.tyN d) "bool" = some (Pd.tyN d == "bool") := by
  cases d with
  | none => exact (show kitB "NoneType" "bool" = some ("NoneType" == "bool") by decide +kernel)
  | bool b => exact (show kitB "bool" "bool" = some ("bool" == "bool") by decide +kernel)
  | int i => exact (show kitB "int" "bool" = some ("int" == "bool") by decide +kernel)
  | str x => exact (show kitB "str" "bool" = some ("str" == "bool") by decide +kernel)
  | list x => exact (show kitB "list" "bool" = some ("list" == "bool") by decide +kernel)
  | tuple x => exact (show kitB "tuple" "bool" = some ("tuple" == "bool") by decide +kernel)
  | dict x => exact h.elim
theorem kit_int (d : PyData) (h : notD d) : kitB (Pd.tyN d) "int" = some (Pd.tyN d == "int" || Pd.tyN d == "bool") := by
  cases d with
  | none => exact (show kitB "NoneType" "int" = some ("NoneType" == "int" || "NoneType" == "bool") by decide +kernel)
  | bool b => exact (show kitB "bool" "int" = some ("bool" == "int" || "bool" == "bool") by decide +kernel)
  | int i => exact (show kitB "int" "int" = some ("int" == "int" || "int" == "bool") by decide +kernel)
  | str x => exact (show kitB "str" "int" = some ("str" == "int" || "str" == "bool") by decide +kernel)
  | list x => exact (show kitB "list" "int" = some ("list" == "int" || "list" == "bool") by decide +kernel)
  | tuple x => exact (show kitB "tuple" "int" = some ("tuple" == "int" || "tuple" == "bool") by decide +kernel)
  | dict x => exact h.elim
theorem ed_isStr {x : W} {d : PyData} (h : EvD K ta ρ μ x) (z : Dw μ x d) : EvD K (tCB (rIsi K) (tCons ta (tCons (tC (.ty "str")) tNil))) ρ μ (.bl (Pd.tyN d == "str")) := ed_isi h (ty_of z) (kit_str d (dw_notD z))
theorem ed_isTuple {x : W} {d : PyData} (h : EvD K ta ρ μ x) (z : Dw μ x d) : EvD K (tCB (rIsi K) (tCons ta (tCons (tC (.ty "tuple")) tNil))) ρ μ (.bl (Pd.tyN d == "tuple")) := ed_isi h (ty_of z) (kit_tuple d (dw_notD z))
theorem ed_isBool {x : W} {d : PyData} (h : EvD K ta ρ μ x) (z : Dw μ x d) : EvD K (tCB (rIsi K) (tCons ta (tCons (tC (.ty "bool")) tNil))) ρ μ (.bl (Pd.tyN d == "bool")) := ed_isi h (ty_of z) (kit_bool d (dw_notD z))
theorem ed_isInt {x : W} {d : PyData} (h : EvD K ta ρ μ x) (z : Dw μ x d) : EvD K (tCB (rIsi K) (tCons ta (tCons (tC (.ty "int")) tNil))) ρ μ (.bl (Pd.tyN d == "int" || Pd.tyN d == "bool")) := ed_isi h (ty_of z) (kit_int d (dw_notD z))
theorem is_str {d : PyData} (h : (Pd.tyN d == "str") = true) : ∃ x, d = .str x := by
  cases d with
  | none => exact absurd h (show ¬ ("NoneType" == "str") = true by decide)
  | bool b => exact absurd h (show ¬ ("bool" == "str") = true by decide)
  | int i => exact absurd h (show ¬ ("int" == "str") = true by decide)
  | str x => exact ⟨_, rfl⟩
  | list x => exact absurd h (show ¬ ("list" == "str") = true by decide)
  | tuple x => exact absurd h (show ¬ ("tuple" == "str") = true by decide)
  | dict x => exact absurd h (show ¬ ("dict" == "str") = true by decide)
theorem is_tuple {d : PyData} (h : (Pd.tyN d == "tuple") = true) : ∃ x, d = .tuple x := by
  cases d with
  | none => exact absurd h (show ¬ ("NoneType" == "tuple") = true by decide)
  | bool b => exact absurd h (show ¬ ("bool" == "tuple") = true by decide)
  | int i => exact absurd h (show ¬ ("int" == "tuple") = true by decide)
  | str x => exact absurd h (show ¬ ("str" == "tuple") = true by decide)
  | list x => exact absurd h (show ¬ ("list" == "tuple") = true by decide)
  | tuple x => exact ⟨_, rfl⟩
  | dict x => exact absurd h (show ¬ ("dict" == "tuple") = true by decide)
theorem dw_len : ∀ {ws : List W} {ds : List PyData}, DwAll μ ws ds → ws.length = ds.length
  | _, _, .nil => rfl
  | _, _, .cons _ h => congrArg Nat.succ (dw_len h)
theorem dw_at : ∀ {ws : List W} {ds : List PyData} (i : Nat) {d : PyData}, DwAll μ ws ds → ds[i]? = some d → ∃ w, ws[i]? = some w ∧ Dw μ w d
  | _, _, i, d, .nil, e => by simp at e
  | _, _, 0, d, .cons h _, e => by
    cases e
    exact ⟨_, rfl, h⟩
  | _, _, i + 1, d, .cons _ hs, e => dw_at i hs e
theorem dw_to : ∀ {ws : List W} {ds : List PyData} (i : Nat) {w : W}, DwAll μ ws ds → ws[i]? = some w → ∃ d, ds[i]? = some d ∧ Dw μ w d
  | _, _, i, d, .nil, e => by simp at e
  | _, _, 0, d, .cons h _, e => by
    cases e
    exact ⟨_, rfl, h⟩
  | _, _, i + 1, d, .cons _ hs, e => dw_to i hs e
/-- ord -/
def rOrd : List V → Hp → VK → Prop := fun xs H Q => ∃ x, xs = [.str x] ∧ x.length = 1 ∧ Q (.int (x.cps.getD 0 0 : Nat)) H
theorem cr_ord {X : Cx} : CallR X (.builtin "ord") rOrd := call_ord
theorem ed_ord {ta : TA} {c : Nat} (h : EvS K ta ρ μ [.str ⟨#[c]⟩]) : EvD K (tCB rOrd ta) ρ μ (.int (c : Int)) := ed_cb h fun H vs Q d1 k => by
  obtain ⟨v, rfl, dv⟩ := dps1 d1
  cases dv
  exact ⟨_, rfl, rfl, k _ H (Ex.refl H) (.int _)⟩
def rInC : R2 := fun x y H Q => ∃ (c : Nat) (z : Str), x = .str ⟨#[c]⟩ ∧ y = .str z ∧ Q (.bl (decide (c ∈ z.cps.toList))) H
def rNotInC : R2 := fun x y H Q => ∃ (c : Nat) (z : Str), x = .str ⟨#[c]⟩ ∧ y = .str z ∧ Q (.bl (!decide (c ∈ z.cps.toList))) H
theorem op_inC {X : Cx} : OpR X (compareOp .In) rInC := op_in_sign
theorem op_notInC {X : Cx} : OpR X (compareOp .NotIn) rNotInC := op_notIn_sign
/-- one sign in a text -/
theorem ed_inC {c : Nat} {z : Str} (ha : EvD K ta ρ μ (.str ⟨#[c]⟩)) (hb : EvD K tb ρ μ (.str z)) : EvD K (tOp rInC ta tb) ρ μ (.bl (decide (c ∈ z.cps.toList))) := ed_two ha hb fun H v w Q dv dw k => by
  cases dv
  cases dw
  exact ⟨c, z, rfl, rfl, k _ H (Ex.refl H) (.bl _)⟩
theorem ed_notinC {c : Nat} {z : Str} (ha : EvD K ta ρ μ (.str ⟨#[c]⟩)) (hb : EvD K tb ρ μ (.str z)) : EvD K (tOp rNotInC ta tb) ρ μ (.bl (!decide (c ∈ z.cps.toList))) := ed_two ha hb fun H v w Q dv dw k => by
  cases dv
  cases dw
  exact ⟨c, z, rfl, rfl, k _ H (Ex.refl H) (.bl _)⟩
/-- the last item -/
theorem ed_lastT {xs : List W} {x : W} (ha : EvD K ta ρ μ (.tup xs)) (hb : EvD K tb ρ μ (.int (-1))) (hx : xs.getLast? = some x) : EvD K (tOp (rIxT K) ta tb) ρ μ x := ed_two ha hb fun H v w Q dv dw k => by
  cases dw
  cases dv with
  | tup h hs =>
    have hl := dps_len hs
    have hne : xs ≠ [] := fun q => by
      rw [q] at hx
      cases hx
    have hp : 0 < xs.length := List.length_pos_iff.mpr hne
    rw [List.getLast?_eq_getElem?] at hx
    obtain ⟨v, e1, e2⟩ := dps_at (xs.length - 1) hs hx
    rw [← hl] at e1
    refine ⟨_, _, -1, v, rfl, rfl, h, ?_, k v H (Ex.refl H) e2⟩
    unfold atI ixN
    rw [if_neg (by decide), if_pos (by omega)]
    show _ = some v
    rw [← e1]
    show _[_]? = _
    congr 1
    omega
/-! dicts of the text -/
/-- the table at a: its keys, its values -/
structure KTab (K : Frag) (w : World) (a : Addr) (kvs : List (Str × V)) : Prop where
  dct : ∃ es n, KDict K w a es n
  out : ∀ z, z ∉ kvs.map (·.1) → PySem.W.nsIn K a z = some none
  at_ : ∀ p ∈ kvs, ∃ u, PySem.W.nsIn K a p.1 = some (some u) ∧ RelV p.2 u
def rNotInK (K : Frag) (a : Addr) : R2 := fun x y H Q => ∃ (z : Str) (r : Option Value), x = .str z ∧ y = .ref a ∧ PySem.W.nsIn K a z = some r ∧ Q (.bl (!r.isSome)) H
theorem op_notInK {X : Cx} {a : Addr} {kvs : List (Str × V)} (T : KTab X.K X.w a kvs) : OpR X (compareOp .NotIn) (rNotInK X.K a) := by
  obtain ⟨es, n, D⟩ := T.dct
  exact op_notIn_kd D
theorem ed_notInK {w : World} {a : Addr} {kvs : List (Str × V)} {z : Str} (T : KTab K w a kvs) (ha : EvD K ta ρ μ (.str z)) : EvD K (tOp (rNotInK K a) ta (tC (.ref a))) ρ μ (.bl (!decide (z ∈ kvs.map (·.1)))) := fun σ H g Q q =>
  ha σ H g _ fun v H1 e1 d1 => by
    cases d1
    by_cases hz : z ∈ kvs.map (·.1)
    · obtain ⟨p, hp, rfl⟩ := List.mem_map.mp hz
      obtain ⟨u, hu, _⟩ := T.at_ p hp
      refine ⟨p.1, some u, rfl, rfl, hu, ?_⟩
      rw [decide_eq_true hz] at q
      exact q _ H1 e1 (.bl _)
    · refine ⟨z, none, rfl, rfl, T.out z hz, ?_⟩
      rw [decide_eq_false hz] at q
      exact q _ H1 e1 (.bl _)
/-- x = TABLE[k] (a def), then return x(..) -/
theorem run_disp {w : World} {a : Addr} {kvs : List (Str × V)} {z : Str} {f : Addr} {i : Nat} {Wf : List W → Mu → W → Prop} {ta : TA} {xs : List W} {x : W} {N : Rho → Prop} {R : W → Prop} (T : KTab K w a kvs) (hz : (z, V.ref f) ∈ kvs) (hk : EvD K tb ρ μ (.str z)) (hi : i < ρ.length)
    (h : EvS K ta (ρ.set i none) μ xs) (hw : Wf xs μ x) (hr : R x) : Run K (tSeq (tAsg (tOp (rIxD K w) (tC (.ref a)) tb) (gName i)) (tRet (tCallL i f (spP K Wf) [] E0 ta))) ρ μ N R := fun D σ H g hN hR =>
  hk σ H g _ fun v H1 e1 d1 => by
    cases d1
    obtain ⟨es, n, KD⟩ := T.dct
    obtain ⟨u, hu, ru⟩ := T.at_ _ hz
    refine ⟨a, z, .ref f, rfl, rfl, ⟨es, n, u, KD.at_, KD.lit, hu, ru⟩, ?_⟩
    have g1 := (g.mono e1).hide (v := some (.ref f)) i
    refine ⟨by rw [List.getElem?_set, if_pos rfl, if_pos (by rw [g.1.1]; exact hi)], h _ H1 g1 _ fun vs H2 e2 d2 => ?_⟩
    show spP K Wf (vs ++ []) H2 _ E0
    rw [List.append_nil]
    exact ⟨xs, μ, x, d2, g1.2.ex e2, hw, fun v H3 e3 d3 => hR x v H3 hr ((e1.trans e2).trans e3) d3⟩
end
theorem pe_callDL {X : Cx} {k i : Nat} {x y : Str} {ps : List Str} {sp : Sp} {e : Expr} {es : List Expr} {p pos : Pos} {t : TA} (D : Def X.prog X.w X.K X.mg X.base k y ps sp) (hr : Room k X.A) (hN : X.N[i]? = some x) (hv : Vis X.env.scope x) (ha : PA X (e :: es) t)
    (hdb : (x == ("__debug__" : Str)) = false := by decide) (hcd : (x == ("__classdict__" : Str)) = false := by decide)
    (he : starEach (e :: es) X.env = (false, eval e X.env) :: starEach es X.env := by rfl) (hpl : (backTo pos (starEach es X.env)).any (·.1) = false := by rfl) : ∃ f, X.mg y = some (.ref f) ∧ PE X (.Call (.Name x p) (e :: es) [] pos) (tCallL i f sp [] E0 t) := by
  obtain ⟨f, fd, h, g, kp, b⟩ := D.ex
  exact ⟨f, g, pe_callL h hr hN hv kp b .nil (fun _ _ _ _ _ _ _ h => h.elim) ha hdb hcd he hpl⟩
end Pw

/-! the forms of the document, told over data -/
namespace Pw
open PySem L2 Evl
open Pd (sLt abc)
def one (c : Nat) : Str := ⟨#[c]⟩
def inAZ (c : Nat) : Bool := !sLt (one c) "a" && !sLt "z" (one c)
def inPr (c : Nat) : Bool := (!sLt (one c) " " && !sLt "~" (one c)) && !decide ((c : Int) = 37)
def keyS (x : Str) : Bool := (decide ((1 : Int) ≤ (x.length : Int)) && decide ((x.length : Int) ≤ 8)) && x.cps.toList.all inAZ
def keyB : PyData → Bool
  | .str x => keyS x
  | _ => false
def prB : PyData → Bool
  | .str x => x.cps.toList.all inPr
  | _ => false
def valB : PyData → Bool
  | .str x => x.cps.toList.all inPr && decide ((x.length : Int) ≤ 40)
  | _ => false
def kindS : PyData → Str
  | .tuple (.str x :: _) => x
  | _ => ""
def pairB : PyData → Bool
  | .tuple [a, b] => keyB a && valB b
  | _ => false
/-- the key of a pair -/
def headK : PyData → Str
  | .tuple (.str k :: _) => k
  | _ => ""
/-- ascending keys from last on -/
def pairsFrom (last : Str) : List PyData → Bool
  | [] => true
  | d :: r => pairB d && (sLt last (headK d) && pairsFrom (headK d) r)
def pairsB : PyData → Bool
  | .tuple ds => pairsFrom "" ds
  | _ => false
def boundB : PyData → Bool
  | .str x => keyS x || decide (x = "")
  | _ => false
theorem lt_one {a b : Nat} : sLt (one a) (one b) = decide (a < b) := by
  unfold sLt one
  simp [List.cons_lt_cons_iff]
theorem s1 (c : Nat) : (⟨#[c]⟩ : Str) = one c := rfl
theorem az_iff (c : Nat) : inAZ c = decide (97 ≤ c ∧ c ≤ 122) := by
  unfold inAZ
  rw [show ("a" : Str) = one 97 from by decide +kernel, show ("z" : Str) = one 122 from by decide +kernel, lt_one, lt_one]
  rw [Bool.eq_iff_iff]
  simp only [Bool.and_eq_true, Bool.not_eq_true', decide_eq_false_iff_not, decide_eq_true_eq]
  omega
theorem pr_iff (c : Nat) : inPr c = decide ((32 ≤ c ∧ c ≤ 126) ∧ c ≠ 37) := by
  unfold inPr
  rw [show (" " : Str) = one 32 from by decide +kernel, show ("~" : Str) = one 126 from by decide +kernel, lt_one, lt_one]
  rw [Bool.eq_iff_iff]
  simp only [Bool.and_eq_true, Bool.not_eq_true', decide_eq_false_iff_not, decide_eq_true_eq]
  omega
def printable : Str := " !\"#$&'()*+,-./0123456789:;<=>?@ABCDEFGHIJKLMNOPQRSTUVWXYZ[\\]^_`abcdefghijklmnopqrstuvwxyz{|}~"
theorem abc_cps : abc.cps.toList = (List.range 26).map (· + 97) := by decide +kernel
theorem pr_cps : printable.cps.toList = ((List.range 5).map (· + 32)) ++ ((List.range 89).map (· + 38)) := by decide +kernel
theorem in_abc (c : Nat) : decide (c ∈ abc.cps.toList) = inAZ c := by
  rw [az_iff, abc_cps]
  apply decide_eq_decide.mpr
  rw [List.mem_map]
  constructor
  · rintro ⟨a, ha, rfl⟩
    rw [List.mem_range] at ha
    omega
  · rintro ⟨h1, h2⟩
    exact ⟨c - 97, by rw [List.mem_range]; omega, by omega⟩
theorem in_pr (c : Nat) : decide (c ∈ printable.cps.toList) = inPr c := by
  rw [pr_iff, pr_cps]
  apply decide_eq_decide.mpr
  rw [List.mem_append, List.mem_map, List.mem_map]
  constructor
  · rintro (⟨a, ha, rfl⟩ | ⟨a, ha, rfl⟩) <;> rw [List.mem_range] at ha <;> omega
  · rintro ⟨⟨h1, h2⟩, h3⟩
    by_cases h : c < 37
    · exact .inl ⟨c - 32, by rw [List.mem_range]; omega, by omega⟩
    · exact .inr ⟨c - 38, by rw [List.mem_range]; omega, by omega⟩
theorem all_false {p : Nat → Bool} {l : List Nat} {i c : Nat} (h : l[i]? = some c) (hp : p c = false) : l.all p = false := by
  cases e : l.all p with
  | false => rfl
  | true =>
    have q := List.all_eq_true.mp e c (List.mem_of_getElem? h)
    rw [hp] at q
    cases q
theorem all_take {p : Nat → Bool} {l : List Nat} {i c : Nat} (h : l[i]? = some c) (h1 : (l.take i).all p = true) (hp : p c = true) : (l.take (i + 1)).all p = true := by
  rw [List.take_add_one, h, List.all_append, h1]
  simp [hp]
/-! all signs of a text -/
section
variable {K : Frag} {ρ : Rho} {μ : Mu} {te : TE} {t : TT} {t2 : TS} {N : Rho → Prop} {R : W → Prop}
/-- for c in text: if not p(c): return False -/
theorem run_allS {j : Nat} {z : Str} (p : Nat → Bool) (h : EvD K te ρ μ (.str z)) (ht : ∀ c, EvC K t (ρ.set j (some (.str ⟨#[c]⟩))) μ (!p c)) (hf : z.cps.toList.all p = false → R (.bl false))
    (hd : z.cps.toList.all p = true → ∀ ρ', (ρ' = ρ ∨ ∃ x, ρ' = ρ.set j x) → Run K t2 ρ' μ N R) : Run K (tSeq (tFor (iStr te) (gName j) (tIfS t (tRet (tC (.bl false))) tNext)) t2) ρ μ N R := by
  refine run_forS h (fun i ρ' => (ρ' = ρ ∨ ∃ x, ρ' = ρ.set j x) ∧ (z.cps.toList.take i).all p = true) ⟨.inl rfl, rfl⟩ (fun i c ρ' hc hI => ?_) (fun ρ' hI => ?_)
  · have e : ρ'.set j (some (.str ⟨#[c]⟩)) = ρ.set j (some (.str ⟨#[c]⟩)) := by
      rcases hI.1 with q | ⟨x, q⟩ <;> rw [q]
      rw [List.set_set]
    rw [e]
    refine run_if (ht c) (fun q => ?_) (fun q => run_next ⟨.inr ⟨_, rfl⟩, all_take hc hI.2 ?_⟩)
    · refine run_ret ed_bl (hf (all_false hc ?_))
      cases v : p c with
      | false => rfl
      | true =>
        rw [v] at q
        cases q
    · cases v : p c with
      | true => rfl
      | false =>
        rw [v] at q
        cases q
  · refine hd ?_ ρ' hI.1
    have q := hI.2
    rw [List.take_length] at q
    exact q
end
/-! good data: every text is short and of signs that there are -/
def okS (x : Str) : Prop := x.length ≤ 1000 ∧ PyData.strOk x = true
mutual
def okD : PyData → Prop
  | .str x => okS x
  | .list xs | .tuple xs => okDs xs
  | .dict _ => False
  | _ => True
def okDs : List PyData → Prop
  | [] => True
  | d :: ds => okD d ∧ okDs ds
end
theorem okDs_at : ∀ {ds : List PyData} {i : Nat} {d : PyData}, okDs ds → ds[i]? = some d → okD d
  | [], i, d, _, h => by simp at h
  | a :: r, 0, d, h, e => by
    cases e
    unfold okDs at h
    exact h.1
  | a :: r, i + 1, d, h, e => by
    unfold okDs at h
    exact okDs_at h.2 (by simpa using e)
end Pw

namespace Pw
open PySem L2 Evl
open Pd (sLt abc)
def oW : Option Str → W
  | none => .non
  | some x => .str x
def toldB : List PyData → Bool
  | [_, v] => valB v
  | _ => false
/-- the last key of pairs, or what stood before -/
def lastKey (last : Str) : List PyData → Str
  | [] => last
  | d :: r => lastKey (headK d) r
def pageB : List PyData → Bool
  | [_, .tuple ps, f] => (pairsFrom "" ps && decide ((ps.length : Int) ≤ 50)) && ((match f with
    | .none => true
    | .str y => keyS y && sLt (lastKey "" ps) y
    | _ => false))
  | _ => false
theorem nstr_key {d : PyData} (h : (Pd.tyN d == "str") = false) : keyB d = false := by
  cases d <;> first | rfl | exact absurd h (show ¬ ("str" == "str") = false by decide) | exact absurd h (show ¬ ("tuple" == "tuple") = false by decide)
theorem nstr_pr {d : PyData} (h : (Pd.tyN d == "str") = false) : prB d = false := by
  cases d <;> first | rfl | exact absurd h (show ¬ ("str" == "str") = false by decide) | exact absurd h (show ¬ ("tuple" == "tuple") = false by decide)
theorem nstr_val {d : PyData} (h : (Pd.tyN d == "str") = false) : valB d = false := by
  cases d <;> first | rfl | exact absurd h (show ¬ ("str" == "str") = false by decide) | exact absurd h (show ¬ ("tuple" == "tuple") = false by decide)
theorem ntup_pair {d : PyData} (h : (Pd.tyN d == "tuple") = false) : pairB d = false := by
  cases d <;> first | rfl | exact absurd h (show ¬ ("str" == "str") = false by decide) | exact absurd h (show ¬ ("tuple" == "tuple") = false by decide)
theorem ntup_pairs {d : PyData} (h : (Pd.tyN d == "tuple") = false) : pairsB d = false := by
  cases d <;> first | rfl | exact absurd h (show ¬ ("str" == "str") = false by decide) | exact absurd h (show ¬ ("tuple" == "tuple") = false by decide)
theorem ntup_kind {d : PyData} (h : (Pd.tyN d == "tuple") = false) : kindS d = "" := by
  cases d <;> first | rfl | exact absurd h (show ¬ ("str" == "str") = false by decide) | exact absurd h (show ¬ ("tuple" == "tuple") = false by decide)
theorem nn {a : Bool} (h : (!a) = false) : a = true := by
  cases a
  · cases h
  · rfl
theorem nt {a : Bool} (h : (!a) = true) : a = false := by
  cases a
  · rfl
  · cases h
theorem okS_sz {x : Str} (h : okS x) : x.length ≤ sizeLine := sz_of (Nat.le_trans h.1 (by decide))
theorem okD_str {x : Str} (h : okD (.str x)) : okS x := by
  unfold okD at h
  exact h
theorem okD_tup {ds : List PyData} (h : okD (.tuple ds)) : okDs ds := by
  unfold okD at h
  exact h
/-- a pair as it is told -/
theorem pairB_iff {d : PyData} : pairB d = true ↔ ∃ k v, d = .tuple [.str k, .str v] ∧ keyS k = true ∧ valB (.str v) = true := by
  constructor
  · intro h
    unfold pairB at h
    split at h
    · rename_i a b
      obtain ⟨h1, h2⟩ := Bool.and_eq_true_iff.mp h
      cases a with
      | str k =>
        cases b with
        | str v => exact ⟨k, v, rfl, h1, h2⟩
        | _ => cases h2
      | _ => cases h1
    · cases h
  · rintro ⟨k, v, rfl, h1, h2⟩
    unfold pairB
    exact Bool.and_eq_true_iff.mpr ⟨h1, h2⟩
theorem keyS_pos {y : Str} (h : keyS y = true) : sLt "" y = true := by
  unfold keyS at h
  have h1 := of_decide_eq_true (Bool.and_eq_true_iff.mp (Bool.and_eq_true_iff.mp h).1).1
  unfold sLt
  apply decide_eq_true
  have e : y.cps.toList.length = y.length := Array.length_toList
  cases q : y.cps.toList with
  | nil =>
    rw [q] at e
    have e : 0 = y.length := e
    omega
  | cons a r =>
    show ([] : List Nat) < a :: r
    exact List.nil_lt_cons _ _
/-- the last pair of a good row of pairs -/
theorem last_pair {μ : Mu} : ∀ {ps : List PyData} {ws : List W} {last : Str}, DwAll μ ws ps → pairsFrom last ps = true → ps ≠ [] →
    ∃ (wl : List W) (v : W) (kk : Str), ws.getLast? = some (.tup wl) ∧ wl[(0 : Int).toNat]? = some (.str kk) ∧ lastKey last ps = kk
  | [], _, _, _, _, h => absurd rfl h
  | [d], _, last, .cons zd .nil, hp, _ => by
    have hp2 : (pairB d && (sLt last (headK d) && true)) = true := hp
    obtain ⟨k, v, rfl, _, _⟩ := pairB_iff.mp (Bool.and_eq_true_iff.mp hp2).1
    cases zd with
    | tup zz =>
    cases zz with
    | cons za zb =>
    cases za
    exact ⟨_, .non, k, rfl, rfl, rfl⟩
  | d :: e :: r, _, last, .cons zd zr, hp, _ => by
    have hp2 : (pairB d && (sLt last (headK d) && pairsFrom (headK d) (e :: r))) = true := hp
    obtain ⟨wl, v, kk, h1, h2, h3⟩ := last_pair zr (Bool.and_eq_true_iff.mp (Bool.and_eq_true_iff.mp hp2).2).2 (by simp)
    refine ⟨wl, v, kk, ?_, h2, h3⟩
    cases zr with
    | cons a b =>
    rw [List.getLast?_cons_cons]
    exact h1
end Pw

/-! lists on the way: sorted, comprehensions, tuple(..) -/
namespace Pw
open PySem L2 Evl
open Pd (sLt)
/-- the order of texts is total, so a sorted arrangement is the only one -/
def leS (a b : Str) : Bool := !sLt b a
theorem leS_tr (a b c : Str) (h1 : leS a b = true) (h2 : leS b c = true) : leS a c = true := by
  unfold leS at *
  cases q : sLt c a with
  | false => rfl
  | true =>
    rcases Pd.sLt_tri b c with h | h | h
    · have := Pd.sLt_tr h q
      rw [this] at h1
      cases h1
    · subst h
      rw [q] at h1
      cases h1
    · rw [h] at h2
      cases h2
theorem leS_tot (a b : Str) : (leS a b || leS b a) = true := by
  unfold leS
  rcases Pd.sLt_tri a b with h | h | h
  · rw [Pd.sLt_as h]
    rfl
  · subst h
    rw [Pd.sLt_irr]
    rfl
  · rw [h, Pd.sLt_as h]
    rfl
theorem leS_anti {a b : Str} (h1 : leS a b = true) (h2 : leS b a = true) : a = b := by
  unfold leS at *
  rcases Pd.sLt_tri a b with h | h | h
  · rw [h] at h2
    cases h2
  · exact h
  · rw [h] at h1
    cases h1
def sortS (ks : List Str) : List Str := ks.mergeSort leS
theorem sortS_perm (ks : List Str) : (sortS ks).Perm ks := List.mergeSort_perm ks leS
theorem sortS_pw (ks : List Str) : (sortS ks).Pairwise (fun a b => leS a b = true) := List.pairwise_mergeSort leS_tr leS_tot ks
theorem rising_pw : ∀ (p : Str) (l : List Str), PyProof.Rows.risingS p l = true → (p :: l).Pairwise (fun a b => leS a b = true)
  | p, [], _ => by simp
  | p, x :: r, h => by
    unfold PyProof.Rows.risingS at h
    obtain ⟨h1, h2⟩ := Bool.and_eq_true_iff.mp h
    have ih := rising_pw x r h2
    have hpx : leS p x = true := by
      unfold leS Pd.sLt
      rw [PyProof.Rows.lt_meets]
      exact h1
    refine List.pairwise_cons.mpr ⟨fun y hy => ?_, ih⟩
    rcases List.mem_cons.mp hy with e | e
    · rw [e]
      exact hpx
    · exact leS_tr p x y hpx ((List.pairwise_cons.mp ih).1 y e)
theorem sorted_pw {l : List Str} (h : PyProof.Rows.sortedS l = true) : l.Pairwise (fun a b => leS a b = true) := by
  cases l with
  | nil => exact List.Pairwise.nil
  | cons x r => exact rising_pw x r h
theorem pw_only {a b : List Str} (hp : a.Perm b) (ha : a.Pairwise (fun a b => leS a b = true)) (hb : b.Pairwise (fun a b => leS a b = true)) : a = b :=
  List.Perm.eq_of_pairwise (le := fun a b => leS a b = true) (fun _ _ _ _ h1 h2 => leS_anti h1 h2) ha hb hp
theorem sorted_only {ks ys : List Str} (hp : ys.Perm ks) (h : PyProof.Rows.sortedS ys = true) : ys = sortS ks := pw_only (hp.trans (sortS_perm ks).symm) (sorted_pw h) (sortS_pw ks)
/-- a dict whose keys are texts -/
def encK (sd : List (Str × W)) : List (Key × W) := sd.map fun p => (Sum.inr p.1, p.2)
theorem encK_keys (sd : List (Str × W)) : (encK sd).map (·.1) = (sd.map (·.1)).map Sum.inr := by
  unfold encK
  rw [List.map_map, List.map_map]
  rfl
theorem rwp_keys {K : Frag} {H : Hp} {κ : Type} {kv : List (κ × V)} {kw : List (κ × W)} (h : RwP K H kv kw) : kv.map (·.1) = kw.map (·.1) := by
  induction h with
  | nil => rfl
  | cons a b ih => rw [List.map_cons, List.map_cons, ih, a.1]
/-- an expression that makes a list, which nothing else holds -/
def EvL (K : Frag) (te : TE) (ρ : Rho) (μ : Mu) (ws : List W) : Prop := ∀ (σ : L2.St) (H : Hp), S K H σ ρ μ → ∀ Q : VK, (∀ p vs H2, Ex H H2 → H p = none → H2 p = some (.lst vs) → RwAll K H2 vs ws → Q (.ref p) H2) → te σ H Q
section
variable {K : Frag} {E : XK} {ρ : Rho} {μ : Mu} {te tl ta tb td : TE} {t : TT} {X : Value → Mu → Prop}
theorem EvL.is {ws us : List W} (h : EvL K te ρ μ ws) (e : ws = us) : EvL K te ρ μ us := e ▸ h
theorem ew_ofL {ws : List W} (h : EvL K te ρ μ ws) : EvW K E te ρ μ (fun w μ' => ∃ p, μ p = none ∧ w = .ref p ∧ μ' = mset μ p (.ls ws)) X := fun σ H g Q q _ => h σ H g _ fun p vs H2 e hp h2 r => by
  have hn := g.2.free hp
  have m : Mem K H2 (mset μ p (.ls ws)) := fun b o e' => by
    by_cases hb : b = p
    · subst hb
      rw [mset_same] at e'
      cases e'
      exact ⟨vs, h2, r⟩
    · rw [mset_ne hb] at e'
      exact (g.2.ex e) b o e'
  exact q (.ref p) (mset μ p (.ls ws)) (.ref p) H2 ⟨p, hn, rfl, rfl⟩ (Tk.ex e) ⟨g.1.tk (Tk.ex e), m⟩ (.ref p)
theorem el_lst {ta : TA} {xs : List W} (h : EvS K ta ρ μ xs) (hl : xs.length ≤ 100000) : EvL K (tLst ta) ρ μ xs := fun σ H g Q q =>
  h σ H g _ fun vs H1 e1 d1 => ⟨sz_of (by rw [dps_len d1]; exact hl), fun p hp => q p vs _ (e1.trans (Ex.new hp)) (fresh_back e1 hp) upd_same (dpms (Ex.new hp) d1)⟩
theorem el_slice {a : Addr} {ws : List W} {tlo thi : TO} {lo hi : Option Int} (ha : EvD K ta ρ μ (.ref a)) (l : isL μ a ws) (hlo : ∀ σ H, S K H σ ρ μ → ∀ Q : Option Int → Hp → Prop, (∀ H2, Ex H H2 → Q lo H2) → tlo σ H Q)
    (hhi : ∀ σ H, S K H σ ρ μ → ∀ Q : Option Int → Hp → Prop, (∀ H2, Ex H H2 → Q hi H2) → thi σ H Q) : EvL K (tSl (rSlL K) ta tlo thi) ρ μ ((ws.drop (HT.sIx ws.length 0 lo)).take (HT.sIx ws.length ws.length hi - HT.sIx ws.length 0 lo)) := fun σ H g Q q =>
  ha σ H g _ fun v H1 e1 d1 => hlo σ H1 (g.mono e1) _ fun H2 e2 => hhi σ H2 (g.mono (e1.trans e2)) _ fun H3 e3 => by
    cases d1
    have e := (e1.trans e2).trans e3
    obtain ⟨vs, h, r⟩ := l.sq (g.2.ex e)
    have hl := dps_len r
    refine ⟨a, vs, rfl, h, fun p hp => q p _ _ (e.trans (Ex.new hp)) (fresh_back e hp) upd_same (dpms (Ex.new hp) ?_)⟩
    unfold cutV
    rw [hl]
    exact dps_take _ (dps_drop _ r)
theorem to_none : ∀ (σ : L2.St) (H : Hp), S K H σ ρ μ → ∀ Q : Option Int → Hp → Prop, (∀ H2, Ex H H2 → Q none H2) → tNoPart σ H Q := fun _ H _ _ q => q H (Ex.refl H)
theorem to_some {i : Int} (h : EvD K te ρ μ (.int i)) : ∀ (σ : L2.St) (H : Hp), S K H σ ρ μ → ∀ Q : Option Int → Hp → Prop, (∀ H2, Ex H H2 → Q (some i) H2) → tPart te σ H Q := fun σ H g Q q => h σ H g _ fun v H1 e1 d1 => by
  cases d1
  exact ⟨i, rfl, q H1 e1⟩
/-- sorted(d), the keys texts -/
def rSrtD : List V → Hp → VK → Prop := fun xs H Q => ∃ (a : Addr) (kvs : List (Key × V)) (ks : List Str), xs = [.ref a] ∧ Rd H a (.dK kvs) ∧ kvs.map (·.1) = ks.map Sum.inr ∧ ks.length < 64 ∧
    ∀ ys p, ys.Perm ks → PyProof.Rows.sortedS ys = true → H p = none → Q (.ref p) (upd H p (.lst (ys.map V.str)))
theorem cr_srtD {X : Cx} (hc : X.calm = true) : CallR X (.builtin "sorted") rSrtD := call_sortedD hc
theorem el_sortedD {ta : TA} {a : Addr} {sd : List (Str × W)} (ha : EvS K ta ρ μ [.ref a]) (l : μ a = some (.dk (encK sd))) (h64 : sd.length < 64) : EvL K (tCB rSrtD ta) ρ μ ((sortS (sd.map (·.1))).map W.str) := fun σ H g Q q =>
  ha σ H g _ fun vs H1 e1 d1 => by
    obtain ⟨v, rfl, dv⟩ := dps1 d1
    cases dv
    obtain ⟨kv, h, r⟩ := g.2.ex e1 a _ l
    refine ⟨a, kv, sd.map (·.1), rfl, .inl h, by rw [rwp_keys r, encK_keys], by rw [List.length_map]; exact h64, fun ys p hp hs hn => ?_⟩
    rw [sorted_only hp hs]
    exact q p _ _ (e1.trans (Ex.new hn)) (fresh_back e1 hn) upd_same (dps_strs _)
/-- sorted(list of texts) -/
def rSrtS (K : Frag) : List V → Hp → VK → Prop := rSortedS K
theorem cr_srtS {X : Cx} : CallR X (.builtin "sorted") (rSrtS X.K) := cr_sortedS
theorem el_sortedS {ks : List Str} (ha : EvL K te ρ μ (ks.map W.str)) (h64 : ks.length < 64) : EvL K (tCB (rSrtS K) (tCons te tNil)) ρ μ ((sortS ks).map W.str) := fun σ H g Q q =>
  ha σ H g _ fun p vs H1 e1 hp h1 r => by
    have ev := dps_strs_of r
    subst ev
    refine ⟨p, ks, rfl, SqL.of h1, h64, fun ys p2 hpm hs hn => ?_⟩
    rw [sorted_only hpm hs]
    exact q p2 _ _ (e1.trans (Ex.new hn)) (fresh_back e1 hn) upd_same (dps_strs _)
/-- tuple(list) -/
def rTupL (K : Frag) : List V → Hp → VK → Prop := fun xs H Q => ∃ p ys, xs = [.ref p] ∧ ((SqL K H p ys ∧ ∀ l, H l = none → Q (.ref l) (upd H l (.tup ys))) ∨ (SqT K H p ys ∧ Q (.ref p) H))
theorem cr_tupL {X : Cx} : CallR X (.type "tuple") (rTupL X.K) := call_tuple_of
theorem ed_tupL {ws : List W} (h : EvL K te ρ μ ws) : EvD K (tCB (rTupL K) (tCons te tNil)) ρ μ (.tup ws) := fun σ H g Q q =>
  h σ H g _ fun p vs H1 e1 _ h1 r => ⟨p, vs, rfl, .inl ⟨SqL.of h1, fun l hl => q _ _ (e1.trans (Ex.new hl)) (.tup (st_of upd_same) (dpms (Ex.new hl) r))⟩⟩
/-! comprehensions -/
theorem wipe1 (σ : L2.St) (j : Nat) (x : Option V) : wipe ((wipe σ [j]).set j x) [j] = wipe σ [j] := by
  show ((σ.set j none).set j x).set j none = σ.set j none
  rw [List.set_set, List.set_set]
/-- [v(x) for x in a new list if f(x)] -/
theorem el_lc {ws : List W} {j : Nat} (f : W → Bool) (v : W → W) (h : EvL K tl ρ μ ws) (hz : ws.length ≤ 40000) (ht : ∀ x, x ∈ ws → EvC K t ((ρ.set j none).set j (some x)) μ (f x)) (he : ∀ x, x ∈ ws → f x = true → EvD K te ((ρ.set j none).set j (some x)) μ (v x)) :
    EvL K (tLc (iList K tl) (gName j) t te [j]) ρ μ ((ws.filter f).map v) := fun σ H g Q q =>
  h σ H g _ fun a us H1 e1 ha h1 r1 => ⟨a, rfl, ⟨us, SqL.of h1⟩, fun D hD => by
    have hl := dps_len r1
    refine lc_list (xs := us) (fun i H' => Ex H1 H' ∧ ∃ acc, H' D = some (.lst acc) ∧ acc.length ≤ i ∧ RwAll K H' acc (((ws.take i).filter f).map v)) ⟨Ex.new hD, [], upd_same, Nat.le_refl _, .nil⟩ (fun i H' _ w => SqL.of (w.1 a _ h1)) (fun i x H' hx w => ?_) (fun H' w => ?_)
    · obtain ⟨ex, acc, hacc, hlen, r⟩ := w
      obtain ⟨y, hy, dy⟩ := dps_to i r1 hx
      have hi : i < us.length := (List.getElem?_eq_some_iff.mp hx).1
      have gg : S K H' ((wipe σ [j]).set j (some x)) ((ρ.set j none).set j (some y)) μ := ((g.mono (e1.trans ex)).hide (v := none) j).put j (dpm ex dy)
      refine ⟨wipe1 σ j (some x), ht y (List.mem_of_getElem? hy) _ _ gg _ fun H3 e3 => ?_⟩
      have ws1 : ws.take (i + 1) = ws.take i ++ [y] := by rw [List.take_add_one, hy]; rfl
      cases hf : f y with
      | true =>
        refine iteT (he y (List.mem_of_getElem? hy) hf _ H3 (gg.mono e3) _ fun u H4 e4 d4 => ?_)
        refine ⟨acc, e4 _ _ (e3 _ _ hacc), sz_lt (by omega), ?_, acc ++ [u], upd_same, by rw [List.length_append]; simp; omega, ?_⟩
        · exact Ex.mut ((ex.trans e3).trans e4) hD
        · have tk : Tk H4 (upd H4 D (.lst (acc ++ [u]))) := Tk.upd (nt_lst (e4 _ _ (e3 _ _ hacc)))
          rw [ws1, List.filter_append, List.map_append]
          have e5 : (List.filter f [y]) = [y] := by rw [List.filter_cons, hf]; rfl
          rw [e5]
          exact dps_app (rwms tk (dpms (e3.trans e4) r)) (.cons (rwm tk d4) .nil)
      | false =>
        refine iteF ⟨ex.trans e3, acc, e3 _ _ hacc, by omega, ?_⟩
        rw [ws1, List.filter_append, List.map_append]
        have e5 : (List.filter f [y]) = [] := by rw [List.filter_cons, hf]; rfl
        rw [e5, List.map_nil, List.append_nil]
        exact dpms e3 r
    · obtain ⟨ex, acc, hacc, hlen, r⟩ := w
      rw [hl, List.take_length] at r
      exact q D acc H' (e1.trans ex) (fresh_back e1 hD) hacc r⟩
theorem ec_yes : EvC K tYes ρ μ true := fun _ H _ _ q => q H (Ex.refl H)
/-- [key for key in d if f(key)] -/
theorem el_lcD {a : Addr} {sd : List (Str × W)} {i j : Nat} (f : Str → Bool) (hi : ρ[i]? = some (some (.ref a))) (l : μ a = some (.dk (encK sd))) (hz : sd.length ≤ 40000) (hj : j < ρ.length)
    (ht : ∀ x, x ∈ sd.map (·.1) → ∀ μ', EvC K t ((ρ.set j none).set j (some (.str x))) μ' (f x)) :
    EvL K (tLockE (tLc (iKeys (tVar i)) (gName j) t (tVar j) [j])) ρ μ (((sd.map (·.1)).filter f).map W.str) := fun σ H g Q q => by
  obtain ⟨va, s1, s2⟩ := g.1.2 i _ hi
  cases s2
  obtain ⟨kv, h, r⟩ := g.2 a _ l
  have hk : kv.map (·.1) = (sd.map (·.1)).map Sum.inr := by rw [rwp_keys r, encK_keys]
  have hlen : kv.length = sd.length := by
    have e := congrArg List.length hk
    simpa using e
  refine ⟨a, .dK kv, h, trivial, fun od => ⟨.ref a, s1, a, od, rfl, .inl ⟨kv, upd_same, fun D hD => ?_⟩⟩⟩
  have hja : D ≠ a := fun e => by
    rw [e, upd_same] at hD
    cases hD
  have hD0 : H D = none := by
    rw [upd_ne hja] at hD
    exact hD
  refine ⟨fun n m H' => m = kv.length - n ∧ n ≤ kv.length ∧ Ex (upd H a (.frz od (.dK kv))) H' ∧ H' D = some (.lst ((((sd.map (·.1)).take n).filter f).map V.str)), ⟨kv.length, by simp, Nat.zero_le _, Ex.new hD, upd_same⟩, ?_⟩
  rintro n m H' ⟨rfl, hn, ex, hacc⟩
  have hfa : H' a = some (.frz od (.dK kv)) := ex _ _ upd_same
  by_cases hlt : n < kv.length
  · refine .inr ⟨⟨hfa, hlt⟩, fun H2 => Ex (upd H a (.frz od (.dK kv))) H2 ∧ H2 D = some (.lst ((((sd.map (·.1)).take (n + 1)).filter f).map V.str)), fun H2 w => ⟨kv.length - (n + 1), by omega, rfl, hlt, w⟩, fun x H2 y => ?_⟩
    obtain ⟨rfl, kk, vv, hkv, rfl⟩ := y
    have hkk : (kv.map (·.1))[n]? = some kk := by rw [List.getElem?_map, hkv]; rfl
    rw [hk, List.getElem?_map] at hkk
    cases hz2 : (sd.map (·.1))[n]? with
    | none =>
      rw [hz2] at hkk
      cases hkk
    | some z =>
      rw [hz2] at hkk
      have ek : Sum.inr z = kk := Option.some.inj hkk
      subst ek
      have tk0 : Tk H H2 := ⟨fun b xs rd => by
        have nb : b ≠ a := fun e => (nt_dk h).1 xs (e ▸ rd)
        rcases rd with rd | ⟨ob, rd⟩
        · exact .inl (ex _ _ (by rw [upd_ne nb]; exact rd))
        · exact .inr ⟨ob, ex _ _ (by rw [upd_ne nb]; exact rd)⟩, fun b o u rd => by
        have nb : b ≠ a := fun e => (nt_dk h).2 o u (e ▸ rd)
        exact ex _ _ (by rw [upd_ne nb]; exact rd)⟩
      have mz : Mem K H2 (fun _ => none) := fun _ _ e => by cases e
      have gg : S K H2 ((wipe σ [j]).set j (some (.str z))) ((ρ.set j none).set j (some (.str z))) (fun _ => none) :=
        ⟨((g.1.tk tk0).hide (v := none) j).put j (.str z), mz⟩
      refine ⟨wipe1 σ j (some (.str z)), ht z (List.mem_of_getElem? hz2) (fun _ => none) _ _ gg _ fun H3 e3 => ?_⟩
      have ws1 : (sd.map (·.1)).take (n + 1) = (sd.map (·.1)).take n ++ [z] := by rw [List.take_add_one, hz2]; rfl
      cases hf : f z with
      | true =>
        have hsl : ((wipe σ [j]).set j (some (V.str z)))[j]? = some (some (.str z)) := by
          rw [List.getElem?_set, if_pos rfl, if_pos (by rw [wipe_length, g.1.1]; exact hj)]
        refine iteT ⟨.str z, hsl, _, e3 _ _ hacc, ?_, Ex.mut (ex.trans e3) hD, ?_⟩
        · refine sz_lt ?_
          have h1 := List.length_filter_le f ((sd.map (·.1)).take n)
          rw [List.length_map]
          rw [List.length_take, List.length_map] at h1
          omega
        · rw [ws1, List.filter_append, List.map_append]
          have e5 : (List.filter f [z]) = [z] := by rw [List.filter_cons, hf]; rfl
          rw [e5]
          exact upd_same
      | false =>
        refine iteF ⟨ex.trans e3, ?_⟩
        rw [ws1, List.filter_append]
        have e5 : (List.filter f [z]) = [] := by rw [List.filter_cons, hf]; rfl
        rw [e5, List.append_nil]
        exact e3 _ _ hacc
  · have en : n = kv.length := by omega
    subst en
    refine .inl ⟨⟨hfa, Nat.le_refl _⟩, hfa, ?_⟩
    have hall : (sd.map (·.1)).take kv.length = sd.map (·.1) := by
      rw [hlen]
      have e : (sd.map (·.1)).length = sd.length := List.length_map _
      rw [← e, List.take_length]
    rw [hall] at hacc
    refine q D _ _ (fun b o hb => ?_) hD0 ?_ (dps_strs _)
    · by_cases hb2 : b = a
      · subst hb2
        rw [upd_same, ← hb, h]
      · rw [upd_ne hb2]
        exact ex _ _ (by rw [upd_ne hb2]; exact hb)
    · rw [upd_ne hja]
      exact hacc
end
end Pw

namespace Pw
open PySem L2 Evl
open Pd (sLt)
/-- the store only grows -/
def Grow (μ μ' : Mu) : Prop := ∀ a o, μ a = some o → μ' a = some o
theorem Grow.refl (μ : Mu) : Grow μ μ := fun _ _ h => h
theorem Grow.trans {μ μ1 μ2 : Mu} (a : Grow μ μ1) (b : Grow μ1 μ2) : Grow μ μ2 := fun c o h => b c o (a c o h)
theorem Grow.new {μ : Mu} {p : Addr} {o : O} (h : μ p = none) : Grow μ (mset μ p o) := fun a u e => by
  by_cases q : a = p
  · rw [q, h] at e
    cases e
  · rw [mset_ne q]
    exact e
/-- .. but for the object at a -/
def Upd (a : Addr) (o : O) (μ μ' : Mu) : Prop := μ' a = some o ∧ ∀ b u, b ≠ a → μ b = some u → μ' b = some u
theorem Upd.set {a : Addr} {o : O} {μ : Mu} : Upd a o μ (mset μ a o) := ⟨mset_same, fun b u n h => by rw [mset_ne n]; exact h⟩
theorem Upd.grow {a : Addr} {o : O} {μ μ1 μ2 : Mu} (h : Upd a o μ μ1) (g : Grow μ1 μ2) : Upd a o μ μ2 := ⟨g _ _ h.1, fun b u n e => g _ _ (h.2 b u n e)⟩
theorem Grow.upd {a : Addr} {o u : O} {μ μ1 : Mu} (g : Grow μ μ1) (h : μ a = some u) (e : u = o) : Upd a o μ μ1 := ⟨by rw [← e]; exact g _ _ h, fun b _ _ q => g _ _ q⟩
theorem isL.grow {μ μ' : Mu} {a : Addr} {ws : List W} (l : isL μ a ws) (g : Grow μ μ') : isL μ' a ws := by
  rcases l with l | l
  · exact .inl (g _ _ l)
  · exact .inr (g _ _ l)
mutual
theorem Dw.grow {μ μ' : Mu} (g : Grow μ μ') : ∀ {w : W} {d : PyData}, Dw μ w d → Dw μ' w d
  | _, _, .non => .non
  | _, _, .bl => .bl
  | _, _, .int => .int
  | _, _, .str => .str
  | _, _, .tup h => .tup (DwAll.grow g h)
  | _, _, .lst l h => .lst (l.grow g) (DwAll.grow g h)
theorem DwAll.grow {μ μ' : Mu} (g : Grow μ μ') : ∀ {ws : List W} {ds : List PyData}, DwAll μ ws ds → DwAll μ' ws ds
  | _, _, .nil => .nil
  | _, _, .cons h hs => .cons (Dw.grow g h) (DwAll.grow g hs)
end
/-- a good value, at most n deep; a good row of values -/
def Good (n : Nat) (μ : Mu) (w : W) : Prop := ∃ d, Dw μ w d ∧ okD d ∧ PyData.depth d ≤ n
theorem Good.grow {n : Nat} {μ μ' : Mu} {w : W} (h : Good n μ w) (g : Grow μ μ') : Good n μ' w := by
  obtain ⟨d, z, k, q⟩ := h
  exact ⟨d, z.grow g, k, q⟩
theorem Good.le {n m : Nat} {μ : Mu} {w : W} (h : Good n μ w) (l : n ≤ m) : Good m μ w := by
  obtain ⟨d, z, k, q⟩ := h
  exact ⟨d, z, k, Nat.le_trans q l⟩
theorem goods {n : Nat} {μ : Mu} : ∀ {ws : List W}, (∀ w ∈ ws, Good n μ w) → ∃ ds, DwAll μ ws ds ∧ okDs ds ∧ PyData.depthAll ds ≤ n
  | [], _ => ⟨[], .nil, by unfold okDs; trivial, Nat.zero_le _⟩
  | w :: r, h => by
    obtain ⟨d, z, k, q⟩ := h w (List.mem_cons_self ..)
    obtain ⟨ds, zs, ks, qs⟩ := goods (ws := r) fun u hu => h u (List.mem_cons_of_mem _ hu)
    exact ⟨d :: ds, .cons z zs, by unfold okDs; exact ⟨k, ks⟩, by unfold PyData.depthAll; exact Nat.max_le.mpr ⟨q, qs⟩⟩
theorem good_tup {n : Nat} {μ : Mu} {ws : List W} (h : ∀ w ∈ ws, Good n μ w) : Good (n + 1) μ (.tup ws) := by
  obtain ⟨ds, z, k, q⟩ := goods h
  exact ⟨.tuple ds, .tup z, by unfold okD; exact k, by unfold PyData.depth; omega⟩
theorem good_lst {n : Nat} {μ : Mu} {a : Addr} {ws : List W} (l : isL μ a ws) (h : ∀ w ∈ ws, Good n μ w) : Good (n + 1) μ (.ref a) := by
  obtain ⟨ds, z, k, q⟩ := goods h
  exact ⟨.list ds, .lst l z, by unfold okD; exact k, by unfold PyData.depth; omega⟩
theorem good_str {n : Nat} {μ : Mu} {x : Str} (h : okS x) : Good n μ (.str x) := ⟨.str x, .str, by unfold okD; exact h, Nat.zero_le _⟩
theorem good_int {n : Nat} {μ : Mu} {i : Int} : Good n μ (.int i) := ⟨.int i, .int, by unfold okD; trivial, Nat.zero_le _⟩
theorem good_bl {n : Nat} {μ : Mu} {i : Bool} : Good n μ (.bl i) := ⟨.bool i, .bl, by unfold okD; trivial, Nat.zero_le _⟩
theorem good_non {n : Nat} {μ : Mu} : Good n μ .non := ⟨.none, .non, by unfold okD; trivial, Nat.zero_le _⟩
mutual
theorem canLay_ok : ∀ {d : PyData}, okD d → PyData.canLay0 d = true
  | .none, _ => rfl
  | .bool _, _ => rfl
  | .int _, _ => rfl
  | .str x, h => by
    unfold okD at h
    exact h.2
  | .list xs, h => by
    unfold okD at h
    unfold PyData.canLay0
    exact canLays_ok h
  | .tuple xs, h => by
    unfold okD at h
    unfold PyData.canLay0
    exact canLays_ok h
  | .dict _, h => by
    unfold okD at h
    exact h.elim
theorem canLays_ok : ∀ {ds : List PyData}, okDs ds → PyData.canLayAll0 ds = true
  | [], _ => rfl
  | d :: r, h => by
    unfold okDs at h
    unfold PyData.canLayAll0
    rw [canLay_ok h.1, canLays_ok h.2]
    rfl
end
theorem shaped_ok {d : PyData} {n : Nat} (h : okD d) (q : PyData.depth d ≤ n) (l : n ≤ 64) : SeqAt.shaped d = true := by
  unfold SeqAt.shaped
  rw [canLay_ok h, decide_eq_true (Nat.le_trans q l)]
  rfl
section
variable {K : Frag} {E : XK} {ρ : Rho} {μ : Mu} {te tl ta tb td ty tx : TE} {t u : TT} {t1 t2 : TS} {X : Value → Mu → Prop} {N : Rho → Mu → Prop} {R : W → Mu → Prop}
/-! tuples: +, slices -/
theorem ed_catA {xs ys : List W} (ha : EvD K ta ρ μ (.tup xs)) (hb : EvD K tb ρ μ (.tup ys)) (hl : xs.length + ys.length ≤ 100000) : EvD K (tOp (rCatA K) ta tb) ρ μ (.tup (xs ++ ys)) := ed_two ha hb fun H v w Q dv dw k => by
  cases dv with
  | @tup a vs _ h hs =>
  cases dw with
  | @tup b us _ g gs =>
  have l1 := dps_len hs
  have l2 := dps_len gs
  refine ⟨a, b, vs, us, rfl, rfl, h, g, sz_of (by omega), fun e => ?_, fun _ e => ?_, fun _ _ p hp => ?_⟩
  · subst e
    cases hs
    exact k _ H (Ex.refl H) (.tup g gs)
  · subst e
    cases gs
    rw [List.append_nil] at k
    exact k _ H (Ex.refl H) (.tup h hs)
  · exact k _ _ (Ex.new hp) (.tup (st_of upd_same) (dpms (Ex.new hp) (dps_app hs gs)))
def cutW (ws : List W) (lo hi : Option Int) : List W := (ws.drop (HT.sIx ws.length 0 lo)).take (HT.sIx ws.length ws.length hi - HT.sIx ws.length 0 lo)
theorem ed_slA {ws : List W} {tlo thi : TO} {lo hi : Option Int} (ha : EvD K ta ρ μ (.tup ws)) (hlo : ∀ σ H, S K H σ ρ μ → ∀ Q : Option Int → Hp → Prop, (∀ H2, Ex H H2 → Q lo H2) → tlo σ H Q)
    (hhi : ∀ σ H, S K H σ ρ μ → ∀ Q : Option Int → Hp → Prop, (∀ H2, Ex H H2 → Q hi H2) → thi σ H Q) : EvD K (tSl (rSlA K) ta tlo thi) ρ μ (.tup (cutW ws lo hi)) := fun σ H g Q q =>
  ha σ H g _ fun v H1 e1 d1 => hlo σ H1 (g.mono e1) _ fun H2 e2 => hhi σ H2 (g.mono (e1.trans e2)) _ fun H3 e3 => by
    have e := (e1.trans e2).trans e3
    cases d1 with
    | @tup a vs _ h hs =>
    have hl := dps_len hs
    have h3 := ex_t (e2.trans e3) h
    have r3 := dpms (e2.trans e3) hs
    have rc : RwAll K H3 (cutV vs lo hi) (cutW ws lo hi) := by
      unfold cutV cutW
      rw [hl]
      exact dps_take _ (dps_drop _ r3)
    refine ⟨a, vs, rfl, h3, fun w => ?_, fun _ p hp => q _ _ (e.trans (Ex.new hp)) (.tup (st_of upd_same) (dpms (Ex.new hp) rc))⟩
    have ec : cutW ws lo hi = ws := by
      unfold cutW
      rw [hl] at w
      rw [w.1, w.2, List.drop_zero, Nat.sub_zero, List.take_length]
    rw [ec] at q
    exact q _ H3 e (.tup h3 r3)
theorem cutW_mem {ws : List W} {lo hi : Option Int} {w : W} (h : w ∈ cutW ws lo hi) : w ∈ ws := List.mem_of_mem_drop (List.mem_of_mem_take h)
theorem cutW_len (ws : List W) (lo hi : Option Int) : (cutW ws lo hi).length ≤ ws.length := by
  unfold cutW
  rw [List.length_take, List.length_drop]
  omega
/-! list(t) -/
def rLstT (K : Frag) : List V → Hp → VK → Prop := fun xs H Q => ∃ p ys, xs = [.ref p] ∧ (SqL K H p ys ∨ SqT K H p ys) ∧ ∀ l, H l = none → Q (.ref l) (upd H l (.lst ys))
theorem cr_lstT {X : Cx} : CallR X (.type "list") (rLstT X.K) := call_list_of
theorem el_listT {ta : TA} {ws : List W} (h : EvS K ta ρ μ [.tup ws]) : EvL K (tCB (rLstT K) ta) ρ μ ws := fun σ H g Q q =>
  h σ H g _ fun vs H1 e1 d1 => by
    obtain ⟨v, rfl, dv⟩ := dps1 d1
    cases dv with
    | @tup a us _ h hs => exact ⟨a, us, rfl, .inr h, fun l hl => q l _ _ (e1.trans (Ex.new hl)) (fresh_back e1 hl) upd_same (dpms (Ex.new hl) hs)⟩
/-! a text times a number -/
def rRepS : R2 := fun x y H Q => ∃ z i, x = .str z ∧ y = .int i ∧ MulOk z i ∧ Q (.str (Txt.mul z i)) H
theorem op_repS {X : Cx} : OpR X (binaryOp .Mult) rRepS := by
  intro pins s σ H x y v u Q I rx ry h
  obtain ⟨z, i, rfl, rfl, ok, q⟩ := h
  obtain ⟨t, rfl⟩ := rx
  obtain ⟨t', rfl⟩ := ry
  exact SB.mul ok fun t2 k => ⟨.str (Txt.mul z i), H, I.tok _, ⟨_, rfl⟩, q⟩
theorem ed_repS {z : Str} {i : Int} (ha : EvD K ta ρ μ (.str z)) (hb : EvD K tb ρ μ (.int i)) (ok : MulOk z i) : EvD K (tOp rRepS ta tb) ρ μ (.str (Txt.mul z i)) := ed_two ha hb fun H v w Q dv dw k => by
  cases dv
  cases dw
  exact ⟨z, i, rfl, rfl, ok, k _ H (Ex.refl H) (.str _)⟩
/-! in a row of texts that is written there -/
theorem ed_inLs {ta' : TA} {z : Str} {zs : List Str} (ha : EvD K ta ρ μ (.str z)) (hb : EvS K ta' ρ μ (zs.map W.str)) (hl : zs.length ≤ 100000) : EvD K (tOp (rIn K false) ta (tLst ta')) ρ μ (.bl (decide (z ∈ zs))) := fun σ H g Q q =>
  ha σ H g _ fun v H1 e1 d1 => hb σ H1 (g.mono e1) _ fun vs H2 e2 d2 => ⟨sz_of (by rw [dps_len d2, List.length_map]; exact hl), fun p hp => by
    cases d1
    have ev := dps_strs_of d2
    subst ev
    refine ⟨p, zs.map V.str, rfl, .inl (SqL.of upd_same), rfl, ?_, ?_⟩
    · rw [List.all_map]
      exact List.all_eq_true.mpr fun _ _ => rfl
    · have e : inV (V.str z) (zs.map V.str) = decide (z ∈ zs) := by
        rw [Bool.eq_iff_iff, decide_eq_true_eq]
        unfold inV
        rw [List.any_eq_true]
        constructor
        · rintro ⟨y, hy, e⟩
          obtain ⟨u, hu, rfl⟩ := List.mem_map.mp hy
          have e2 : (u == z) = true := e
          rw [← eq_of_beq e2]
          exact hu
        · intro hz
          exact ⟨V.str z, List.mem_map.mpr ⟨z, hz, rfl⟩, (beq_self_eq_true z : (z == z) = true)⟩
      rw [e]
      exact q _ _ ((e1.trans e2).trans (Ex.new hp)) (.bl _)⟩
/-! arguments that change the store -/
def EvA (K : Frag) (E : XK) (ta : TA) (ρ : Rho) (μ : Mu) (P : List W → Mu → Prop) (X : Value → Mu → Prop) : Prop := ∀ (σ : L2.St) (H : Hp), S K H σ ρ μ → ∀ Q : List V → Hp → Prop, (∀ ws μ' vs H', P ws μ' → Tk H H' → S K H' σ ρ μ' → RwAll K H' vs ws → Q vs H') →
  (∀ c μ' H', X c μ' → Tk H H' → Mem K H' μ' → E c none H') → ta σ H Q
theorem ea_pure {ta : TA} {P : List W → Mu → Prop} {ws : List W} (h : EvS K ta ρ μ ws) (p : P ws μ) : EvA K E ta ρ μ P X := fun σ H g Q q _ => h σ H g _ fun vs H1 e1 d1 => q ws μ vs H1 p (Tk.ex e1) (g.mono e1) d1
theorem ea_cons {tr : TA} {P : W → Mu → Prop} {P2 : List W → Mu → Prop} (h : EvW K E te ρ μ P X) (hs : ∀ w μ1, P w μ1 → EvA K E tr ρ μ1 (fun ws μ2 => P2 (w :: ws) μ2) X) : EvA K E (tCons te tr) ρ μ P2 X := fun σ H g Q q hX =>
  h σ H g _ (fun w μ1 v H1 p e1 g1 dv => hs w μ1 p σ H1 g1 _ (fun ws μ2 vs H2 p2 e2 g2 ds => q (w :: ws) μ2 (v :: vs) H2 p2 (e1.trans e2) g2 (.cons (rwm e2 dv) ds)) fun c μ2 H2 x e2 => hX c μ2 H2 x (e1.trans e2)) hX
theorem ea_consP {tr : TA} {w : W} {P2 : List W → Mu → Prop} (h : EvD K te ρ μ w) (hs : EvA K E tr ρ μ (fun ws μ2 => P2 (w :: ws) μ2) X) : EvA K E (tCons te tr) ρ μ P2 X :=
  ea_cons (P := fun u μ1 => u = w ∧ μ1 = μ) (ew_pure h ⟨rfl, rfl⟩) fun u μ1 p => by
    obtain ⟨rfl, rfl⟩ := p
    exact hs
theorem ew_tup {ta : TA} {P : List W → Mu → Prop} {P2 : W → Mu → Prop} (h : EvA K E ta ρ μ P X) (hp : ∀ ws μ', P ws μ' → ws.length ≤ 100000 ∧ P2 (.tup ws) μ') : EvW K E (tTup ta) ρ μ P2 X := fun σ H g Q q hX =>
  h σ H g _ (fun ws μ1 vs H1 p e1 g1 ds => ⟨sz_of (by rw [dps_len ds]; exact (hp ws μ1 p).1), fun a ha => q _ μ1 _ _ (hp ws μ1 p).2 (e1.trans (Tk.ex (Ex.new ha))) (g1.mono (Ex.new ha)) (.tup (st_of upd_same) (dpms (Ex.new ha) ds))⟩) hX
theorem ew_lstA {ta : TA} {P : List W → Mu → Prop} {P2 : W → Mu → Prop} (h : EvA K E ta ρ μ P X) (hp : ∀ ws μ', P ws μ' → ws.length ≤ 100000 ∧ ∀ p, μ' p = none → P2 (.ref p) (mset μ' p (.ls ws))) : EvW K E (tLst ta) ρ μ P2 X := fun σ H g Q q hX =>
  h σ H g _ (fun ws μ1 vs H1 p e1 g1 ds => ⟨sz_of (by rw [dps_len ds]; exact (hp ws μ1 p).1), fun a ha => by
    have tk := Tk.ex (Ex.new (o := .lst vs) ha)
    exact q _ (mset μ1 a (.ls ws)) _ _ ((hp ws μ1 p).2 a (g1.2.free ha)) (e1.trans tk) ⟨g1.1.tk tk, g1.2.put (nt_none ha) ⟨vs, upd_same, dpms (Ex.new ha) ds⟩⟩ (.ref a)⟩) hX
theorem ew_callA {Wf : List W → Mu → (W → Mu → Prop) → (Value → Mu → Prop) → Prop} {ta : TA} {Pa : List W → Mu → Prop} {P : W → Mu → Prop} (h : EvA K E ta ρ μ Pa X) (hw : ∀ ws μ', Pa ws μ' → Wf ws μ' P X) : EvW K E (tCall (spM K Wf) [] E ta) ρ μ P X := fun σ H g Q q hX =>
  h σ H g _ (fun ws μ1 vs H1 p e1 g1 ds => by
    show spM K Wf (vs ++ []) H1 Q E
    rw [List.append_nil]
    exact ⟨ws, μ1, P, X, ds, g1.2, hw ws μ1 p, fun w μ' v H2 p e2 m2 d2 => q w μ' v H2 p (e1.trans e2) ⟨g1.1.tk e2, m2⟩ d2, fun c μ' H2 x e2 m2 => hX c μ' H2 x (e1.trans e2) m2⟩) hX
/-- two operands, of which each may change the store -/
theorem ew_two {r : R2} {P1 : W → Mu → Prop} {P2 : W → W → Mu → Prop} {P : W → Mu → Prop} (ha : EvW K E ta ρ μ P1 X) (hb : ∀ x μ1, P1 x μ1 → EvW K E tb ρ μ1 (P2 x) X)
    (hr : ∀ x y μ2, P2 x y μ2 → ∀ (σ : L2.St) (H : Hp) (v w : V) (Q : VK), S K H σ ρ μ2 → Rw K H v x → Rw K H w y → (∀ z μ3 u H', P z μ3 → Tk H H' → S K H' σ ρ μ3 → Rw K H' u z → Q u H') → r v w H Q) : EvW K E (tOp r ta tb) ρ μ P X := fun σ H g Q q hX =>
  ha σ H g _ (fun x μ1 v H1 p1 e1 g1 dv => hb x μ1 p1 σ H1 g1 _ (fun y μ2 w H2 p2 e2 g2 dw => hr x y μ2 p2 σ H2 v w Q g2 (rwm e2 dv) dw fun z μ3 u H3 p3 e3 g3 du => q z μ3 u H3 p3 ((e1.trans e2).trans e3) g3 du) fun c μ2 H2 x e2 => hX c μ2 H2 x (e1.trans e2)) hX
/-- t + u, where u is made on the way -/
theorem ew_catA {P1 : W → Mu → Prop} {P2 : W → W → Mu → Prop} {P : W → Mu → Prop} (ha : EvW K E ta ρ μ P1 X) (hb : ∀ x μ1, P1 x μ1 → EvW K E tb ρ μ1 (P2 x) X)
    (hp : ∀ x y μ2, P2 x y μ2 → ∃ xs ys, x = .tup xs ∧ y = .tup ys ∧ xs.length + ys.length ≤ 100000 ∧ P (.tup (xs ++ ys)) μ2) : EvW K E (tOp (rCatA K) ta tb) ρ μ P X :=
  ew_two ha hb fun x y μ2 p2 σ H v w Q g dv dw k => by
    obtain ⟨xs, ys, rfl, rfl, hl, hP⟩ := hp x y μ2 p2
    cases dv with
    | @tup a vs _ h hs =>
    cases dw with
    | @tup b us _ gt gs =>
    have l1 := dps_len hs
    have l2 := dps_len gs
    refine ⟨a, b, vs, us, rfl, rfl, h, gt, sz_of (by omega), fun e => ?_, fun _ e => ?_, fun _ _ p hp => ?_⟩
    · subst e
      cases hs
      exact k _ μ2 _ H hP (Tk.refl H) g (.tup gt gs)
    · subst e
      cases gs
      rw [List.append_nil] at hP
      exact k _ μ2 _ H hP (Tk.refl H) g (.tup h hs)
    · exact k _ μ2 _ _ hP (Tk.ex (Ex.new hp)) (g.mono (Ex.new hp)) (.tup (st_of upd_same) (dpms (Ex.new hp) (dps_app hs gs)))
/-- xs + ys, lists of the store -/
theorem ew_cat {P1 : W → Mu → Prop} {P2 : W → W → Mu → Prop} {P : W → Mu → Prop} (ha : EvW K E ta ρ μ P1 X) (hb : ∀ x μ1, P1 x μ1 → EvW K E tb ρ μ1 (P2 x) X)
    (hp : ∀ x y μ2, P2 x y μ2 → ∃ a b xs ys, x = .ref a ∧ y = .ref b ∧ μ2 a = some (.ls xs) ∧ μ2 b = some (.ls ys) ∧ xs.length + ys.length ≤ 100000 ∧ ∀ p, μ2 p = none → P (.ref p) (mset μ2 p (.ls (xs ++ ys)))) : EvW K E (tOp rCat ta tb) ρ μ P X :=
  ew_two ha hb fun x y μ2 p2 σ H v w Q g dv dw k => by
    obtain ⟨a, b, xs, ys, rfl, rfl, la, lb, hl, hP⟩ := hp x y μ2 p2
    cases dv
    cases dw
    obtain ⟨vs, h1, r1⟩ := g.2 a _ la
    obtain ⟨us, h2, r2⟩ := g.2 b _ lb
    have l1 := dps_len r1
    have l2 := dps_len r2
    refine ⟨a, b, vs, us, rfl, rfl, h1, h2, sz_of (by omega), fun p hp => ?_⟩
    have tk := Tk.ex (Ex.new (o := .lst (vs ++ us)) hp)
    exact k _ (mset μ2 p (.ls (xs ++ ys))) _ _ (hP p (g.2.free hp)) tk ⟨g.1.tk tk, g.2.put (nt_none hp) ⟨_, upd_same, dpms (Ex.new hp) (dps_app r1 r2)⟩⟩ (.ref p)
/-! d.pop(k, x) as a statement -/
theorem rm_dpop2 {a : Addr} {kvs : List (Key × W)} {k : Key} {x : W} (hd : EvD K td ρ μ (.ref a)) (hk : EvD K ty ρ μ (kW k)) (hx : EvD K tx ρ μ x) (l : μ a = some (.dk kvs)) (hn : N ρ (mset μ a (.dk (dropW kvs k)))) (same : valW kvs k = none → dropW kvs k = kvs) :
    RunM K E (tDrop (tDPop2 td ty tx)) ρ μ N R X := fun D σ H g hN hR hX =>
  hd σ H g _ fun u H1 e1 d1 => by
    cases d1
    obtain ⟨kv1, h1, r1⟩ := g.2.ex e1 a _ l
    refine ⟨a, rfl, .inl ⟨_, .inl h1⟩, hk σ H1 (g.mono e1) _ fun y H2 e2 d2 => hx σ H2 (g.mono (e1.trans e2)) _ fun z H3 e3 d3 => ?_⟩
    have e := (e1.trans e2).trans e3
    obtain ⟨kv, h, r⟩ := g.2.ex e a _ l
    have tk := Tk.upd (o := .dK (dropK kv k)) (nt_dk h)
    refine ⟨kv, k, h, kv_of d2, fun v hv => ?_, fun hv => ?_⟩
    · have t := (Tk.ex e).trans tk
      exact hN ρ (mset μ a (.dk (dropW kvs k))) σ _ hn t ⟨g.1.tk t, (g.2.ex e).put (nt_dk h) ⟨_, upd_same, rwp_drop (rwpm tk r)⟩⟩
    · have hv2 : valW kvs k = none := by
        cases f : valW kvs k with
        | none => rfl
        | some w =>
          obtain ⟨u, f1, _⟩ := (rwp_val r).2 w f
          rw [hv] at f1
          cases f1
      have em : mset μ a (.dk (dropW kvs k)) = μ := by
        funext b
        by_cases hb : b = a
        · rw [hb, mset_same, same hv2, l]
        · rw [mset_ne hb]
      rw [em] at hn
      exact hN ρ μ σ _ hn (Tk.ex e) (g.mono e)
/-! comprehension over range(n) -/
theorem el_lcR {ta : TA} {j : Nat} {n : Int} (v : Int → W) (h : EvS K ta ρ μ [.int n]) (hn : 0 ≤ n ∧ n ≤ 40000) (he : ∀ i : Nat, (i : Int) < n → EvD K te ((ρ.set j none).set j (some (.int (i : Int)))) μ (v (i : Int))) :
    EvL K (tLc (iRng1 ta) (gName j) tYes te [j]) ρ μ ((List.range n.toNat).map fun (i : Nat) => v (i : Int)) := fun σ H g Q q =>
  h σ H g _ fun vs H1 e1 d1 => by
    obtain ⟨u, rfl, du⟩ := dps1 d1
    cases du
    refine ⟨n, rfl, by omega, by omega, fun D hD => lc_range (lo := 0) (n := n.toNat) (fun i H' => Ex H1 H' ∧ ∃ acc, H' D = some (.lst acc) ∧ acc.length ≤ i ∧ RwAll K H' acc ((List.range i).map fun (i : Nat) => v (i : Int))) ⟨Ex.new hD, [], upd_same, Nat.le_refl _, .nil⟩ (fun i H' hi w => ?_) (fun H' w => ?_)⟩
    · obtain ⟨ex, acc, hacc, hlen, r⟩ := w
      have gg : S K H' ((wipe σ [j]).set j (some (.int (i : Int)))) ((ρ.set j none).set j (some (.int (i : Int)))) μ := ((g.mono (e1.trans ex)).hide (v := none) j).put j (.int _)
      show (fun σ2 H2 => _) ((wipe σ [j]).set j (some (.int ((0 : Int) + (i : Int))))) H'
      rw [Int.zero_add]
      refine ⟨wipe1 σ j (some (.int (i : Int))), ?_⟩
      show te ((wipe σ [j]).set j (some (.int (i : Int)))) H' _
      refine he i (by omega) _ H' gg _ fun u H4 e4 d4 => ?_
      refine ⟨acc, e4 _ _ hacc, sz_lt (by omega), Ex.mut (ex.trans e4) hD, acc ++ [u], upd_same, by rw [List.length_append]; simp; omega, ?_⟩
      have tk : Tk H4 (upd H4 D (.lst (acc ++ [u]))) := Tk.upd (nt_lst (e4 _ _ hacc))
      rw [List.range_succ, List.map_append]
      exact dps_app (rwms tk (dpms e4 r)) (.cons (rwm tk d4) .nil)
    · obtain ⟨ex, acc, hacc, hlen, r⟩ := w
      exact q D acc H' (e1.trans ex) (fresh_back e1 hD) hacc r
end
end Pw

namespace Pw
open PySem L2 Evl
open Pd (sLt abc)
def vals3 : List Str := ["x", "y", ""]
def valueF (r : Int) : Str := if r % 4 < 3 then vals3.getD (r / 4 % 3).toNat "" else Pd.word (r / 4 % 41) printable (r / 164)
def answerB : PyData → Bool
  | .tuple (.str k :: r) =>
    if k = "value" ∨ k = "other" then toldB (.str k :: r) else if k = "none" ∨ k = "done" then decide (r.length = 0) else if k = "page" then pageB (.str k :: r) else false
  | _ => false
theorem all_strOk {x : Str} : PyData.strOk x = true ↔ ∀ c ∈ x.cps.toList, c < 0x110000 := by
  unfold PyData.strOk
  rw [← Array.all_toList, List.all_eq_true]
  simp
theorem strOk_app {x y : Str} (hx : PyData.strOk x = true) (hy : PyData.strOk y = true) : PyData.strOk (x ++ y) = true := by
  rw [all_strOk] at *
  intro c hc
  have e : (x ++ y).cps.toList = x.cps.toList ++ y.cps.toList := by
    show (x.cps ++ y.cps).toList = _
    rw [Array.toList_append]
  rw [e, List.mem_append] at hc
  rcases hc with h | h
  · exact hx c h
  · exact hy c h
theorem sign_ok {ch : Str} (h : PyData.strOk ch = true) (r : Int) : Pd.sign ch r < 0x110000 := by
  unfold Pd.sign
  rw [List.getD_eq_getElem?_getD]
  cases e : ch.cps.toList[(r % (ch.length : Int)).toNat]? with
  | none => exact (by decide : 0 < 0x110000)
  | some c => exact all_strOk.mp h c (List.mem_of_getElem? e)
theorem strOk_wst {ch : Str} (h : PyData.strOk ch = true) (seed : Int) : ∀ n, PyData.strOk (Pd.wst ch seed n).1 = true
  | 0 => by
    show PyData.strOk "" = true
    decide +kernel
  | n + 1 => by
    show PyData.strOk ((Pd.wst ch seed n).1 ++ (⟨#[Pd.sign ch (Pd.wst ch seed n).2]⟩ : Str)) = true
    refine strOk_app (strOk_wst h seed n) (all_strOk.mpr fun c hc => ?_)
    have e : c = Pd.sign ch (Pd.wst ch seed n).2 := by simpa using hc
    rw [e]
    exact sign_ok h _
theorem okS_word {ch : Str} (h : PyData.strOk ch = true) {n : Int} (seed : Int) (hn : n ≤ 1000) : okS (Pd.word n ch seed) := by
  refine ⟨?_, strOk_wst h seed _⟩
  unfold Pd.word
  rw [Pd.wst_len]
  omega
theorem okS_lit {x : Str} (h : (decide (x.length ≤ 1000) && PyData.strOk x) = true) : okS x := ⟨of_decide_eq_true (Bool.and_eq_true_iff.mp h).1, (Bool.and_eq_true_iff.mp h).2⟩
theorem okS_mem {zs : List Str} (h : zs.all (fun x => decide (x.length ≤ 1000) && PyData.strOk x) = true) {x : Str} (hx : x ∈ zs) : okS x := okS_lit (List.all_eq_true.mp h x hx)
theorem okS_getD {zs : List Str} (h : zs.all (fun x => decide (x.length ≤ 1000) && PyData.strOk x) = true) (i : Nat) : okS (zs.getD i "") := by
  rw [List.getD_eq_getElem?_getD]
  cases e : zs[i]? with
  | none => exact okS_lit (by decide +kernel)
  | some x => exact okS_mem h (List.mem_of_getElem? e)
theorem okS_key (r : Int) : okS (Pd.keyF r) := by
  unfold Pd.keyF
  split
  · exact okS_getD (by decide +kernel) _
  · refine okS_word (by decide +kernel) _ ?_
    have := Int.emod_lt_of_pos (r / 4) (show (0 : Int) < 8 by decide)
    omega
theorem okS_value (r : Int) : okS (valueF r) := by
  unfold valueF
  split
  · exact okS_getD (by decide +kernel) _
  · refine okS_word (by decide +kernel) _ ?_
    have := Int.emod_lt_of_pos (r / 4) (show (0 : Int) < 41 by decide)
    omega
/-! dicts from texts to texts -/
def encS (m : List (Str × Str)) : List (Key × W) := m.map fun p => (Sum.inr p.1, W.str p.2)
def putS (m : List (Str × Str)) (k v : Str) : List (Str × Str) := if (m.any fun p => decide (p.1 = k)) = true then m.map (fun p => if p.1 = k then (p.1, v) else p) else m ++ [(k, v)]
def dropS (m : List (Str × Str)) (k : Str) : List (Str × Str) := m.filter fun p => decide (p.1 ≠ k)
def valS (m : List (Str × Str)) (k : Str) : Option Str := (m.find? fun p => decide (p.1 = k)).map (·.2)
theorem dec_inr (a b : Str) : decide ((Sum.inr a : Key) = Sum.inr b) = decide (a = b) := by
  by_cases h : a = b
  · subst h
    simp
  · rw [decide_eq_false h, decide_eq_false fun e => h (Sum.inr.inj e)]
theorem encS_any (m : List (Str × Str)) (k : Str) : ((encS m).any fun p => decide (p.1 = Sum.inr k)) = (m.any fun p => decide (p.1 = k)) := by
  induction m with
  | nil => rfl
  | cons a r ih =>
    show (decide ((Sum.inr a.1 : Key) = Sum.inr k) || (encS r).any fun p => decide (p.1 = Sum.inr k)) = (decide (a.1 = k) || r.any fun p => decide (p.1 = k))
    rw [ih, dec_inr]
theorem encS_put (m : List (Str × Str)) (k v : Str) : putW (encS m) (Sum.inr k) (.str v) = encS (putS m k v) := by
  unfold putW putS
  rw [encS_any]
  split
  · unfold encS
    rw [List.map_map, List.map_map]
    apply List.map_congr_left
    intro p _
    show (if (Sum.inr p.1 : Key) = Sum.inr k then _ else _) = _
    by_cases h : p.1 = k
    · rw [if_pos (congrArg Sum.inr h)]
      show _ = ((Sum.inr (if p.1 = k then (p.1, v) else p).1 : Key), W.str (if p.1 = k then (p.1, v) else p).2)
      rw [if_pos h]
    · rw [if_neg fun e => h (Sum.inr.inj e)]
      show _ = ((Sum.inr (if p.1 = k then (p.1, v) else p).1 : Key), W.str (if p.1 = k then (p.1, v) else p).2)
      rw [if_neg h]
  · unfold encS
    rw [List.map_append]
    rfl
theorem encS_drop (m : List (Str × Str)) (k : Str) : dropW (encS m) (Sum.inr k) = encS (dropS m k) := by
  unfold dropW dropS encS
  rw [List.filter_map]
  congr 1
  apply List.filter_congr
  intro p _
  show decide ((Sum.inr p.1 : Key) ≠ Sum.inr k) = decide (p.1 ≠ k)
  by_cases h : p.1 = k
  · simp [h]
  · have h2 : ¬ (Sum.inr p.1 : Key) = Sum.inr k := fun e => h (Sum.inr.inj e)
    simp [h, h2]
theorem encS_val (m : List (Str × Str)) (k : Str) : valW (encS m) (Sum.inr k) = (valS m k).map W.str := by
  unfold valW valS encS
  induction m with
  | nil => rfl
  | cons a r ih =>
    rw [List.map_cons, List.find?_cons, List.find?_cons]
    have e : decide (((Sum.inr a.1 : Key), W.str a.2).1 = Sum.inr k) = decide (a.1 = k) := dec_inr _ _
    rw [e]
    cases decide (a.1 = k) with
    | true => rfl
    | false => exact ih
theorem encS_K (m : List (Str × Str)) : encS m = encK (m.map fun p => (p.1, W.str p.2)) := by
  unfold encS encK
  rw [List.map_map]
  rfl
theorem keysS (m : List (Str × Str)) : (m.map fun p => (p.1, W.str p.2)).map (·.1) = m.map (·.1) := by
  rw [List.map_map]
  rfl
theorem putS_len (m : List (Str × Str)) (k v : Str) : (putS m k v).length ≤ m.length + 1 := by
  unfold putS
  split
  · rw [List.length_map]
    omega
  · rw [List.length_append]
    simp
theorem dropS_len (m : List (Str × Str)) (k : Str) : (dropS m k).length ≤ m.length := List.length_filter_le _ _
theorem valS_mem {m : List (Str × Str)} {k v : Str} (h : valS m k = some v) : (k, v) ∈ m := by
  unfold valS at h
  obtain ⟨p, hp, rfl⟩ := Option.map_eq_some_iff.mp h
  have h1 := List.find?_some hp
  have h2 := List.mem_of_find?_eq_some hp
  rw [← of_decide_eq_true h1]
  exact h2
theorem valS_some {m : List (Str × Str)} {k : Str} (h : k ∈ m.map (·.1)) : ∃ v, valS m k = some v := by
  obtain ⟨p, hp, rfl⟩ := List.mem_map.mp h
  unfold valS
  cases e : m.find? fun q => decide (q.1 = p.1) with
  | some q => exact ⟨q.2, rfl⟩
  | none =>
    have := List.find?_eq_none.mp e p hp
    simp at this
theorem valS_none {m : List (Str × Str)} {k : Str} (h : valS m k = none) : dropS m k = m := by
  unfold dropS
  apply List.filter_eq_self.mpr
  intro p hp
  apply decide_eq_true
  intro e
  obtain ⟨v, hv⟩ := valS_some (k := k) (List.mem_map.mpr ⟨p, hp, e⟩)
  rw [h] at hv
  cases hv
/-- good texts in a dict -/
def okM (m : List (Str × Str)) : Prop := ∀ p ∈ m, okS p.1 ∧ okS p.2
theorem okM_put {m : List (Str × Str)} {k v : Str} (h : okM m) (hk : okS k) (hv : okS v) : okM (putS m k v) := by
  unfold putS
  split
  · intro p hp
    obtain ⟨q, hq, rfl⟩ := List.mem_map.mp hp
    split
    · exact ⟨(h q hq).1, hv⟩
    · exact h q hq
  · intro p hp
    rcases List.mem_append.mp hp with e | e
    · exact h p e
    · rw [List.mem_singleton.mp e]
      exact ⟨hk, hv⟩
theorem okM_drop {m : List (Str × Str)} {k : Str} (h : okM m) : okM (dropS m k) := fun p hp => h p (List.mem_filter.mp hp).1
/-- the pairs in the order of their keys -/
def kinds6 : List Str := ["value", "none", "done", "other", "page", "page"]
def pairO (m : List (Str × Str)) : W → W
  | .str k => .tup [.str k, .str ((valS m k).getD "")]
  | w => w
def pairW (m : List (Str × Str)) (k : Str) : W := .tup [.str k, .str ((valS m k).getD "")]
end Pw

namespace Pw
open PySem L2 Evl
open Pd (sLt abc)
def odd1 : List W := [.str "", .str "A", .str "a", .str (Txt.mul "x" 41), .str "a\n", .int 0, .bl true, .non, .tup [], .tup [.str "a"], .tup [.tup [.str "a", .str "x"]], .tup [.tup [.str "b", .str "x"], .tup [.str "a", .str "y"]], .str "page"]
def odd2 (q : Addr) : List W := [.tup [.tup [.str "a", .str "x"], .tup [.str "a", .str "x"]], .tup [.tup [.str "", .str "x"]], .tup [.tup [.str "a", .int 1]], .tup [.tup [.str "a"]], .ref q, .str "none", .str "abcdefghi"]
/-! good whatever stands in the store -/
mutual
def goodW (n : Nat) : W → Bool
  | .non | .bl _ | .int _ => true
  | .str x => decide (x.length ≤ 1000) && PyData.strOk x
  | .ref _ => false
  | .tup ws => match n with
    | 0 => false
    | m + 1 => goodWs m ws
def goodWs (n : Nat) : List W → Bool
  | [] => true
  | w :: r => goodW n w && goodWs n r
end
mutual
theorem goodW_ok {μ : Mu} : ∀ {n : Nat} {w : W}, goodW n w = true → Good n μ w
  | n, .non, _ => good_non
  | n, .bl _, _ => good_bl
  | n, .int _, _ => good_int
  | n, .str x, h => by
    unfold goodW at h
    exact good_str (okS_lit h)
  | n, .ref _, h => by
    unfold goodW at h
    cases h
  | 0, .tup ws, h => by
    unfold goodW at h
    cases h
  | n + 1, .tup ws, h => by
    unfold goodW at h
    exact good_tup (goodWs_ok h)
theorem goodWs_ok {μ : Mu} : ∀ {n : Nat} {ws : List W}, goodWs n ws = true → ∀ w ∈ ws, Good n μ w
  | n, [], _ => fun _ h => by cases h
  | n, w :: r, h => fun u hu => by
    unfold goodWs at h
    obtain ⟨h1, h2⟩ := Bool.and_eq_true_iff.mp h
    rcases List.mem_cons.mp hu with e | e
    · rw [e]
      exact goodW_ok h1
    · exact goodWs_ok h2 u e
end
theorem odd1_good {μ : Mu} : ∀ u ∈ odd1, Good 4 μ u := goodWs_ok (by decide +kernel)
theorem odd2_good {μ : Mu} {q : Addr} (l : isL μ q [.tup [.str "a", .str "x"]]) : ∀ u ∈ odd2 q, Good 4 μ u := fun u hu => by
  have h1 : ∀ u ∈ [W.tup [.tup [.str "a", .str "x"], .tup [.str "a", .str "x"]], .tup [.tup [.str "", .str "x"]], .tup [.tup [.str "a", .int 1]], .tup [.tup [.str "a"]], .str "none", .str "abcdefghi"], Good 4 μ u := goodWs_ok (by decide +kernel)
  unfold odd2 at hu
  simp only [List.mem_cons, List.not_mem_nil, or_false] at hu
  rcases hu with e | e | e | e | e | e | e
  all_goals rw [e]
  · exact h1 _ (by simp)
  · exact h1 _ (by simp)
  · exact h1 _ (by simp)
  · exact h1 _ (by simp)
  · refine (good_lst (n := 1) l (goodWs_ok (by decide +kernel))).le (by decide)
  · exact h1 _ (by simp)
  · exact h1 _ (by simp)
def tenL : List Nat := ("abcdefghij" : Str).cps.toList
theorem ten_at {n : Nat} (h : n < 10) : ("abcdefghij" : Str).cps.toList[n]? = some (tenL.getD n 0) := by
  have e : n < tenL.length := by
    rw [show tenL.length = 10 by decide +kernel]
    exact h
  show tenL[n]? = _
  rw [List.getD_eq_getElem?_getD, List.getElem?_eq_getElem e]
  rfl
def pairR (i : Int) : W := .tup [.str (("k" : Str) ++ ⟨#[tenL.getD (i / 10).toNat 0]⟩ ++ ⟨#[tenL.getD (i % 10).toNat 0]⟩), .str "x"]
theorem ten_ok (n : Nat) : tenL.getD n 0 < 0x110000 := by
  rw [List.getD_eq_getElem?_getD]
  cases e : tenL[n]? with
  | none => exact (by decide : 0 < 0x110000)
  | some c =>
    have h : ∀ c ∈ tenL, c < 0x110000 := by decide +kernel
    exact h c (List.mem_of_getElem? e)
theorem pairR_good {μ : Mu} (i : Int) : Good 1 μ (pairR i) := by
  refine good_tup (n := 0) fun u hu => ?_
  rcases List.mem_cons.mp hu with e | hu
  · rw [e]
    refine good_str ⟨?_, ?_⟩
    · rw [Pd.len_app, Pd.len_app]
      show 1 + 1 + 1 ≤ 1000
      decide
    · have s : ∀ n, PyData.strOk (⟨#[tenL.getD n 0]⟩ : Str) = true := fun n => all_strOk.mpr fun c hc => by
        have e : c = tenL.getD n 0 := by simpa using hc
        rw [e]
        exact ten_ok n
      exact strOk_app (strOk_app (by decide +kernel) (s _)) (s _)
  · rw [List.mem_singleton.mp hu]
    exact good_str (okS_lit (by decide +kernel))
section
variable {K : Frag} {E : XK} {ρ : Rho} {μ : Mu} {te tl ta tb td ty tx : TE} {t u : TT} {t1 t2 : TS} {X : Value → Mu → Prop} {N : Rho → Mu → Prop} {R : W → Mu → Prop}
theorem rm_retWS (h : EvW K E te ρ μ R X) : RunM K E (tSeq (tRet te) t2) ρ μ N R X := fun D σ H g _ hR hX => h σ H g _ (fun w μ' v H' r e g' dv => hR w μ' v H' r e g'.2 dv) hX
/-- tuple(list of the store) -/
theorem ed_tupO {a : Addr} {ws : List W} (h : EvD K te ρ μ (.ref a)) (l : isL μ a ws) : EvD K (tCB (rTupL K) (tCons te tNil)) ρ μ (.tup ws) := fun σ H g Q q =>
  h σ H g _ fun v H1 e1 d1 => by
    cases d1
    obtain ⟨vs, hq, hs⟩ := l.sq (g.2.ex e1)
    exact ⟨a, vs, rfl, .inl ⟨hq, fun p hp => q _ _ (e1.trans (Ex.new hp)) (.tup (st_of upd_same) (dpms (Ex.new hp) hs))⟩⟩
/-- an item of a list that is written there, its items changing the store -/
theorem ew_pickA {ta : TA} {Pa : List W → Mu → Prop} {P : W → Mu → Prop} (h : EvA K E ta ρ μ Pa X) (hp : ∀ ws μ', Pa ws μ' → ∃ (i : Int) (x : W), ws.length ≤ 100000 ∧ EvD K tb ρ μ' (.int i) ∧ 0 ≤ i ∧ ws[i.toNat]? = some x ∧ P x μ') : EvW K E (tOp (rIxL K) (tLst ta) tb) ρ μ P X := fun σ H g Q q hX =>
  h σ H g _ (fun ws μ1 vs H1 p e1 g1 ds => by
    obtain ⟨i, x, hl, hb, hi, hx, hP⟩ := hp ws μ1 p
    refine ⟨sz_of (by rw [dps_len ds]; exact hl), fun a ha => hb σ _ (g1.mono (Ex.new ha)) _ fun w H2 e2 dw => ?_⟩
    cases dw
    obtain ⟨v, f1, f2⟩ := dps_at i.toNat ds hx
    exact ⟨a, vs, i, v, rfl, rfl, sq_of (e2 _ _ upd_same), at_of (by omega) f1, q x μ1 v H2 hP (e1.trans (Tk.ex ((Ex.new ha).trans e2))) (g1.mono ((Ex.new ha).trans e2)) (dpm ((Ex.new ha).trans e2) f2)⟩) hX
end
end Pw

namespace Pw
open PySem L2 Evl
open Pd (sLt abc)
/-- None or a key -/
def folB : PyData → Bool
  | .none => true
  | .str y => keyS y
  | _ => false
def endB (last : Str) : PyData → Bool
  | .none => true
  | .str y => sLt last y
  | _ => false
theorem fol_eq {μ : Mu} {y : W} {e : PyData} (z : Dw μ y e) : (!isNone y && !keyB e) = !folB e := by
  cases z <;> rfl
theorem page_eq (a : PyData) (ps : List PyData) (e : PyData) : pageB [a, .tuple ps, e] = ((pairsFrom "" ps && decide ((ps.length : Int) ≤ 50)) && (folB e && endB (lastKey "" ps) e)) := by
  unfold pageB
  cases e <;> rfl
theorem page_ntup {a d e : PyData} (h : (Pd.tyN d == "tuple") = false) : pageB [a, d, e] = false := by
  cases d <;> first | rfl | exact absurd h (show ¬ ("tuple" == "tuple") = false by decide)
theorem ntup_ans {d : PyData} (h : (Pd.tyN d == "tuple") = false) : answerB d = false := by
  cases d <;> first | rfl | exact absurd h (show ¬ ("tuple" == "tuple") = false by decide)
theorem ans_cons (k : Str) (r : List PyData) : answerB (.tuple (.str k :: r)) =
    if k = "value" ∨ k = "other" then toldB (.str k :: r) else if k = "none" ∨ k = "done" then decide (r.length = 0) else if k = "page" then pageB (.str k :: r) else false := rfl
theorem page_head (d e : PyData) : pageB [.none, d, e] = answerB (.tuple [.str "page", d, e]) := by
  rw [ans_cons, if_neg (by decide +kernel), if_neg (by decide +kernel), if_pos rfl]
  cases d <;> rfl
theorem eqv_nil : ∀ r : List PyData, PyData.eqvAll r [] = decide (r.length = 0)
  | [] => rfl
  | _ :: _ => rfl
theorem due_end {kk : Str} {dr : List PyData} (cp : (decide (kk = "page") && decide ((dr.length : Int) + 1 = 3)) = false) (cv : (decide (kk ∈ (["value", "other"] : List Str)) && decide ((dr.length : Int) + 1 = 2)) = false) :
    (PyData.eqv (.tuple (.str kk :: dr)) (.tuple [.str "none"]) || PyData.eqv (.tuple (.str kk :: dr)) (.tuple [.str "done"])) = answerB (.tuple (.str kk :: dr)) := by
  have e1 : ∀ x : Str, PyData.eqv (.tuple (.str kk :: dr)) (.tuple [.str x]) = ((kk == x) && decide (dr.length = 0)) := fun x => by
    show ((kk == x) && PyData.eqvAll dr []) = _
    rw [eqv_nil]
  rw [e1, e1, ans_cons]
  by_cases h1 : kk = "value" ∨ kk = "other"
  · rw [if_pos h1]
    have hm : kk ∈ (["value", "other"] : List Str) := by simpa using h1
    rw [decide_eq_true hm, Bool.true_and] at cv
    have hl := of_decide_eq_false cv
    have ht : toldB (.str kk :: dr) = false := by
      unfold toldB
      split
      · rename_i e
        injection e with e1 e2
        rw [e2] at hl
        exact absurd rfl hl
      · rfl
    rw [ht]
    rcases h1 with h | h <;> subst h <;> rfl
  · rw [if_neg h1]
    by_cases h2 : kk = "none" ∨ kk = "done"
    · rw [if_pos h2]
      rcases h2 with h | h <;> subst h
      · show (true && _ || (("none" : Str) == "done") && _) = _
        rw [show (("none" : Str) == "done") = false by decide +kernel, Bool.true_and, Bool.false_and, Bool.or_false]
      · show ((("done" : Str) == "none") && _ || _ && _) = _
        rw [show (("done" : Str) == "none") = false by decide +kernel, show (("done" : Str) == "done") = true by decide +kernel, Bool.true_and, Bool.false_and, Bool.false_or]
    · rw [if_neg h2]
      have n1 : (kk == "none") = false := beq_eq_false_iff_ne.mpr fun q => h2 (.inl q)
      have n2 : (kk == "done") = false := beq_eq_false_iff_ne.mpr fun q => h2 (.inr q)
      rw [n1, n2, Bool.false_and, Bool.false_or]
      by_cases h3 : kk = "page"
      · rw [if_pos h3]
        rw [decide_eq_true h3, Bool.true_and] at cp
        have hl := of_decide_eq_false cp
        unfold pageB
        split
        · rename_i e
          injection e with e1 e2
          rw [e2] at hl
          exact absurd rfl hl
        · rfl
      · rw [if_neg h3]
section
variable {K : Frag} {ρ : Rho} {μ : Mu} {i : Nat}
/-- a value that is no pair: the law's own test of it -/
theorem not_pair {Wk Wv : List W → Mu → W → Prop} (hk : ∀ w d, Dw μ w d → okD d → Wk [w] μ (.bl (keyB d))) (hv : ∀ w d, Dw μ w d → okD d → Wv [w] μ (.bl (valB d))) {x : W} {d : PyData} (hx : ρ[3]? = some (some x)) (z : Dw μ x d) (k : okD d) (hb : pairB d = false) :
    EvC K (tOr (tNot (tB (tCB (rIsi K) (tCons (tVar 3) (tCons (tC (.ty "tuple")) tNil))))) (tOr (tTest (tOp rNe (tCB (rLenD K) (tCons (tVar 3) tNil)) (tC (.int 2)))) (tOr (tNot (tB (tCall (spP K Wk) [] E0 (tCons (tOp (rIxT K) (tVar 3) (tC (.int 0))) tNil)))) (tNot (tB (tCall (spP K Wv) [] E0 (tCons (tOp (rIxT K) (tVar 3) (tC (.int 1))) tNil))))))) ρ μ true := by
  by_cases hs : (Pd.tyN d == "tuple") = true
  · obtain ⟨ds, rfl⟩ := is_tuple hs
    have kd := okD_tup k
    cases z with
    | @tup ws _ zs =>
    have hl := dw_len zs
    by_cases h2 : (ws.length : Int) = 2
    · match ws, ds, zs, kd, hl, h2, hx with
      | [w1, w2], [d1, d2], .cons z1 (.cons z2 .nil), kd, _, _, hx =>
        have k1 : okD d1 := okDs_at (i := 0) kd rfl
        have k2 : okD d2 := okDs_at (i := 1) kd rfl
        refine (ec_or (ec_not (ec_val (ed_isTuple (ed_var hx) (.tup (.cons z1 (.cons z2 .nil)))))) fun _ => (ec_or (ec_test (ed_neI (ed_lenT (es_cons (ed_var hx) es_nil)) ed_int)) fun _ => (ec_or (ec_not (ec_val (ed_call (es_cons (ed_ixT (ed_var hx) ed_int (by decide) rfl) es_nil) (hk _ _ z1 k1)))) fun _ => (ec_not (ec_val (ed_call (es_cons (ed_ixT (ed_var hx) ed_int (by decide) rfl) es_nil) (hv _ _ z2 k2))))))).is ?_
        have q : (keyB d1 && valB d2) = false := hb
        show (!keyB d1 || !valB d2) = true
        rw [← Bool.not_and, q]
        rfl
      | [], _, _, _, _, q, _ => exact absurd q (by simp)
      | [_], _, _, _, _, q, _ => exact absurd q (by simp)
      | _ :: _ :: _ :: r, _, _, _, _, q, _ => simp at q; omega
    · refine (ec_or (ec_not (ec_val (ed_isTuple (ed_var hx) (.tup zs)))) fun _ => (ec_or (b := true) (ec_test (ed_neI (ed_lenT (es_cons (ed_var hx) es_nil)) ed_int)) fun h => ?_)).is ?_
      · rw [decide_eq_false h2] at h
        cases h
      · rw [Bool.or_true, Bool.or_true]
  · have hs' := Bool.eq_false_iff.mpr hs
    refine (ec_or (b := true) (ec_not (ec_val (ed_isTuple (ed_var hx) z))) fun h => ?_).is (Bool.or_true _)
    rw [hs'] at h
    cases h
end
end Pw

namespace Pw
open PySem L2 Evl
open Pd (sLt abc)
/-- a table of the text, from texts to defs -/
structure TabOf (K : Frag) (w : World) (mg : Str → Option Value) (x : Str) (kfs : List (Str × Str)) : Prop where
  ex : ∃ (a : Addr) (kvs : List (Str × V)), mg x = some (.ref a) ∧ KTab K w a kvs ∧ kvs.map (·.1) = kfs.map (·.1) ∧ ∀ p ∈ kfs, ∃ f, mg p.2 = some (.ref f) ∧ (p.1, V.ref f) ∈ kvs
theorem kind_tup {d : PyData} {k : Str} (h : kindS d = k) (hk : k ≠ "") : ∃ r, d = .tuple (.str k :: r) := by
  unfold kindS at h
  split at h
  · exact ⟨_, by rw [h]⟩
  · exact absurd h.symm hk
theorem ans_kind {d : PyData} (h : ¬ kindS d ∈ (["value", "none", "done", "other", "page"] : List Str)) : answerB d = false := by
  unfold answerB
  split
  · rename_i k r
    have hk : kindS (.tuple (.str k :: r)) = k := rfl
    rw [hk] at h
    simp only [List.mem_cons, List.not_mem_nil, or_false, not_or] at h
    obtain ⟨h1, h2, h3, h4, h5⟩ := h
    rw [if_neg (fun q => q.elim h1 h4), if_neg (fun q => q.elim h2 h3), if_neg h5]
  · rfl
end Pw

namespace Pw
open PySem L2 Evl
theorem ents_out {P : Params} {z : Str} : ∀ {l : List DictEntry} {ks : List Str}, l.map He.keyOf = He.keysIn P ks → z ∉ ks → l.find? (·.key.isStr z) = none ∧ l.any (·.refKey) = false
  | [], _, _, _ => ⟨rfl, rfl⟩
  | e :: r, [], h, _ => by cases h
  | e :: r, k :: ks, h, hz => by
    have h1 : He.keyOf e :: r.map He.keyOf = some (k, PyData.keyHash P k) :: He.keysIn P ks := h
    injection h1 with h2 h3
    obtain ⟨i1, i2⟩ := ents_out h3 fun q => hz (List.mem_cons_of_mem _ q)
    unfold He.keyOf at h2
    split at h2
    · rename_i x t q
      have h4 := Option.some.inj h2
      obtain ⟨h5, h6⟩ := Prod.mk.inj h4
      subst h5
      have hne : ¬ x = z := fun q => hz (q ▸ List.mem_cons_self)
      refine ⟨?_, ?_⟩
      · rw [List.find?_cons, q]
        have this : Value.isStr (.str x t) z = false := by
          show (x == z) = false; exact beq_false_of_ne hne
        simp [this, i1]
      · rw [List.any_cons, i2]
        simp [DictEntry.refKey, q]
    · cases h2
theorem dic_out {K : Frag} {w : World} {a : Addr} {ks : List Str} {z : Str} (h : He.dicW K a = some (He.keysIn w.params ks)) (hz : z ∉ ks) : PySem.W.nsIn K a z = some none := by
  unfold He.dicW at h
  cases q : K.lookup a with
  | none =>
    rw [q] at h
    cases h
  | some o =>
    obtain ⟨oc, od, dt, osl⟩ := o
    rw [q] at h
    cases oc with
    | type c =>
      cases od with
      | none =>
        cases dt with
        | dict es n =>
          have h1 : (match decide (c = "dict") && (osl.isEmpty && !(a == sysModules)) with
            | true => some (es.toList.map He.keyOf)
            | false => none) = some (He.keysIn w.params ks) := h
          cases zz : decide (c = "dict") && (osl.isEmpty && !(a == sysModules)) with
          | false =>
            rw [zz] at h1
            cases h1
          | true =>
            rw [zz] at h1
            obtain ⟨i1, i2⟩ := ents_out (Option.some.inj h1) hz
            unfold PySem.W.nsIn
            rw [q]
            show (match es.toList.find? (·.key.isStr z) with | some e => some (some e.val) | none => if es.toList.any (·.refKey) then none else some none) = some none
            rw [i1]
            show (if es.toList.any (·.refKey) then none else some none) = some none
            rw [i2]
            rfl
        | _ => cases h
      | some b => cases dt <;> cases h
    | _ => cases od <;> cases dt <;> cases h
theorem saysT_dic {fa : List He.Fa} {fn : List He.DefD} {ts : List He.Tab} {w : World} {K : Frag} (c : He.SaysT fa fn ts w K) (i : Nat) {t : He.Tab} (h : ts[i]? = some t := by rfl) : He.dicW K (t.1 K) = some (He.keysIn w.params t.2) := by
  have e : ts.map (fun t => He.dicW K (t.1 K)) = ts.map fun t => some (He.keysIn w.params t.2) := congrArg (fun z : He.AlT => z.2) c
  have e2 : (ts.map fun t => He.dicW K (t.1 K))[i]? = (ts.map fun t => some (He.keysIn w.params t.2))[i]? := by rw [e]
  rw [List.getElem?_map, List.getElem?_map, h] at e2
  exact Option.some.inj e2
theorem tab_of {K : Frag} {w : World} {mg : Str → Option Value} {x : Str} (kfs : List (Str × Str)) (G : mg x = some (.ref (He.ga K x)))
    (hd : He.dicW K (He.ga K x) = some (He.keysIn w.params (kfs.map (·.1)))) (hv : He.valsB K (He.ga K x) (kfs.map fun p => (p.1, He.Dv.glo p.2)) = true) (hf : ∀ p ∈ kfs, mg p.2 = some (.ref (He.ga K p.2))) : TabOf K w mg x kfs := by
  refine ⟨He.ga K x, kfs.map (fun p => (p.1, V.ref (He.ga K p.2))), G, ⟨He.dicW_ok hd, fun z hz => dic_out hd ?_, ?_⟩, ?_, ?_⟩
  · rw [List.map_map] at hz
    exact hz
  · intro p hp
    obtain ⟨q, hq, rfl⟩ := List.mem_map.mp hp
    have hm : (q.1, He.Dv.glo q.2) ∈ (kfs.map fun p => (p.1, He.Dv.glo p.2)) := List.mem_map.mpr ⟨q, hq, rfl⟩
    exact He.valsB_ok hv hm
  · rw [List.map_map]
    rfl
  · intro p hp
    exact ⟨He.ga K p.2, hf p hp, List.mem_map.mpr ⟨p, hp, rfl⟩⟩
end Pw

namespace Pw
open PySem L2 Evl
/-- nothing that is looked at is a list -/
def noLst (K : Frag) : Bool := K.all fun q => match q.2.cls with
  | .type c => !decide (c = "list")
  | _ => true
theorem noLst_no {K : Frag} {a : Addr} {o : Obj} (h : noLst K = true) (e : K.lookup a = some o) : o.cls ≠ .type "list" := fun q => by
  have h2 := List.all_eq_true.mp h _ (He.lookup_mem e)
  rw [show ((a, o) : Addr × Obj).2.cls = .type "list" from q] at h2
  simp at h2
theorem rw_ints {K : Frag} {H : Hp} : ∀ ns : List Int, RwAll K H (ns.map V.int) (ns.map W.int)
  | [] => .nil
  | i :: r => .cons (.int i) (rw_ints r)
theorem law_endM {K : Frag} {H : Hp} {a : Addr} {ns : List Int} {Wf : List W → Mu → (W → Mu → Prop) → (Value → Mu → Prop) → Prop} (hn : noLst K = true) (h : SqL K H a (ns.map V.int))
    (hW : ∀ (μ : Mu), μ a = some (scr ns) → ∀ P : W → Mu → Prop, (∀ μ', P (.bl true) μ') → Wf [.ref a] μ P (fun _ _ => False)) : spM K Wf [.ref a] H (fun v _ => v = .bl true) (fun _ _ _ => False) := by
  have r : Rd H a (.lst (ns.map V.int)) := by
    rcases h with h | ⟨o, its, n, e, c, _⟩
    · exact h
    · exact absurd c (noLst_no hn e)
  refine ⟨[.ref a], fun b => if b = a then some (scr ns) else none, fun w _ => w = .bl true, fun _ _ => False, .cons (.ref a) .nil, fun b o q => ?_, hW _ (if_pos rfl) _ (fun _ => rfl), fun w μ' v H' p _ _ d => ?_, fun _ _ _ x _ _ => x⟩
  · by_cases hb : b = a
    · have q2 := (if_pos hb).symm.trans q
      cases q2
      subst hb
      exact ⟨_, r, rw_ints ns⟩
    · have q2 := (if_neg hb).symm.trans q
      cases q2
  · cases p
    cases d
    rfl
end Pw

namespace Pw
open PySem L2 Evl
open Pd (sLt)
/-! dicts of texts: copies, len, ==, pages -/
def rDictOf : List V → Hp → VK → Prop := fun xs H Q => ∃ (a : Addr) (kvs : List (Key × V)), xs = [.ref a] ∧ Rd H a (.dK kvs) ∧ ∀ p, H p = none → Q (.ref p) (upd H p (.dK kvs))
theorem cr_dictOf {X : Cx} : CallR X (.type "dict") rDictOf := by
  intro pins s σ H xs us Q I r q
  obtain ⟨a, kvs, ex, hd, q⟩ := q
  subst ex
  obtain ⟨u, eu, rx⟩ := vals1 r
  subst eu
  cases rx
  exact d_copyOf I hd fun p s' hp I' => ⟨.ref p, _, I', rfl, q p hp⟩
def rLenK : List V → Hp → VK → Prop := fun xs H Q => ∃ a kvs, xs = [V.ref a] ∧ H a = some (.dK kvs) ∧ Q (.int kvs.length) H
theorem cr_lenK {X : Cx} : CallR X (.builtin "len") rLenK := call_lenD
section
variable {K : Frag} {E : XK} {ρ : Rho} {μ : Mu} {te tl ta tb td ty tx tv : TE} {t u : TT} {t1 t2 : TS} {X : Value → Mu → Prop} {N : Rho → Mu → Prop} {R : W → Mu → Prop} {P : W → Mu → Prop}
theorem ew_dcopy {ta : TA} {a : Addr} {kvs : List (Key × W)} (ha : EvS K ta ρ μ [.ref a]) (l : μ a = some (.dk kvs)) : EvW K E (tCB rDictOf ta) ρ μ (fun w μ' => ∃ p, μ p = none ∧ w = .ref p ∧ μ' = mset μ p (.dk kvs)) X := fun σ H g Q q _ =>
  ha σ H g _ fun vs H1 e1 d1 => by
    obtain ⟨v, rfl, dv⟩ := dps1 d1
    cases dv
    obtain ⟨kv, h, r⟩ := g.2.ex e1 a _ l
    refine ⟨a, kv, rfl, .inl h, fun p hp => ?_⟩
    have t := (Tk.ex e1).trans (Tk.ex (Ex.new (o := .dK kv) hp))
    exact q (.ref p) (mset μ p (.dk kvs)) (.ref p) _ ⟨p, (g.2.ex e1).free hp, rfl, rfl⟩ t ⟨g.1.tk t, (g.2.ex e1).put (nt_none hp) ⟨kv, upd_same, rwpm (Tk.ex (Ex.new hp)) r⟩⟩ (.ref p)
theorem ed_lenK {ta : TA} {a : Addr} {kvs : List (Key × W)} (h : EvS K ta ρ μ [.ref a]) (l : μ a = some (.dk kvs)) : EvD K (tCB rLenK ta) ρ μ (.int (kvs.length : Int)) := ed_cbm h fun H vs Q m d1 k => by
  obtain ⟨v, rfl, dv⟩ := dps1 d1
  cases dv
  obtain ⟨kv, h, r⟩ := m a _ l
  refine ⟨a, kv, rfl, h, ?_⟩
  rw [rwp_len r]
  exact k _ H (Ex.refl H) (.int _)
theorem rwp_str {H : Hp} : ∀ {m : List (Str × Str)} {kv : List (Key × V)}, RwP K H kv (encS m) → kv = m.map fun p => ((Sum.inr p.1 : Key), V.str p.2)
  | [], _, h => by
    cases h
    rfl
  | p :: r, _, h => by
    cases h with
    | cons a b =>
      rename_i q ps
      obtain ⟨qk, qv⟩ := q
      obtain ⟨a1, a2⟩ := a
      have a1 : qk = Sum.inr p.1 := a1
      have a2 : Rw K H qv (.str p.2) := a2
      cases a2
      subst a1
      rw [rwp_str b]
      rfl
theorem valV_map (m : List (Str × Str)) (k : Str) : valV (m.map fun p => ((Sum.inr p.1 : Key), V.str p.2)) (Sum.inr k) = (valS m k).map V.str := by
  unfold valV valS
  induction m with
  | nil => rfl
  | cons a r ih =>
    rw [List.map_cons, List.find?_cons, List.find?_cons]
    have e : decide (((Sum.inr a.1 : Key), V.str a.2).1 = Sum.inr k) = decide (a.1 = k) := dec_inr _ _
    rw [e]
    cases decide (a.1 = k) with
    | true => rfl
    | false => exact ih
theorem ed_eqV {a b : Addr} {m : List (Str × Str)} (ha : EvD K ta ρ μ (.ref a)) (hb : EvD K tb ρ μ (.ref b)) (la : μ a = some (.dk (encS m))) (lb : μ b = some (.dk (encS m))) (hf : ∀ p ∈ m, valS m p.1 = some p.2) : EvD K (tOp (rEqV K) ta tb) ρ μ (.bl true) :=
  ed_twom ha hb fun H v w Q mm dv dw k => by
    cases dv
    cases dw
    obtain ⟨ka, h1, r1⟩ := mm a _ la
    obtain ⟨kb, h2, r2⟩ := mm b _ lb
    have e1 := rwp_str r1
    have e2 := rwp_str r2
    subst e1
    subst e2
    refine ⟨1, by decide, .inr ⟨a, b, _, _, rfl, rfl, h1, h2, rfl, fun p hp => ?_⟩, k _ H (Ex.refl H) (.bl _)⟩
    obtain ⟨q, hq, rfl⟩ := List.mem_map.mp hp
    refine ⟨.str q.2, ?_, .inl ⟨rfl, rfl⟩⟩
    rw [valV_map, hf q hq]
    rfl
/-- [v(x) for x in a tuple] -/
theorem el_lcT {ws : List W} {j : Nat} (v : W → W) (h : EvD K te ρ μ (.tup ws)) (hz : ws.length ≤ 40000) (he : ∀ x, x ∈ ws → EvD K tv ((ρ.set j none).set j (some x)) μ (v x)) :
    EvL K (tLc (iTup K te) (gName j) tYes tv [j]) ρ μ (ws.map v) := fun σ H g Q q =>
  h σ H g _ fun v1 H1 e1 d1 => by
    cases d1 with
    | tup hq r1 =>
      rename_i a us
      refine ⟨a, rfl, ⟨_, hq⟩, fun D hD => ?_⟩
      have hl := dps_len r1
      refine lc_tup (xs := us) (fun i H' => Ex H1 H' ∧ ∃ acc, H' D = some (.lst acc) ∧ acc.length ≤ i ∧ RwAll K H' acc ((ws.take i).map v)) ⟨Ex.new hD, [], upd_same, Nat.le_refl _, .nil⟩ (fun i H' _ w => tk_t (Tk.ex w.1) hq) (fun i x H' hx w => ?_) (fun H' w => ?_)
      · obtain ⟨ex, acc, hacc, hlen, r⟩ := w
        obtain ⟨y, hy, dy⟩ := dps_to i r1 hx
        have hi : i < us.length := (List.getElem?_eq_some_iff.mp hx).1
        have gg : S K H' ((wipe σ [j]).set j (some x)) ((ρ.set j none).set j (some y)) μ := ((g.mono (e1.trans ex)).hide (v := none) j).put j (dpm ex dy)
        refine ⟨wipe1 σ j (some x), ?_⟩
        have ws1 : ws.take (i + 1) = ws.take i ++ [y] := by rw [List.take_add_one, hy]; rfl
        show tv ((wipe σ [j]).set j (some x)) H' _
        refine he y (List.mem_of_getElem? hy) _ H' gg _ fun u H4 e4 d4 => ?_
        refine ⟨acc, e4 _ _ hacc, sz_lt (by omega), Ex.mut (ex.trans e4) hD, acc ++ [u], upd_same, by rw [List.length_append]; simp; omega, ?_⟩
        have tk : Tk H4 (upd H4 D (.lst (acc ++ [u]))) := Tk.upd (nt_lst (e4 _ _ hacc))
        rw [ws1, List.map_append]
        exact dps_app (rwms tk (dpms e4 r)) (.cons (rwm tk d4) .nil)
      · obtain ⟨ex, acc, hacc, hlen, r⟩ := w
        rw [hl, List.take_length] at r
        exact q D acc H' (e1.trans ex) (fresh_back e1 hD) hacc r
/-- a list of the store == a new list -/
theorem ed_eqL {a : Addr} {ws us : List W} {dx dy : List PyData} (ha : EvD K ta ρ μ (.ref a)) (l : isL μ a ws) (hb : EvL K tb ρ μ us) (zx : DwAll μ ws dx) (zy : DwAll μ us dy) (hx : SeqAt.shaped (.list dx) = true) (hy : SeqAt.shaped (.list dy) = true) :
    EvD K (tOp (rEqD K) ta tb) ρ μ (.bl (PyData.eqv (.list dx) (.list dy))) := fun σ H g Q q =>
  ha σ H g _ fun v H1 e1 d1 => hb σ H1 (g.mono e1) _ fun p vs H2 e2 hp h2 r => by
    have m1 := g.2.ex (e1.trans e2)
    exact ⟨.list dx, .list dy, dp_of m1 (.lst l zx) (dpm e2 d1), .lst (SqL.of h2) (dps_of m1 zy r), hx, hy, q _ H2 (e1.trans e2) (.bl _)⟩
/-- x = TABLE[k] (a def), then return x(..), which may change the store -/
theorem rm_disp {w : World} {a : Addr} {kvs : List (Str × V)} {z : Str} {f : Addr} {i : Nat} {Wf : List W → Mu → (W → Mu → Prop) → (Value → Mu → Prop) → Prop} {ta : TA} {xs : List W} (T : KTab K w a kvs) (hz : (z, V.ref f) ∈ kvs) (hk : EvD K tb ρ μ (.str z)) (hi : i < ρ.length)
    (h : EvS K ta (ρ.set i none) μ xs) (hw : Wf xs μ R X) : RunM K E (tSeq (tAsg (tOp (rIxD K w) (tC (.ref a)) tb) (gName i)) (tRet (tCallL i f (spM K Wf) [] E ta))) ρ μ N R X := fun D σ H g hN hR hX =>
  hk σ H g _ fun v H1 e1 d1 => by
    cases d1
    obtain ⟨es, n, KD⟩ := T.dct
    obtain ⟨u, hu, ru⟩ := T.at_ _ hz
    refine ⟨a, z, .ref f, rfl, rfl, ⟨es, n, u, KD.at_, KD.lit, hu, ru⟩, ?_⟩
    have g1 := (g.mono e1).hide (v := some (.ref f)) i
    refine ⟨by rw [List.getElem?_set, if_pos rfl, if_pos (by rw [g.1.1]; exact hi)], h _ H1 g1 _ fun vs H2 e2 d2 => ?_⟩
    show spM K Wf (vs ++ []) H2 _ E
    rw [List.append_nil]
    have t := (Tk.ex e1).trans (Tk.ex e2)
    exact ⟨xs, μ, R, X, d2, g1.2.ex e2, hw, fun w μ' v H3 p e3 m3 d3 => hR w μ' v H3 p (t.trans e3) m3 d3, fun c μ' H3 x e3 m3 => hX c μ' H3 x (t.trans e3) m3⟩
end
/-! ### a text or None -/
def oD : Option Str → PyData
  | none => .none
  | some x => .str x
theorem dw_oW {μ : Mu} : ∀ {o : Option Str}, Dw μ (oW o) (oD o)
  | none => .non
  | some _ => .str
theorem shaped_oD {o : Option Str} (h : ∀ z, o = some z → okS z) : SeqAt.shaped (oD o) = true := by
  cases o with
  | none => decide +kernel
  | some x => exact shaped_ok (n := 0) (by unfold oD okD; exact h x rfl) (Nat.le_of_eq (by unfold oD PyData.depth; rfl)) (by decide)
theorem eqv_oD (o : Option Str) : PyData.eqv (oD o) (oD o) = true := by
  cases o with
  | none => rfl
  | some x =>
    show (x == x) = true
    exact beq_self_eq_true x
theorem eqv_oD_ne {x : Str} {o : Option Str} (h : o ≠ some x) : PyData.eqv (oD (some x)) (oD o) = false := by
  cases o with
  | none => rfl
  | some z =>
    show (x == z) = false
    exact beq_false_of_ne fun e => h (by rw [e])
/-! ### pages -/
def pageK (m : List (Str × Str)) (low : Str) : List Str := sortS ((m.map (·.1)).filter fun k => !sLt k low)
def pageW (m : List (Str × Str)) (low : Str) (limit : Int) (high : W) : W :=
  .tup [.str "page", .tup (((pageK m low).take limit.toNat).map (pairW m)), if limit < ((pageK m low).length : Int) then .str ((pageK m low).getD limit.toNat "") else high]
def pairD (m : List (Str × Str)) (k : Str) : PyData := .tuple [.str k, .str ((valS m k).getD "")]
theorem dw_pairs (m : List (Str × Str)) (μ : Mu) : ∀ ks : List Str, DwAll μ (ks.map (pairW m)) (ks.map (pairD m))
  | [] => .nil
  | k :: r => .cons (.tup (.cons .str (.cons .str .nil))) (dw_pairs m μ r)
theorem ok_pairs {m : List (Str × Str)} (h : okM m) : ∀ {ks : List Str}, (∀ k ∈ ks, k ∈ m.map (·.1)) → okDs (ks.map (pairD m)) ∧ PyData.depthAll (ks.map (pairD m)) ≤ 2
  | [], _ => ⟨by unfold okDs; trivial, by show PyData.depthAll [] ≤ 2; decide +kernel⟩
  | k :: r, hk => by
    obtain ⟨i1, i2⟩ := ok_pairs h (ks := r) fun x hx => hk x (List.mem_cons_of_mem _ hx)
    have hm := hk k List.mem_cons_self
    obtain ⟨v, hv⟩ := valS_some hm
    have o := h _ (valS_mem hv)
    constructor
    · show okDs (pairD m k :: r.map (pairD m))
      unfold okDs pairD
      refine ⟨?_, i1⟩
      unfold okD okDs okD okDs okD okDs
      rw [hv]
      exact ⟨o.1, o.2, trivial⟩
    · show PyData.depthAll (pairD m k :: r.map (pairD m)) ≤ 2
      unfold PyData.depthAll
      have e : PyData.depth (pairD m k) ≤ 2 := by
        unfold pairD PyData.depth PyData.depthAll PyData.depth PyData.depthAll PyData.depth PyData.depthAll
        omega
      exact Nat.max_le.mpr ⟨e, i2⟩
theorem shaped_pairs {m : List (Str × Str)} (h : okM m) {ks : List Str} (hk : ∀ k ∈ ks, k ∈ m.map (·.1)) : SeqAt.shaped (.list (ks.map (pairD m))) = true ∧ PyData.eqv (.list (ks.map (pairD m))) (.list (ks.map (pairD m))) = true := by
  obtain ⟨h1, h2⟩ := ok_pairs h hk
  have o : okD (.list (ks.map (pairD m))) := by unfold okD; exact h1
  exact ⟨shaped_ok o (n := 3) (by unfold PyData.depth; omega) (by decide), PySem.SeqAt.eqv_refl _ (canLay_ok o)⟩
theorem perm_nodup {m : List (Str × Str)} (h : (m.map (·.1)).Nodup) (low : Str) : (pageK m low).Nodup := (sortS_perm _).symm.nodup (h.sublist List.filter_sublist)
theorem page_mem {m : List (Str × Str)} {low k : Str} : k ∈ pageK m low ↔ k ∈ m.map (·.1) ∧ sLt k low = false := by
  unfold pageK
  rw [(sortS_perm _).mem_iff, List.mem_filter]
  simp
theorem putS_nodup {m : List (Str × Str)} {k v : Str} (h : (m.map (·.1)).Nodup) : ((putS m k v).map (·.1)).Nodup := by
  unfold putS
  split
  · rename_i c
    have e : (m.map (fun p => if p.1 = k then (p.1, v) else p)).map (·.1) = m.map (·.1) := by
      rw [List.map_map]
      apply List.map_congr_left
      intro p _
      show (if p.1 = k then (p.1, v) else p).1 = p.1
      split <;> rfl
    rw [e]
    exact h
  · rename_i c
    rw [List.map_append, List.nodup_append]
    refine ⟨h, by simp, ?_⟩
    intro x hx y hy e
    rw [List.map_cons, List.map_nil, List.mem_singleton] at hy
    subst e
    apply c
    rw [List.any_eq_true]
    obtain ⟨p, hp, e2⟩ := List.mem_map.mp hx
    exact ⟨p, hp, decide_eq_true (e2.trans hy)⟩
theorem valS_nodup : ∀ {m : List (Str × Str)}, (m.map (·.1)).Nodup → ∀ p ∈ m, valS m p.1 = some p.2
  | [], _, p, hp => by cases hp
  | a :: r, h, p, hp => by
    rw [List.map_cons, List.nodup_cons] at h
    unfold valS
    rw [List.find?_cons]
    rcases List.mem_cons.mp hp with e | e
    · subst e
      simp
    · have hne : ¬ a.1 = p.1 := fun q => h.1 (q ▸ List.mem_map.mpr ⟨p, e, rfl⟩)
      rw [decide_eq_false hne]
      exact valS_nodup h.2 p e
/-- strictly rising -/
theorem strict_of {l : List Str} (h1 : l.Pairwise (fun a b => leS a b = true)) (h2 : l.Nodup) : l.Pairwise (fun a b => sLt a b = true) := by
  induction l with
  | nil => exact .nil
  | cons a r ih =>
    rw [List.pairwise_cons] at h1
    rw [List.nodup_cons] at h2
    refine List.pairwise_cons.mpr ⟨fun b hb => ?_, ih h1.2 h2.2⟩
    cases e : sLt a b with
    | true => rfl
    | false =>
      have l1 : leS b a = true := by unfold leS; rw [e]; rfl
      have := leS_anti (h1.1 b hb) l1
      exact absurd (this ▸ hb) h2.1
theorem sLt_irr (a : Str) : sLt a a = false := by
  have h := leS_tot a a
  rw [Bool.or_self] at h
  unfold leS at h
  cases e : sLt a a with
  | false => rfl
  | true =>
    rw [e] at h
    cases h
theorem sLt_asym {a b : Str} (h : sLt a b = true) : sLt b a = false := by
  have t := leS_tot a b
  unfold leS at t
  rw [h] at t
  cases e : sLt b a with
  | false => rfl
  | true =>
    rw [e] at t
    cases t
theorem drop_at : ∀ {S : List Str} {j : Nat} {x : Str}, S.Pairwise (fun a b => sLt a b = true) → S[j]? = some x → S.filter (fun k => !sLt k x) = S.drop j
  | [], j, x, _, e => by simp at e
  | a :: r, 0, x, h, e => by
    cases e
    rw [List.drop_zero]
    apply List.filter_eq_self.mpr
    intro k hk
    rcases List.mem_cons.mp hk with q | q
    · rw [q, sLt_irr]
      rfl
    · rw [sLt_asym ((List.pairwise_cons.mp h).1 k q)]
      rfl
  | a :: r, j + 1, x, h, e => by
    have e2 : r[j]? = some x := by simpa using e
    rw [List.drop_succ_cons, List.filter_cons, (List.pairwise_cons.mp h).1 x (List.mem_of_getElem? e2)]
    exact drop_at (List.pairwise_cons.mp h).2 e2
theorem page_filter (m : List (Str × Str)) (low : Str) : pageK m low = (sortS (m.map (·.1))).filter fun k => !sLt k low :=
  pw_only ((sortS_perm _).trans (List.Perm.filter _ (sortS_perm _).symm)) (sortS_pw _) ((sortS_pw _).sublist List.filter_sublist)
theorem sLt_nil (k : Str) : sLt k "" = false := by
  unfold sLt
  apply decide_eq_false
  intro h
  have : ("" : Str).cps.toList = [] := by decide +kernel
  rw [this] at h
  exact absurd h (List.not_lt_nil _)
theorem page_all (m : List (Str × Str)) : pageK m "" = sortS (m.map (·.1)) := by
  rw [page_filter]
  apply List.filter_eq_self.mpr
  intro k _
  rw [sLt_nil]
  rfl
theorem le_lt {a b c : Str} (h1 : sLt b a = false) (h2 : sLt b c = true) : sLt a c = true := by
  cases e : sLt a c with
  | true => rfl
  | false =>
    have l1 : leS c a = true := by unfold leS; rw [e]; rfl
    have l2 : leS a b = true := by unfold leS; rw [h1]; rfl
    have l3 := leS_tr c a b l1 l2
    unfold leS at l3
    rw [h2] at l3
    cases l3
end Pw

namespace Pw
open PySem L2 Evl PyProof.Rows SrtO Srt
open Pd (sLt)
/-! texts sorted, any number of them, also from the last to the first -/
def sv : Value → Str
  | .str x _ => x
  | _ => ""
def ltSv (v u : Value) : Bool := sLt (sv v) (sv u)
theorem swo_str : Swo ltSv := by
  refine ⟨fun x y h => sLt_asym h, fun x y z h1 h2 => ?_⟩
  have l1 : leS (sv x) (sv y) = true := by unfold leS; rw [show sLt (sv y) (sv x) = false from h1]; rfl
  have l2 : leS (sv y) (sv z) = true := by unfold leS; rw [show sLt (sv z) (sv y) = false from h2]; rfl
  have l3 := leS_tr _ _ _ l1 l2
  unfold leS at l3
  show sLt (sv z) (sv x) = false
  cases e : sLt (sv z) (sv x) with
  | false => rfl
  | true =>
    rw [e] at l3
    cases l3
theorem strs_mem : ∀ {vs : List Value} {ss : List Str}, StrsAre vs ss → ∀ v ∈ vs, ∃ x t, v = Value.str x t
  | _, _, .nil, v, h => absurd h (by simp)
  | _, _, .cons n t r, v, h => by
    rcases List.mem_cons.mp h with e | h
    · exact ⟨n, t, e⟩
    · exact strs_mem r v h
theorem strs_sv : ∀ {vs : List Value}, (∀ v ∈ vs, ∃ x t, v = Value.str x t) → StrsAre vs (vs.map sv)
  | [], _ => .nil
  | v :: vs, h => by
    obtain ⟨i, t, e⟩ := h v List.mem_cons_self
    subst e
    exact .cons i t (strs_sv fun u hu => h u (List.mem_cons_of_mem _ hu))
theorem sv_strs : ∀ {vs : List Value} {ns : List Str}, StrsAre vs ns → vs.map sv = ns
  | _, _, .nil => rfl
  | _, _, .cons n t r => congrArg (n :: ·) (sv_strs r)
section
variable {prog : Program} {w : World} {A : Around} {E : Value → Shared → Prop} {s : Shared}
theorem str_cmp {vs : List Value} {ns : List Str} (hI : StrsAre vs ns) : Cmp prog w A s oneType' (fun p => p.1 ∈ vs) (lt2 ltSv) := by
  intro p q hm hm'
  obtain ⟨a, t, e⟩ := strs_mem hI _ hm
  obtain ⟨b, u, e'⟩ := strs_mem hI _ hm'
  show wpAny (model prog w) A (keyLt' oneType' p.1 q.1) (fun r s' => s' = s ∧ r = ltSv p.1 q.1) (fun _ _ => False) s
  rw [e, e', keyLt'_oneType]
  exact oneLt_str ⟨rfl, rfl⟩
theorem strs_sortable {a : Addr} {vs : List Value} {ns : List Str} (hI : StrsAre vs ns) (h2 : 2 ≤ vs.length) : SortableO prog w A s a vs ltSv := by
  intro h' _
  refine ⟨oneType', fun Q E hq => ?_, str_cmp hI⟩
  match vs, hI, h2 with
  | v1 :: v2 :: rest, hI, _ =>
    rw [keyKind_strs hI]
    exact wpAny_pure hq
  | [], _, h => exact absurd h (by decide)
  | [v], _, h => exact absurd h (by simp)
theorem strs_out {vs out : List Value} {ns : List Str} (hI : StrsAre vs ns) (hs : Srtd ltSv out) (hp : out.Perm vs) : StrsAre out (sortS ns) := by
  have h1 : StrsAre out (out.map sv) := strs_sv fun v hv => strs_mem hI v (hp.mem_iff.mp hv)
  have h2 : (out.map sv).Perm ns := by
    have q := hp.map sv
    rw [sv_strs hI] at q
    exact q
  have h3 : (out.map sv).Pairwise (fun a b => leS a b = true) := List.pairwise_map.mpr (hs.imp fun {x y} h => by
    have h' : sLt (sv y) (sv x) = false := h
    unfold leS
    rw [h']
    rfl)
  have e : out.map sv = sortS ns := pw_only (h2.trans (sortS_perm ns).symm) h3 (sortS_pw ns)
  rwa [e] at h1
end
/-- sorted(list of texts) -/
def rSrtSA (K : Frag) : List V → Hp → VK → Prop := fun vs H Q => ∃ (a : Addr) (xs : List Str), vs = [V.ref a] ∧ SqL K H a (xs.map V.str) ∧
  ∀ p : Addr, H p = none → Q (.ref p) (upd H p (.lst ((sortS xs).map V.str)))
theorem cr_srtSA {X : Cx} : CallR X (.builtin "sorted") (rSrtSA X.K) := by
  intro pins s σ H vs us Q I r h
  obtain ⟨a, xs, rfl, hs, q⟩ := h
  obtain ⟨its, rv, hl, hz⟩ := I.list hs
  rw [Vals.ref1 r]
  have hlen0 := rv.length
  rw [List.length_map] at hlen0 hz
  refine sorted_strsAny hl.isList rv.strs (by rw [← hlen0]; exact hz) fun out ys h1 h2 h3 => ?_
  have e := sorted_only h2 h3
  subst e
  obtain ⟨ep, he'⟩ := sortedAll_at s.heap its out
  have hlen : ((sortS xs).map V.str).length ≤ sizeLine := by
    rw [List.length_map, h2.length_eq]
    exact hz
  exact ⟨.ref _, upd H (s.heap.objs.size + 1) (.lst ((sortS xs).map V.str)), I.laid (t' := s.toks) (fun _ _ => sortedAll_old) (Nat.le_succ _) ⟨hlen, out.toList, ep, vals_of_strs h1, he'⟩, rfl, q _ (I.hok.fresh (Nat.le_succ _))⟩
/-- sorted(dict of texts) -/
def rSrtDA : List V → Hp → VK → Prop := fun xs H Q => ∃ (a : Addr) (kvs : List (Key × V)) (ks : List Str), xs = [.ref a] ∧ Rd H a (.dK kvs) ∧ kvs.map (·.1) = ks.map Sum.inr ∧
    ∀ p, H p = none → Q (.ref p) (upd H p (.lst ((sortS ks).map V.str)))
theorem dict_keys {X : Cx} {ks : List Str} {vs : List (Key × Value)} {acc : Array Value} (hkeys : vs.map (·.1) = ks.map Sum.inr) (hl : vs.length = ks.length) (hacc1 : acc.size = vs.length)
    (hacc2 : ∀ (j : Nat) (v : Value), acc[j]? = some v → ∃ (k : Key) (x : Value), vs[j]? = some (k, x) ∧ (mixKind X.prog X.w).is k v = true) : StrsAre acc.toList ks := by
  have hal : acc.toList.length = ks.length := by rw [Array.length_toList, hacc1, hl]
  exact strs_at hal fun j v e => by
    obtain ⟨k, x, e1, e2⟩ := hacc2 j v (by rw [← Array.getElem?_toList]; exact e)
    have e3 : (vs.map (·.1))[j]? = some k := by rw [List.getElem?_map, e1]; all_goals rfl
    rw [hkeys, List.getElem?_map] at e3
    cases e4 : ks[j]? with
    | none => rw [e4] at e3; cases e3
    | some y =>
      rw [e4] at e3
      have e5 : Sum.inr y = k := Option.some.inj e3
      subst e5
      obtain ⟨t, ev⟩ := Value.isStrOf_shape (x := y) (v := v) e2
      exact ⟨y, t, rfl, ev⟩
theorem cr_srtDA {X : Cx} (hcalm : X.calm = true) : CallR X (.builtin "sorted") rSrtDA := by
  intro pins s σ H xs us Q I r q
  obtain ⟨a, kvs, ks, ex, hd, hks, q⟩ := q
  subst ex
  obtain ⟨u, eu, rx⟩ := vals1 r
  subst eu
  cases rx
  obtain ⟨z, lo, vs, rel, dd⟩ := dk_rd I.hok hd
  obtain ⟨ep, hat⟩ := dd.dictAt
  have hkeys : vs.map (·.1) = ks.map Sum.inr := rel.keys.symm.trans hks
  have hl : vs.length = ks.length := by
    have e := congrArg List.length hkeys
    rw [List.length_map, List.length_map] at e
    exact e
  have h16 : vs.length ≤ sizeLine := by rw [← rel.length]; exact z
  refine Calls.call_function_entry PyProof.Rows.kind_sorted PyProof.Rows.plain_sorted PyProof.Rows.entry_sorted (PyProof.Rows.args_sorted1 _) ?_
  unfold Builtin.«sorted»
  refine wpAny_bind (m := checkCount "sorted" 1 1 _) (wpAny_pure ?_)
  refine wpAny_bind (PySem.W.kdu_collect (A := X.A.in1) (PySem.W.kdl_dict (knd := mixKind X.prog X.w) (kvs := vs) (ep := ep) lo) (I.ok.hd hcalm) hat h16 fun h' tk acc hk hacc => ?_)
  have hS : StrsAre acc.toList ks := dict_keys (X := X) hkeys hl hacc.1 hacc.2
  have hal : acc.toList.length = ks.length := by rw [Array.length_toList, hacc.1, hl]
  have I1 : Inv X pins σ H { s with heap := h', toks := tk } := I.kept hk
  have hz2 : acc.toList.length ≤ sizeLine := by
    rw [hal, ← hl]
    exact h16
  refine wpAny_bind (wpAny_newList ?_ hz2)
  have hoL : (h'.push (seqObj "list" acc.toList.toArray 0)).get? h'.objs.size = some (seqObj "list" acc.toList.toArray 0) := Heap.get?_push_size _ rfl
  show wpAny _ _ _ _ _ { s with heap := h'.push (seqObj "list" acc.toList.toArray 0), toks := tk }
  refine wpAny_bind (wpAny_holding (wpAny_call_entry PyProof.Rows.slot_list_sort ⟨_, hoL, rfl⟩ PyProof.Rows.entry_list_sort
    (list_sort_ord (s := { s with heap := h'.push (seqObj "list" acc.toList.toArray 0), toks := tk }) swo_str hoL hz2 (fun h2 => strs_sortable hS h2) fun out hs hb => ⟨_, rfl, ?_⟩)
    (PyProof.Rows.args_list_sort _)))
  have g1 := strs_out hS hs hb.perm
  obtain ⟨e', he'⟩ := PyProof.Rows.sortedHeap_at (vs := acc.toList) (out := out.toArray) hoL
  have hlen : ((sortS ks).map V.str).length ≤ sizeLine := by
    rw [List.length_map, (sortS_perm ks).length_eq, ← hl]
    exact h16
  refine wpAny_pure ⟨_, rfl, .ref h'.objs.size, upd H h'.objs.size (.lst ((sortS ks).map V.str)), I1.laid (t' := tk) (fun b u e => ?_) (Nat.le_refl _)
    (show ObjOk X.prog X.w _ _ _ (.lst ((sortS ks).map V.str)) from ⟨hlen, out, e', vals_of_strs g1, he'⟩), rfl, q _ (I1.hok.fresh (Nat.le_refl _))⟩
  have hb : b < h'.objs.size := Heap.lt_size e
  rw [PyProof.Rows.sortedHeap_old (Nat.ne_of_lt hb) (by rw [size_push']; exact Nat.lt_succ_of_lt hb)]
  exact Heap.get?_push_of_some _ e
/-- sorted(dict of texts, reverse=True) -/
def rSrtDR : List V → List V → Hp → VK → Prop := fun xs zs H Q => ∃ (a : Addr) (kvs : List (Key × V)) (ks : List Str), xs = [.ref a] ∧ zs = [.bl true] ∧ Rd H a (.dK kvs) ∧ kvs.map (·.1) = ks.map Sum.inr ∧
    ∀ p, H p = none → Q (.ref p) (upd H p (.lst ((sortS ks).reverse.map V.str)))
theorem strs_rev : ∀ {vs : List Value} {ss : List Str}, StrsAre vs ss → StrsAre vs.reverse ss.reverse := fun {vs ss} h => by
  have h1 : StrsAre vs.reverse (vs.reverse.map sv) := strs_sv fun v hv => strs_mem h v (List.mem_reverse.mp hv)
  rwa [List.map_reverse, sv_strs h] at h1
theorem cr_srtDR {X : Cx} (hcalm : X.calm = true) : CallRK X (.builtin "sorted") [Str.ofString "reverse"] rSrtDR := by
  intro pins s σ H xs zs us ws Q I r rz q
  obtain ⟨a, kvs, ks, ex, ez, hd, hks, q⟩ := q
  subst ex
  subst ez
  obtain ⟨u, eu, rx⟩ := vals1 r
  subst eu
  cases rx
  obtain ⟨w1, rfl, e1⟩ := vals1 rz
  obtain rfl : w1 = Value.bool true := e1
  obtain ⟨z, lo, vs, rel, dd⟩ := dk_rd I.hok hd
  obtain ⟨ep, hat⟩ := dd.dictAt
  have hkeys : vs.map (·.1) = ks.map Sum.inr := rel.keys.symm.trans hks
  have hl : vs.length = ks.length := by
    have e := congrArg List.length hkeys
    rw [List.length_map, List.length_map] at e
    exact e
  have h16 : vs.length ≤ sizeLine := by rw [← rel.length]; exact z
  refine call_function_entry_kw PyProof.Rows.kind_sorted PyProof.Rows.plain_sorted PyProof.Rows.entry_sorted (PyProof.Rows.args_sorted_rev _ _) ?_
  unfold Builtin.«sorted»
  refine wpAny_bind (m := checkCount "sorted" 1 1 _) (wpAny_pure ?_)
  refine wpAny_bind (PySem.W.kdu_collect (A := X.A.in1) (PySem.W.kdl_dict (knd := mixKind X.prog X.w) (kvs := vs) (ep := ep) lo) (I.ok.hd hcalm) hat h16 fun h' tk acc hk hacc => ?_)
  have hS : StrsAre acc.toList ks := dict_keys (X := X) hkeys hl hacc.1 hacc.2
  have hal : acc.toList.length = ks.length := by rw [Array.length_toList, hacc.1, hl]
  have I1 : Inv X pins σ H { s with heap := h', toks := tk } := I.kept hk
  have hz2 : acc.toList.length ≤ sizeLine := by
    rw [hal, ← hl]
    exact h16
  refine wpAny_bind (wpAny_newList ?_ hz2)
  have hoL : (h'.push (seqObj "list" acc.toList.toArray 0)).get? h'.objs.size = some (seqObj "list" acc.toList.toArray 0) := Heap.get?_push_size _ rfl
  show wpAny _ _ _ _ _ { s with heap := h'.push (seqObj "list" acc.toList.toArray 0), toks := tk }
  refine wpAny_bind (wpAny_holding (wpAny_call_entry_kw PyProof.Rows.slot_list_sort ⟨_, hoL, rfl⟩ PyProof.Rows.entry_list_sort
    (SrtR.list_sort_ordR (b := true) (s := { s with heap := h'.push (seqObj "list" acc.toList.toArray 0), toks := tk }) swo_str hoL hz2 (fun h2 => strs_sortable hS h2) fun out hs hb => ⟨_, rfl, ?_⟩)
    (PyProof.Rows.args_list_sort_rev _ _)))
  have g1 := strs_rev (strs_out hS hs (hb.perm.trans (List.reverse_perm _)))
  obtain ⟨e', he'⟩ := PyProof.Rows.sortedHeap_at (vs := acc.toList) (out := out.toArray.reverse) hoL
  have hlen : ((sortS ks).reverse.map V.str).length ≤ sizeLine := by
    rw [List.length_map, List.length_reverse, (sortS_perm ks).length_eq, ← hl]
    exact h16
  have e0 : out.reverse.toArray = out.toArray.reverse := by simp
  refine wpAny_pure ⟨_, rfl, .ref h'.objs.size, upd H h'.objs.size (.lst ((sortS ks).reverse.map V.str)), I1.laid (t' := tk) (fun b u e => ?_) (Nat.le_refl _)
    (show ObjOk X.prog X.w _ _ _ (.lst ((sortS ks).reverse.map V.str)) from ⟨hlen, out.reverse, e', vals_of_strs g1, by rw [e0]; exact he'⟩), rfl, q _ (I1.hok.fresh (Nat.le_refl _))⟩
  have hb : b < h'.objs.size := Heap.lt_size e
  rw [PyProof.Rows.sortedHeap_old (Nat.ne_of_lt hb) (by rw [size_push']; exact Nat.lt_succ_of_lt hb)]
  exact Heap.get?_push_of_some _ e
section
variable {K : Frag} {E : XK} {ρ : Rho} {μ : Mu} {te tl ta tb td ty tx tv : TE} {t u : TT} {t1 t2 : TS} {X : Value → Mu → Prop} {N : Rho → Mu → Prop} {R : W → Mu → Prop} {P : W → Mu → Prop}
theorem el_srtSA {ks : List Str} (ha : EvL K te ρ μ (ks.map W.str)) : EvL K (tCB (rSrtSA K) (tCons te tNil)) ρ μ ((sortS ks).map W.str) := fun σ H g Q q =>
  ha σ H g _ fun p vs H1 e1 hp h1 r => by
    have ev := dps_strs_of r
    subst ev
    exact ⟨p, ks, rfl, SqL.of h1, fun p2 hn => q p2 _ _ (e1.trans (Ex.new hn)) (fresh_back e1 hn) upd_same (dps_strs _)⟩
theorem el_srtDA {ta : TA} {a : Addr} {sd : List (Str × W)} (ha : EvS K ta ρ μ [.ref a]) (l : μ a = some (.dk (encK sd))) : EvL K (tCB rSrtDA ta) ρ μ ((sortS (sd.map (·.1))).map W.str) := fun σ H g Q q =>
  ha σ H g _ fun vs H1 e1 d1 => by
    obtain ⟨v, rfl, dv⟩ := dps1 d1
    cases dv
    obtain ⟨kv, h, r⟩ := g.2.ex e1 a _ l
    exact ⟨a, kv, sd.map (·.1), rfl, .inl h, by rw [rwp_keys r, encK_keys], fun p hn => q p _ _ (e1.trans (Ex.new hn)) (fresh_back e1 hn) upd_same (dps_strs _)⟩
theorem el_srtDR {ta tk : TA} {a : Addr} {sd : List (Str × W)} (ha : EvS K ta ρ μ [.ref a]) (hk : EvS K tk ρ μ [.bl true]) (l : μ a = some (.dk (encK sd))) : EvL K (tCKw rSrtDR ta tk) ρ μ ((sortS (sd.map (·.1))).reverse.map W.str) := fun σ H g Q q =>
  ha σ H g _ fun vs H1 e1 d1 => hk σ H1 (g.mono e1) _ fun zs H2 e2 d2 => by
    obtain ⟨v, rfl, dv⟩ := dps1 d1
    cases dv
    obtain ⟨v2, rfl, dv2⟩ := dps1 d2
    cases dv2
    have e := e1.trans e2
    obtain ⟨kv, h, r⟩ := g.2.ex e a _ l
    exact ⟨a, kv, sd.map (·.1), rfl, rfl, .inl h, by rw [rwp_keys r, encK_keys], fun p hn => q p _ _ (e.trans (Ex.new hn)) (fresh_back e hn) upd_same (dps_strs _)⟩
end
end Pw

namespace Pw
open PySem L2 Evl
open Pd (sLt)
theorem op_neDA {X : Cx} (hu : X.A.units + 64 < cLine) : OpR X (compareOp .NotEq) rNeDA := op_ne_dictA (by omega)
/-! tests that change the store -/
def EcW (K : Frag) (E : XK) (t : TT) (ρ : Rho) (μ : Mu) (P : Bool → Mu → Prop) (X : Value → Mu → Prop) : Prop := ∀ (σ : L2.St) (H : Hp), S K H σ ρ μ → ∀ Q : Bool → Hp → Prop, (∀ b μ' H', P b μ' → Tk H H' → S K H' σ ρ μ' → Q b H') →
  (∀ c μ' H', X c μ' → Tk H H' → Mem K H' μ' → E c none H') → t σ H Q
section
variable {K : Frag} {E : XK} {ρ : Rho} {μ : Mu} {te tl ta tb td ty tx tv : TE} {t u : TT} {t1 t2 ts : TS} {X : Value → Mu → Prop} {N : Rho → Mu → Prop} {R : W → Mu → Prop} {P : Bool → Mu → Prop}
theorem ed_neDA {a b : Addr} {m : List (Str × Str)} (ha : EvD K ta ρ μ (.ref a)) (hb : EvD K tb ρ μ (.ref b)) (la : μ a = some (.dk (encS m))) (lb : μ b = some (.dk (encS m))) (hf : ∀ p ∈ m, valS m p.1 = some p.2) : EvD K (tOp rNeDA ta tb) ρ μ (.bl false) :=
  ed_twom ha hb fun H v w Q mm dv dw k => by
    cases dv
    cases dw
    obtain ⟨ka, h1, r1⟩ := mm a _ la
    obtain ⟨kb, h2, r2⟩ := mm b _ lb
    have e1 := rwp_str r1
    have e2 := rwp_str r2
    subst e1
    subst e2
    refine ⟨a, b, _, _, rfl, rfl, h1, h2, rfl, fun p hp => ?_, k _ H (Ex.refl H) (.bl _)⟩
    obtain ⟨q, hq, rfl⟩ := List.mem_map.mp hp
    refine ⟨?_, rfl⟩
    rw [valV_map, hf q hq]
    rfl
theorem ecw_pure {b : Bool} (h : EvC K t ρ μ b) (p : P b μ) : EcW K E t ρ μ P X := fun σ H g Q q _ => h σ H g _ fun H1 e1 => q b μ H1 p (Tk.ex e1) (g.mono e1)
theorem ecw_test (h : EvW K E te ρ μ (fun w μ' => ∃ b, w = .bl b ∧ P b μ') X) : EcW K E (tTest te) ρ μ P X := fun σ H g Q q hX => h σ H g _ (fun w μ' v H' p e g' dv => by
  obtain ⟨b, rfl, hp⟩ := p
  cases dv
  exact ⟨b, rfl, q b μ' H' hp e g'⟩) hX
theorem ecw_or {P1 : Bool → Mu → Prop} (h1 : EcW K E t ρ μ P1 X) (h2 : ∀ μ1, P1 true μ1 → P true μ1) (h3 : ∀ μ1, P1 false μ1 → EcW K E u ρ μ1 P X) : EcW K E (tOr t u) ρ μ P X := fun σ H g Q q hX => h1 σ H g _ (fun b μ1 H1 p1 e1 g1 => by
  cases b with
  | true => exact iteT (q true μ1 H1 (h2 μ1 p1) e1 g1)
  | false => exact iteF (h3 μ1 p1 σ H1 g1 Q (fun b2 μ2 H2 p2 e2 g2 => q b2 μ2 H2 p2 (e1.trans e2) g2) fun c μ2 H2 x e2 => hX c μ2 H2 x (e1.trans e2))) hX
theorem rm_ifsW (h : EcW K E t ρ μ P X) (h1 : ∀ μ', P true μ' → RunM K E (tSeq t1 ts) ρ μ' N R X) (h2 : ∀ μ', P false μ' → RunM K E (tSeq t2 ts) ρ μ' N R X) : RunM K E (tSeq (tIfS t t1 t2) ts) ρ μ N R X := fun D σ H g hN hR hX => h σ H g _ (fun b μ1 H1 p1 a1 g1 => by
  cases b with
  | true => exact iteT (h1 μ1 p1 D σ H1 g1 (fun ρ' μ' σ' H' n e2 => hN ρ' μ' σ' H' n (a1.trans e2)) (fun d μ' v H' r e2 => hR d μ' v H' r (a1.trans e2)) fun c μ' H' x e2 => hX c μ' H' x (a1.trans e2))
  | false => exact iteF (h2 μ1 p1 D σ H1 g1 (fun ρ' μ' σ' H' n e2 => hN ρ' μ' σ' H' n (a1.trans e2)) (fun d μ' v H' r e2 => hR d μ' v H' r (a1.trans e2)) fun c μ' H' x e2 => hX c μ' H' x (a1.trans e2))) hX
/-- for x in a new list -/
theorem rm_forN {j : Nat} {xs : List W} (h : EvL K te ρ μ xs) (I : Addr → Nat → Rho → Mu → Prop) (h0 : ∀ p, μ p = none → I p 0 ρ (mset μ p (.ls xs))) (hl : ∀ p i ρ' μ', I p i ρ' μ' → μ' p = some (.ls xs))
    (hs : ∀ p (i : Nat) x ρ' μ', xs[i]? = some x → I p i ρ' μ' → RunM K E ts (ρ'.set j (some x)) μ' (I p (i + 1)) R X) (hd : ∀ p ρ' μ', I p xs.length ρ' μ' → RunM K E t2 ρ' μ' N R X)
    (flat : ∀ (H H' : Hp) (vs vs' : List V), RwAll K H vs xs → RwAll K H' vs' xs → vs' = vs) : RunM K E (tSeq (tFor (iList K te) (gName j) ts) t2) ρ μ N R X := fun D σ H g hN hR hX =>
  h σ H g _ fun p vs H1 e1 hp h1 hds => by
    have hn := g.2.free hp
    have m : Mem K H1 (mset μ p (.ls xs)) := fun b o e' => by
      by_cases hb : b = p
      · subst hb
        rw [mset_same] at e'
        cases e'
        exact ⟨vs, h1, hds⟩
      · rw [mset_ne hb] at e'
        exact (g.2.ex e1) b o e'
    refine ⟨_, rfl, ⟨_, SqL.of h1⟩, for_list (K := K) (xs := vs) (fun i σ' H' => ∃ ρ' μ', I p i ρ' μ' ∧ Tk H H' ∧ S K H' σ' ρ' μ') ⟨ρ, _, h0 p hn, Tk.ex e1, ⟨g.1.tk (Tk.ex e1), m⟩⟩ (fun i σ' H' _ w => ?_) (fun i v σ' H' hv w => ?_) fun σ' H' w => ?_⟩
    · obtain ⟨ρ', μ', p1, e2, g2⟩ := w
      obtain ⟨vs', hq', hds'⟩ := (show isL μ' p xs from .inl (hl p i ρ' μ' p1)).sq g2.2
      rw [flat H1 H' vs vs' hds hds'] at hq'
      exact hq'
    · obtain ⟨ρ', μ', p1, e2, g2⟩ := w
      obtain ⟨vs', hq', hds'⟩ := (show isL μ' p xs from .inl (hl p i ρ' μ' p1)).sq g2.2
      rw [flat H1 H' vs vs' hds hds'] at hds'
      obtain ⟨x, hx, dx⟩ := dps_to i hds' hv
      exact hs p i x ρ' μ' hx p1 _ _ H' (g2.put j dx) (fun ρ3 μ3 σ3 H3 p3 e3 g3 => ⟨ρ3, μ3, p3, e2.trans e3, g3⟩) (fun d μ3 v H3 r e3 => hR d μ3 v H3 r (e2.trans e3)) fun c μ3 H3 x e3 => hX c μ3 H3 x (e2.trans e3)
    · obtain ⟨ρ', μ', p1, e2, g2⟩ := w
      rw [dps_len hds] at p1
      exact hd p ρ' μ' p1 D σ' H' g2 (fun ρ3 μ3 σ3 H3 p3 e3 => hN ρ3 μ3 σ3 H3 p3 (e2.trans e3)) (fun d μ3 v H3 r e3 => hR d μ3 v H3 r (e2.trans e3)) fun c μ3 H3 x e3 => hX c μ3 H3 x (e2.trans e3)
theorem flat_strs {ks : List Str} (H H' : Hp) (vs vs' : List V) (h : RwAll K H vs (ks.map W.str)) (h' : RwAll K H' vs' (ks.map W.str)) : vs' = vs := by
  rw [dps_strs_of h, dps_strs_of h']
/-- d.pop(k), the key there -/
theorem rm_dpop1 {a : Addr} {kvs : List (Key × W)} {k : Key} {w : W} (hd : EvD K td ρ μ (.ref a)) (hk : EvD K ty ρ μ (kW k)) (l : μ a = some (.dk kvs)) (hw : valW kvs k = some w) (kk : RunM K E t2 ρ (mset μ a (.dk (dropW kvs k))) N R X) :
    RunM K E (tSeq (tDrop (tDPop1 td ty)) t2) ρ μ N R X := fun D σ H g hN hR hX =>
  hd σ H g _ fun u H1 e1 d1 => by
    cases d1
    obtain ⟨kv1, h1, r1⟩ := g.2.ex e1 a _ l
    refine ⟨a, rfl, .inl ⟨_, .inl h1⟩, hk σ H1 (g.mono e1) _ fun y H2 e2 d2 => ?_⟩
    have e := e1.trans e2
    obtain ⟨kv, h, r⟩ := g.2.ex e a _ l
    have tk := Tk.upd (o := .dK (dropK kv k)) (nt_dk h)
    have t := (Tk.ex e).trans tk
    obtain ⟨u, f1, _⟩ := (rwp_val r).2 w hw
    refine ⟨kv, k, u, h, kv_of d2, f1, ?_⟩
    exact kk D σ _ ⟨g.1.tk t, (g.2.ex e).put (nt_dk h) ⟨_, upd_same, rwp_drop (rwpm tk r)⟩⟩ (fun ρ' μ' σ' H' n e2 => hN ρ' μ' σ' H' n (t.trans e2)) (fun d μ' v H' r e2 => hR d μ' v H' r (t.trans e2)) fun c μ' H' x e2 => hX c μ' H' x (t.trans e2)
theorem dps4 {H : Hp} {vs : List V} {x y z s : W} (h : RwAll K H vs [x, y, z, s]) : ∃ v w u r, vs = [v, w, u, r] ∧ Rw K H v x ∧ Rw K H w y ∧ Rw K H u z ∧ Rw K H r s := by
  cases h with
  | cons a b =>
    obtain ⟨w, u, r, rfl, c, d, e⟩ := dps3 b
    exact ⟨_, w, u, r, rfl, a, c, d, e⟩
theorem rm_quad {i j l k4 : Nat} {x y z s : W} (h : EvD K te ρ μ (.tup [x, y, z, s])) (k : RunM K E t2 ((((ρ.set i (some x)).set j (some y)).set l (some z)).set k4 (some s)) μ N R X) :
    RunM K E (tSeq (tAsg te (gTup K 4 (gCons (gName i) (gCons (gName j) (gCons (gName l) (gCons (gName k4) gNil)))))) t2) ρ μ N R X := fun D σ H g hN hR hX => h σ H g _ fun v H1 e1 d1 => by
  have a1 := Tk.ex e1
  cases d1 with
  | tup hq hs =>
    obtain ⟨v, w, u, r, rfl, dv, dw, du, dr⟩ := dps4 hs
    refine ⟨_, _, rfl, hq, rfl, v, [w, u, r], rfl, w, [u, r], rfl, u, [r], rfl, r, [], rfl, rfl, ?_⟩
    exact k D _ H1 (((((g.mono e1).put i dv).put j dw).put l du).put k4 dr) (fun ρ' μ' σ' H' n e2 => hN ρ' μ' σ' H' n (a1.trans e2)) (fun d μ' v H' r e2 => hR d μ' v H' r (a1.trans e2)) fun c μ' H' x e2 => hX c μ' H' x (a1.trans e2)
end
/-! tuples of texts that the module names -/
structure TupOf (K : Frag) (mg : Str → Option Value) (x : Str) (ws : List Str) : Prop where
  ex : ∃ t : Addr, mg x = some (.ref t) ∧ ∀ H : Hp, SqT K H t (ws.map V.str)
theorem rw_strs {K : Frag} {H : Hp} : ∀ ws : List Str, RwAll K H (ws.map V.str) (ws.map W.str)
  | [] => .nil
  | i :: r => .cons (.str i) (rw_strs r)
theorem ed_gtup {K : Frag} {ρ : Rho} {μ : Mu} {mg : Str → Option Value} {x : Str} {ws : List Str} (u : TupOf K mg x ws) : EvD K (tC (.ref u.ex.choose)) ρ μ (.tup (ws.map W.str)) := fun σ H g Q q => q _ H (Ex.refl H) (.tup (u.ex.choose_spec.2 H) (rw_strs ws))
def eqStrs : List Value → List Str → Bool
  | [], [] => true
  | .str x _ :: r, y :: s => decide (x = y) && eqStrs r s
  | _, _ => false
theorem eqStrs_ok : ∀ {vs : List Value} {ws : List Str}, eqStrs vs ws = true → Vals (ws.map V.str) vs
  | [], [], _ => .nil
  | v :: r, y :: s, h => by
    cases v with
    | str x t =>
      obtain ⟨h1, h2⟩ := Bool.and_eq_true_iff.mp (show (decide (x = y) && eqStrs r s) = true from h)
      have e : x = y := of_decide_eq_true h1
      exact .cons ⟨t, by rw [e]⟩ (eqStrs_ok h2)
    | _ => cases h
  | [], _ :: _, h => by cases h
  | v :: _, [], h => by cases v <;> cases h
def tupB (K : Frag) (a : Addr) (ws : List Str) : Bool := match K.lookup a with
  | some ⟨.type c, _, .seq its _, _⟩ => decide (c = "tuple") && (decide (its.size ≤ 100) && eqStrs its.toList ws)
  | _ => false
theorem tup_of {K : Frag} {mg : Str → Option Value} {x : Str} {ws : List Str} (G : mg x = some (.ref (He.ga K x))) (h : tupB K (He.ga K x) ws = true) : TupOf K mg x ws := by
  refine ⟨He.ga K x, G, fun H => .inr ?_⟩
  unfold tupB at h
  cases q : K.lookup (He.ga K x) with
  | none =>
    rw [q] at h
    cases h
  | some o =>
    obtain ⟨oc, od, dt, osl⟩ := o
    rw [q] at h
    cases oc with
    | type c =>
      cases dt with
      | seq its n =>
        obtain ⟨h1, h2⟩ := Bool.and_eq_true_iff.mp (show (decide (c = "tuple") && (decide (its.size ≤ 100) && eqStrs its.toList ws)) = true from h)
        obtain ⟨h3, h4⟩ := Bool.and_eq_true_iff.mp h2
        have e : c = "tuple" := of_decide_eq_true h1
        have e2 : its.size ≤ 100 := of_decide_eq_true h3
        subst e
        exact ⟨_, its, n, rfl, rfl, rfl, sz_of (by omega), eqStrs_ok h4⟩
      | _ => cases h
    | _ => cases dt <;> cases h
/-! ### operations on a table -/
inductive Op where
  | get (k : Str) | put (k v : Str) | drop (k : Str) | swap (k o n : Str) | page (low : Str) (lim : Int)
def opW : Op → W
  | .get k => .tup [.str "get", .str k]
  | .put k v => .tup [.str "put", .str k, .str v]
  | .drop k => .tup [.str "drop", .str k]
  | .swap k o n => .tup [.str "swap", .str k, .str o, .str n]
  | .page low lim => .tup [.str "page", .str low, .int lim]
def okOp : Op → Prop
  | .get k | .drop k => okS k
  | .put k v => okS k ∧ okS v
  | .swap k o n => okS k ∧ okS o ∧ okS n
  | .page low lim => okS low ∧ 1 ≤ lim ∧ lim ≤ 1000
def resW (m : List (Str × Str)) (op : Op) (high : W) : W := match op with
  | .get k => (match valS m k with
    | none => .tup [.str "none"]
    | some v => .tup [.str "value", .str v])
  | .put _ _ => .tup [.str "done"]
  | .drop k => (match valS m k with
    | none => .tup [.str "none"]
    | some _ => .tup [.str "done"])
  | .swap k o _ => (match valS m k with
    | none => .tup [.str "none"]
    | some v => if v = o then .tup [.str "done"] else .tup [.str "other", .str v])
  | .page low lim => pageW m low lim high
def resM (m : List (Str × Str)) : Op → List (Str × Str)
  | .put k v => putS m k v
  | .drop k => dropS m k
  | .swap k o n => (match valS m k with
    | none => m
    | some v => if v = o then putS m k n else m)
  | _ => m
theorem upd_refl {a : Addr} {o : O} {μ : Mu} (h : μ a = some o) : Upd a o μ μ := ⟨h, fun _ _ _ e => e⟩
theorem upd_grow {a : Addr} {o : O} {μ μ' : Mu} (h : μ a = some o) (g : Grow μ μ') : Upd a o μ μ' := ⟨g _ _ h, fun _ _ _ e => g _ _ e⟩
section
variable {K : Frag} {E : XK} {ρ : Rho} {μ : Mu} {ta tb : TE} {X : Value → Mu → Prop}
theorem ew_neD {P1 : W → Mu → Prop} {P2 : W → W → Mu → Prop} {P : W → Mu → Prop} (ha : EvW K E ta ρ μ P1 X) (hb : ∀ x μ1, P1 x μ1 → EvW K E tb ρ μ1 (P2 x) X)
    (hp : ∀ x y μ2, P2 x y μ2 → ∃ dx dy, Dw μ2 x dx ∧ Dw μ2 y dy ∧ SeqAt.shaped dx = true ∧ SeqAt.shaped dy = true ∧ P (.bl (!PyData.eqv dx dy)) μ2) : EvW K E (tOp (rNeD K) ta tb) ρ μ P X :=
  ew_two ha hb fun x y μ2 p2 σ H v w Q g dv dw k => by
    obtain ⟨dx, dy, zx, zy, sx, sy, hP⟩ := hp x y μ2 p2
    exact ⟨dx, dy, dp_of g.2 zx dv, dp_of g.2 zy dw, sx, sy, k _ μ2 _ H hP (Tk.refl H) g (.bl _)⟩
theorem ew_eqD {P1 : W → Mu → Prop} {P2 : W → W → Mu → Prop} {P : W → Mu → Prop} (ha : EvW K E ta ρ μ P1 X) (hb : ∀ x μ1, P1 x μ1 → EvW K E tb ρ μ1 (P2 x) X)
    (hp : ∀ x y μ2, P2 x y μ2 → ∃ dx dy, Dw μ2 x dx ∧ Dw μ2 y dy ∧ SeqAt.shaped dx = true ∧ SeqAt.shaped dy = true ∧ P (.bl (PyData.eqv dx dy)) μ2) : EvW K E (tOp (rEqD K) ta tb) ρ μ P X :=
  ew_two ha hb fun x y μ2 p2 σ H v w Q g dv dw k => by
    obtain ⟨dx, dy, zx, zy, sx, sy, hP⟩ := hp x y μ2 p2
    exact ⟨dx, dy, dp_of g.2 zx dv, dp_of g.2 zy dw, sx, sy, k _ μ2 _ H hP (Tk.refl H) g (.bl _)⟩
end
inductive KindOk : W → Prop
  | one (k : Str) (h : k ≠ "page") : KindOk (.tup [.str k])
  | two (k v : Str) (h : k ≠ "page") : KindOk (.tup [.str k, .str v])
  | page (m : List (Str × Str)) (ks : List Str) (nx : Option Str) : KindOk (.tup [.str "page", .tup (ks.map (pairW m)), oW nx])
/-- what comes behind a page -/
def nextO (m : List (Str × Str)) (low : Str) (lim : Int) (hi : Option Str) : Option Str := if lim < ((pageK m low).length : Int) then some ((pageK m low).getD lim.toNat "") else hi
theorem page_oW (m : List (Str × Str)) (low : Str) (lim : Int) (hi : Option Str) : pageW m low lim (oW hi) = .tup [.str "page", .tup (((pageK m low).take lim.toNat).map (pairW m)), oW (nextO m low lim hi)] := by
  unfold pageW nextO
  split <;> rfl
section
variable {m : List (Str × Str)} {k o n v : Str} {high : W}
theorem rg0 (h : valS m k = none) : resW m (.get k) high = .tup [.str "none"] := by
  show (match valS m k with | none => W.tup [.str "none"] | some v => W.tup [.str "value", .str v]) = _
  rw [h]
theorem rg1 (h : valS m k = some v) : resW m (.get k) high = .tup [.str "value", .str v] := by
  show (match valS m k with | none => W.tup [.str "none"] | some v => W.tup [.str "value", .str v]) = _
  rw [h]
theorem rd0 (h : valS m k = none) : resW m (.drop k) high = .tup [.str "none"] := by
  show (match valS m k with | none => W.tup [.str "none"] | some v => W.tup [.str "done"]) = _
  rw [h]
theorem rd1 (h : valS m k = some v) : resW m (.drop k) high = .tup [.str "done"] := by
  show (match valS m k with | none => W.tup [.str "none"] | some v => W.tup [.str "done"]) = _
  rw [h]
theorem rs0 (h : valS m k = none) : resW m (.swap k o n) high = .tup [.str "none"] := by
  show (match valS m k with | none => W.tup [.str "none"] | some v => if v = o then W.tup [.str "done"] else .tup [.str "other", .str v]) = _
  rw [h]
theorem rs1 (h : valS m k = some v) (c : v = o) : resW m (.swap k o n) high = .tup [.str "done"] := by
  show (match valS m k with | none => W.tup [.str "none"] | some v => if v = o then W.tup [.str "done"] else .tup [.str "other", .str v]) = _
  rw [h]
  exact if_pos c
theorem rs2 (h : valS m k = some v) (c : ¬ v = o) : resW m (.swap k o n) high = .tup [.str "other", .str v] := by
  show (match valS m k with | none => W.tup [.str "none"] | some v => if v = o then W.tup [.str "done"] else .tup [.str "other", .str v]) = _
  rw [h]
  exact if_neg c
theorem ms0 (h : valS m k = none) : resM m (.swap k o n) = m := by
  show (match valS m k with | none => m | some v => if v = o then putS m k n else m) = _
  rw [h]
theorem ms1 (h : valS m k = some v) (c : v = o) : resM m (.swap k o n) = putS m k n := by
  show (match valS m k with | none => m | some v => if v = o then putS m k n else m) = _
  rw [h]
  exact if_pos c
theorem ms2 (h : valS m k = some v) (c : ¬ v = o) : resM m (.swap k o n) = m := by
  show (match valS m k with | none => m | some v => if v = o then putS m k n else m) = _
  rw [h]
  exact if_neg c
end
theorem kind_res (m : List (Str × Str)) (op : Op) (hi : Option Str) : KindOk (resW m op (oW hi)) := by
  cases op with
  | get k =>
    cases h : valS m k with
    | none => rw [rg0 h]; exact .one "none" (by decide +kernel)
    | some v => rw [rg1 h]; exact .two "value" _ (by decide +kernel)
  | put k v => exact .one "done" (by decide +kernel)
  | drop k =>
    cases h : valS m k with
    | none => rw [rd0 h]; exact .one "none" (by decide +kernel)
    | some v => rw [rd1 h]; exact .one "done" (by decide +kernel)
  | swap k o n =>
    cases h : valS m k with
    | none => rw [rs0 h]; exact .one "none" (by decide +kernel)
    | some v =>
      by_cases c : v = o
      · rw [rs1 h c]; exact .one "done" (by decide +kernel)
      · rw [rs2 h c]; exact .two "other" _ (by decide +kernel)
  | page low lim =>
    show KindOk (pageW m low lim (oW hi))
    rw [page_oW]
    exact .page _ _ _
theorem res_head (m : List (Str × Str)) (op : Op) (high : W) : ∃ k rest, resW m op high = .tup (.str k :: rest) ∧ (k ≠ "done" → resM m op = m) := by
  cases op with
  | get k =>
    cases h : valS m k with
    | none => exact ⟨"none", [], rg0 h, fun _ => rfl⟩
    | some v => exact ⟨"value", _, rg1 h, fun _ => rfl⟩
  | put k v => exact ⟨"done", _, rfl, fun q => absurd rfl q⟩
  | drop k =>
    cases h : valS m k with
    | none => exact ⟨"none", [], rd0 h, fun _ => valS_none h⟩
    | some v => exact ⟨"done", _, rd1 h, fun q => absurd rfl q⟩
  | swap k o n =>
    cases h : valS m k with
    | none => exact ⟨"none", [], rs0 h, fun _ => ms0 h⟩
    | some v =>
      by_cases c : v = o
      · exact ⟨"done", [], rs1 h c, fun q => absurd rfl q⟩
      · exact ⟨"other", [.str v], rs2 h c, fun _ => ms2 h c⟩
  | page low lim => exact ⟨"page", _, rfl, fun _ => rfl⟩
theorem resM_len (m : List (Str × Str)) (op : Op) : (resM m op).length ≤ m.length + 1 := by
  cases op with
  | get k => exact Nat.le_succ _
  | put k v => exact putS_len _ _ _
  | drop k => exact Nat.le_succ_of_le (dropS_len _ _)
  | swap k o n =>
    cases h : valS m k with
    | none => rw [ms0 h]; exact Nat.le_succ _
    | some v =>
      by_cases c : v = o
      · rw [ms1 h c]; exact putS_len _ _ _
      · rw [ms2 h c]; exact Nat.le_succ _
  | page low lim => exact Nat.le_succ _
theorem resM_nodup {m : List (Str × Str)} (h : (m.map (·.1)).Nodup) (op : Op) : ((resM m op).map (·.1)).Nodup := by
  cases op with
  | get k => exact h
  | put k v => exact putS_nodup h
  | drop k => exact h.sublist (List.Sublist.map _ List.filter_sublist)
  | swap k o n =>
    cases e : valS m k with
    | none => rw [ms0 e]; exact h
    | some v =>
      by_cases c : v = o
      · rw [ms1 e c]; exact putS_nodup h
      · rw [ms2 e c]; exact h
  | page low lim => exact h
theorem resM_ok {m : List (Str × Str)} (h : okM m) {op : Op} (q : okOp op) : okM (resM m op) := by
  cases op with
  | get k => exact h
  | put k v => exact okM_put h q.1 q.2
  | drop k => exact okM_drop h
  | swap k o n =>
    cases e : valS m k with
    | none => rw [ms0 e]; exact h
    | some v =>
      by_cases c : v = o
      · rw [ms1 e c]; exact okM_put h q.1 q.2.2
      · rw [ms2 e c]; exact h
  | page low lim => exact h
/-- the answer as data -/
theorem res_data {m : List (Str × Str)} (h : okM m) {op : Op} {hi : Option Str} (hh : ∀ z, hi = some z → okS z) : ∃ d, (∀ μ, Dw μ (resW m op (oW hi)) d) ∧ SeqAt.shaped d = true ∧ PyData.eqv d d = true := by
  have one : ∀ k : Str, okS k → ∃ d, (∀ μ, Dw μ (.tup [.str k]) d) ∧ SeqAt.shaped d = true ∧ PyData.eqv d d = true := fun k hk => by
    have o : okD (.tuple [.str k]) := by unfold okD okDs okD okDs; exact ⟨hk, trivial⟩
    exact ⟨_, fun μ => .tup (.cons .str .nil), shaped_ok (n := 1) o (by unfold PyData.depth PyData.depthAll PyData.depth PyData.depthAll; omega) (by decide), PySem.SeqAt.eqv_refl _ (canLay_ok o)⟩
  have two : ∀ k v : Str, okS k → okS v → ∃ d, (∀ μ, Dw μ (.tup [.str k, .str v]) d) ∧ SeqAt.shaped d = true ∧ PyData.eqv d d = true := fun k v hk hv => by
    have o : okD (.tuple [.str k, .str v]) := by unfold okD okDs okD okDs okD okDs; exact ⟨hk, hv, trivial⟩
    exact ⟨_, fun μ => .tup (.cons .str (.cons .str .nil)), shaped_ok (n := 1) o (by unfold PyData.depth PyData.depthAll PyData.depth PyData.depthAll PyData.depth PyData.depthAll; omega) (by decide), PySem.SeqAt.eqv_refl _ (canLay_ok o)⟩
  have vo : ∀ {k v}, valS m k = some v → okS v := fun {k v} e => (h _ (valS_mem e)).2
  cases op with
  | get k =>
    cases e : valS m k with
    | none => rw [rg0 e]; exact one "none" (okS_lit (by decide +kernel))
    | some v => rw [rg1 e]; exact two "value" _ (okS_lit (by decide +kernel)) (vo e)
  | put k v => exact one "done" (okS_lit (by decide +kernel))
  | drop k =>
    cases e : valS m k with
    | none => rw [rd0 e]; exact one "none" (okS_lit (by decide +kernel))
    | some v => rw [rd1 e]; exact one "done" (okS_lit (by decide +kernel))
  | swap k o n =>
    cases e : valS m k with
    | none => rw [rs0 e]; exact one "none" (okS_lit (by decide +kernel))
    | some v =>
      by_cases c : v = o
      · rw [rs1 e c]; exact one "done" (okS_lit (by decide +kernel))
      · rw [rs2 e c]; exact two "other" _ (okS_lit (by decide +kernel)) (vo e)
  | page low lim =>
    show ∃ d, (∀ μ, Dw μ (pageW m low lim (oW hi)) d) ∧ _
    rw [page_oW]
    have hk : ∀ k ∈ (pageK m low).take lim.toNat, k ∈ m.map (·.1) := fun k hk => (page_mem.mp (List.mem_of_mem_take hk)).1
    obtain ⟨p1, p2⟩ := ok_pairs h hk
    have nx : okD (oD (nextO m low lim hi)) ∧ PyData.depth (oD (nextO m low lim hi)) = 0 := by
      have q : ∀ z, nextO m low lim hi = some z → okS z := fun z e => by
        unfold nextO at e
        split at e
        · rename_i c
          have e2 := Option.some.inj e
          have q2 : lim.toNat < (pageK m low).length ∨ ¬ lim.toNat < (pageK m low).length := by omega
          rcases q2 with q2 | q2
          · rw [List.getD_eq_getElem?_getD, List.getElem?_eq_getElem q2] at e2
            have hm := (page_mem.mp (e2 ▸ List.getElem_mem q2 : z ∈ pageK m low)).1
            obtain ⟨v, hv⟩ := valS_some hm
            exact (h _ (valS_mem hv)).1
          · rw [List.getD_eq_getElem?_getD, List.getElem?_eq_none (by omega)] at e2
            rw [← e2]
            exact okS_lit (by decide +kernel)
        · exact hh z e
      cases e : nextO m low lim hi with
      | none => exact ⟨by unfold oD okD; trivial, by unfold oD PyData.depth; rfl⟩
      | some z => exact ⟨by unfold oD okD; exact q z e, by unfold oD PyData.depth; rfl⟩
    have o : okD (.tuple [.str "page", .tuple (((pageK m low).take lim.toNat).map (pairD m)), oD (nextO m low lim hi)]) := by
      unfold okD okDs
      refine ⟨okS_lit (by decide +kernel), ?_⟩
      unfold okDs
      refine ⟨by unfold okD; exact p1, ?_⟩
      unfold okDs okDs
      exact ⟨nx.1, trivial⟩
    refine ⟨_, fun μ => .tup (.cons .str (.cons (.tup (dw_pairs m μ _)) (.cons dw_oW .nil))), shaped_ok (n := 4) o ?_ (by decide), PySem.SeqAt.eqv_refl _ (canLay_ok o)⟩
    have d1 : PyData.depth (.tuple (((pageK m low).take lim.toNat).map (pairD m))) ≤ 3 := by
      unfold PyData.depth
      omega
    have d0 : PyData.depth (.str "page") = 0 := by unfold PyData.depth; rfl
    show PyData.depth (.tuple [.str "page", _, _]) ≤ 4
    rw [PyData.depth, PyData.depthAll, PyData.depthAll, PyData.depthAll, PyData.depthAll, d0, nx.2]
    omega
/-- a table told from its keys -/
def tabM (m : List (Str × Str)) (ks : List Str) : List (Str × Str) := ks.map fun k => (k, (valS m k).getD "")
theorem tab_keys (m : List (Str × Str)) (ks : List Str) : (tabM m ks).map (·.1) = ks := by
  unfold tabM
  rw [List.map_map]
  exact List.map_id' ks
theorem tab_val (m : List (Str × Str)) {k : Str} : ∀ {ks : List Str}, k ∈ ks → valS (tabM m ks) k = some ((valS m k).getD "")
  | [], h => by cases h
  | a :: r, h => by
    show ((List.find? (fun p => decide (p.1 = k)) ((a, (valS m a).getD "") :: tabM m r)).map (·.2)) = _
    rw [List.find?_cons]
    by_cases e : a = k
    · subst e
      rw [show decide (((a, (valS m a).getD "") : Str × Str).1 = a) = true from decide_eq_true rfl]
      rfl
    · rw [show decide (((a, (valS m a).getD "") : Str × Str).1 = k) = false from decide_eq_false e]
      exact tab_val m ((List.mem_cons.mp h).resolve_left fun q => e q.symm)
theorem tab_put (m : List (Str × Str)) {ks : List Str} {k v : Str} (h : k ∉ ks) (hv : valS m k = some v) : putS (tabM m ks) k v = tabM m (ks ++ [k]) := by
  unfold putS
  rw [if_neg]
  · unfold tabM
    rw [List.map_append, List.map_cons, List.map_nil, hv]
    rfl
  · intro c
    rw [List.any_eq_true] at c
    obtain ⟨p, hp, e⟩ := c
    apply h
    rw [← of_decide_eq_true e]
    have : p.1 ∈ (tabM m ks).map (·.1) := List.mem_map.mpr ⟨p, hp, rfl⟩
    rwa [tab_keys] at this
theorem tab_page (m : List (Str × Str)) {ks : List Str} (hp : ks.Perm (m.map (·.1))) (low : Str) (lim : Int) (high : W) : pageW (tabM m ks) low lim high = pageW m low lim high := by
  have e1 : pageK (tabM m ks) low = pageK m low := by
    unfold pageK
    rw [tab_keys]
    exact pw_only ((sortS_perm _).trans ((List.Perm.filter _ hp).trans (sortS_perm _).symm)) (sortS_pw _) (sortS_pw _)
  unfold pageW
  rw [e1]
  have e2 : ((pageK m low).take lim.toNat).map (pairW (tabM m ks)) = ((pageK m low).take lim.toNat).map (pairW m) := by
    apply List.map_congr_left
    intro k hk
    have hm := (page_mem.mp (List.mem_of_mem_take hk)).1
    unfold pairW
    rw [tab_val m (hp.mem_iff.mpr hm)]
    rfl
  rw [e2]
theorem tab_ok {m : List (Str × Str)} (h : okM m) {ks : List Str} (hk : ∀ k ∈ ks, k ∈ m.map (·.1)) : okM (tabM m ks) := fun p hp => by
  obtain ⟨k, hk2, rfl⟩ := List.mem_map.mp hp
  obtain ⟨v, hv⟩ := valS_some (hk k hk2)
  have o := h _ (valS_mem hv)
  refine ⟨o.1, ?_⟩
  show okS ((valS m k).getD "")
  rw [hv]
  exact o.2
theorem valS_put {k v : Str} (m : List (Str × Str)) : valS (putS m k v) k = some v := by
  unfold putS
  split
  · rename_i c
    induction m with
    | nil => cases c
    | cons a r ih =>
      unfold valS
      rw [List.map_cons, List.find?_cons]
      by_cases e : a.1 = k
      · rw [if_pos e, show decide (((a.1, v) : Str × Str).1 = k) = true from decide_eq_true e]
        rfl
      · rw [if_neg e, decide_eq_false e]
        have c2 : (r.any fun p => decide (p.1 = k)) = true := by
          rw [List.any_cons, decide_eq_false e] at c
          exact c
        exact ih c2
  · rename_i c
    unfold valS
    rw [List.find?_append]
    have e : m.find? (fun p => decide (p.1 = k)) = none := by
      rw [List.find?_eq_none]
      intro p hp q
      exact c (List.any_eq_true.mpr ⟨p, hp, q⟩)
    rw [e, List.find?_cons, show decide (((k, v) : Str × Str).1 = k) = true from decide_eq_true rfl]
    rfl
theorem op_key (op : Op) : ∃ kd key rest, opW op = .tup (.str kd :: .str key :: rest) := by
  cases op <;> exact ⟨_, _, _, rfl⟩
end Pw

namespace Pw
open PySem L2 Evl
open Pd (sLt)
/-! operations and letters as data -/
abbrev at_ (ds : List PyData) (i : Nat) : PyData := ds.getD i .none
abbrev atW (ws : List W) (i : Nat) : W := ws.getD i .non
theorem dw_nth {μ : Mu} : ∀ {ws : List W} {ds : List PyData} (i : Nat), DwAll μ ws ds → Dw μ (atW ws i) (at_ ds i)
  | [], _, i, h => by
    cases h
    exact .non
  | w :: ws, _, 0, h => by
    cases h with
    | cons a b => exact a
  | w :: ws, _, i + 1, h => by
    cases h with
    | cons a b => exact dw_nth i b
theorem ok_nth : ∀ {ds : List PyData} (i : Nat), okDs ds → okD (at_ ds i)
  | [], i, _ => by
    show okD .none
    unfold okD
    trivial
  | d :: ds, 0, h => by
    unfold okDs at h
    exact h.1
  | d :: ds, i + 1, h => by
    unfold okDs at h
    exact ok_nth i h.2
theorem atW_get {ws : List W} {i : Nat} (h : i < ws.length) : ws[i]? = some (atW ws i) := by
  show ws[i]? = some (ws.getD i .non)
  rw [List.getD_eq_getElem?_getD, List.getElem?_eq_getElem h]
  rfl
section
variable {K : Frag} {ρ : Rho} {μ : Mu} {ta tb : TE}
/-- the i-th item of a tuple whose length is told -/
theorem ed_at {ws : List W} {n : Int} (i : Nat) (ha : EvD K ta ρ μ (.tup ws)) (hb : EvD K tb ρ μ (.int (i : Int))) (h : decide ((ws.length : Int) = n) = true) (hi : (i : Int) < n := by decide) : EvD K (tOp (rIxT K) ta tb) ρ μ (atW ws i) :=
  ed_ixT ha hb (Int.natCast_nonneg i) (by
    have := of_decide_eq_true h
    rw [Int.toNat_natCast]
    exact atW_get (by omega))
end
def strOf : PyData → Str
  | .str x => x
  | _ => ""
def noneD : PyData → Bool
  | .none => true
  | _ => false
theorem isNone_dw {μ : Mu} {w : W} {d : PyData} (h : Dw μ w d) : isNone w = noneD d := by
  cases h <;> rfl
def intB (lo hi : Int) : PyData → Bool
  | .int i => decide (lo ≤ i) && decide (i ≤ hi)
  | _ => false
abbrev numB (d : PyData) : Bool := intB 1 1000000000000 d
def rangeB (d e : PyData) : Bool := boundB d && (noneD e || (keyB e && sLt (strOf d) (strOf e)))
def itemsD : PyData → List PyData
  | .tuple ds => ds
  | _ => []
def keyAloneB (ds : List PyData) : Bool := decide ((ds.length : Int) = 2) && keyB (at_ ds 1)
def putB (ds : List PyData) : Bool := decide ((ds.length : Int) = 3) && (keyB (at_ ds 1) && valB (at_ ds 2))
def swapB (ds : List PyData) : Bool := decide ((ds.length : Int) = 4) && (keyB (at_ ds 1) && (valB (at_ ds 2) && valB (at_ ds 3)))
def pageOpB (ds : List PyData) : Bool := decide ((ds.length : Int) = 3) && (boundB (at_ ds 1) && intB 1 50 (at_ ds 2))
def opB (d : PyData) : Bool :=
  if kindS d = "get" ∨ kindS d = "drop" then keyAloneB (itemsD d) else if kindS d = "put" then putB (itemsD d) else if kindS d = "swap" then swapB (itemsD d) else if kindS d = "page" then pageOpB (itemsD d) else false
def clientOf (d : PyData) : Int := match at_ (itemsD d) 0 with
  | .int i => i
  | _ => 0
def rowB (d : PyData) : Bool := match d with
  | .tuple [a, b, c] => intB (-100) (-1) a && (numB b && answerB c)
  | _ => false
def rowsFrom (last : Option Int) : List PyData → Bool
  | [] => true
  | d :: r => (rowB d && (match last with
    | none => true
    | some l => decide (l < clientOf d))) && rowsFrom (some (clientOf d)) r
def rowsB (d : PyData) : Bool := match d with
  | .tuple ds => rowsFrom none ds
  | _ => false
def containsF (a : Str) (hi : Option Str) (b : Str) : Bool := (!sLt b a) && Pd.belowF (some b) hi
def optS : PyData → Option Str
  | .str x => some x
  | _ => none
def pairsInB (a : Str) (hi : Option Str) (d : PyData) : Bool := pairsB d && (itemsD d).all fun p => containsF a hi (headK p)
def shardB (n : Int) (ds : List PyData) : Bool := decide ((ds.length : Int) = n) && (rangeB (at_ ds 1) (at_ ds 2) && numB (at_ ds 3))
def askB (_ : Int) (ds : List PyData) : Bool := decide ((ds.length : Int) = 3) && (numB (at_ ds 1) && opB (at_ ds 2))
def whereB (_ : Int) (ds : List PyData) : Bool := decide ((ds.length : Int) = 2) && boundB (at_ ds 1)
def tellB (_ : Int) (ds : List PyData) : Bool := decide ((ds.length : Int) = 3) && (numB (at_ ds 1) && answerB (at_ ds 2))
def elseB (_ : Int) (ds : List PyData) : Bool := decide ((ds.length : Int) = 2) && numB (at_ ds 1)
def servB (c : Int) (ds : List PyData) : Bool := shardB 5 ds && intB 0 (c - 1) (at_ ds 4)
def splitB (_ : Int) (ds : List PyData) : Bool := shardB 5 ds && (keyB (at_ ds 4) && (sLt (strOf (at_ ds 1)) (strOf (at_ ds 4)) && Pd.belowF (some (strOf (at_ ds 4))) (optS (at_ ds 2))))
def joinB (_ : Int) (ds : List PyData) : Bool := decide ((ds.length : Int) = 6) && ((rangeB (at_ ds 1) (at_ ds 2) && rangeB (at_ ds 2) (at_ ds 4)) && (numB (at_ ds 3) && numB (at_ ds 5)))
def haveB (_ : Int) (ds : List PyData) : Bool := shardB 6 ds && (intB 0 1000000000000 (at_ ds 4) && boundB (at_ ds 5))
def contB (_ : Int) (ds : List PyData) : Bool := shardB 6 ds && (pairsInB (strOf (at_ ds 1)) (optS (at_ ds 2)) (at_ ds 4) && rowsB (at_ ds 5))
def recB (_ : Int) (ds : List PyData) : Bool := shardB 4 ds
def formsB : List (Str × (Int → List PyData → Bool)) := [("ask", askB), ("where", whereB), ("answer", tellB), ("elsewhere", elseB), ("there", servB), ("move", servB), ("split", splitB), ("join", joinB), ("have", haveB), ("content", contB), ("receipt", recB)]
def letterB (c : Int) (d : PyData) : Bool := match (formsB.find? fun p => decide (p.1 = kindS d)) with
  | some p => p.2 c (itemsD d)
  | none => false
/-- the bounds that a range holds, as values -/
theorem range_of {μ : Mu} {x y : W} {d e : PyData} (zx : Dw μ x d) (zy : Dw μ y e) (h : rangeB d e = true) : x = .str (strOf d) ∧ y = oW (optS e) ∧ d = .str (strOf d) := by
  unfold rangeB at h
  obtain ⟨h1, h2⟩ := Bool.and_eq_true_iff.mp h
  cases d with
  | str a =>
    cases zx
    refine ⟨rfl, ?_, rfl⟩
    rcases Bool.or_eq_true_iff.mp h2 with h3 | h3
    · cases e with
      | none =>
        cases zy
        rfl
      | _ => cases h3
    · obtain ⟨h4, _⟩ := Bool.and_eq_true_iff.mp h3
      cases e with
      | str b =>
        cases zy
        rfl
      | _ => cases h4
  | _ => cases h1
theorem nstr_bound {d : PyData} (h : (Pd.tyN d == "str") = false) : boundB d = false := by
  cases d <;> first | rfl | exact absurd h (show ¬ ("str" == "str") = false by decide)
theorem shard_len {μ : Mu} {n : Int} {ws : List W} {ds : List PyData} (z : DwAll μ ws ds) (h : shardB n ds = true) : decide ((ws.length : Int) = n) = true := by
  unfold shardB at h
  rw [dw_len z]
  exact (Bool.and_eq_true_iff.mp h).1
theorem shard_range {n : Int} {ds : List PyData} (h : shardB n ds = true) : rangeB (at_ ds 1) (at_ ds 2) = true := by
  unfold shardB at h
  exact (Bool.and_eq_true_iff.mp (Bool.and_eq_true_iff.mp h).2).1
def oI : Option Int → W
  | none => .non
  | some i => .int i
section
variable {K : Frag} {ρ : Rho} {μ : Mu} {te : TE} {t2 tb : TS} {N : Rho → Prop} {R : W → Prop}
/-- for x, y in a tuple of pairs -/
theorem run_forP {j k : Nat} {xs : List W} (h : EvD K te ρ μ (.tup xs)) (I : Nat → Rho → Prop) (h0 : I 0 ρ)
    (hs : ∀ (i : Nat) x ρ', xs[i]? = some x → I i ρ' → ∃ u v, x = .tup [u, v] ∧ Run K tb ((ρ'.set j (some u)).set k (some v)) μ (I (i + 1)) R) (hd : ∀ ρ', I xs.length ρ' → Run K t2 ρ' μ N R) : Run K (tSeq (tFor (iTup K te) (gTup K 2 (gCons (gName j) (gCons (gName k) gNil))) tb) t2) ρ μ N R := fun D σ H g hN hR =>
  h σ H g _ fun v H1 e1 d1 => by
    cases d1 with
    | tup hq hds =>
      rename_i a vs
      refine ⟨a, rfl, ⟨_, hq⟩, for_tup (K := K) (xs := vs) (fun i σ' H' => ∃ ρ', I i ρ' ∧ Ex H H' ∧ Ex H1 H' ∧ S K H' σ' ρ' μ) ⟨ρ, h0, e1, Ex.refl _, g.mono e1⟩ (fun i σ' H' _ w => ?_) (fun i v σ' H' hv w => ?_) fun σ' H' w => ?_⟩
      · obtain ⟨_, _, _, e, _⟩ := w
        exact tk_t (Tk.ex e) hq
      · obtain ⟨ρ', p, e2, e3, g2⟩ := w
        obtain ⟨x, hx, dx⟩ := dps_to i hds hv
        obtain ⟨u, y, rfl, r⟩ := hs i x ρ' hx p
        have dx2 := dpm e3 dx
        cases dx2 with
        | tup sq ss =>
          obtain ⟨v1, v2, rfl, r1, r2⟩ := dps2 ss
          refine ⟨_, _, rfl, sq, rfl, v1, [v2], rfl, v2, [], rfl, rfl, ?_⟩
          exact r _ _ H' ((g2.put j r1).put k r2) (fun ρ3 σ3 H3 p3 e4 g3 => ⟨ρ3, p3, e2.trans e4, e3.trans e4, g3⟩) (fun d v H3 r e4 => hR d v H3 r (e2.trans e4))
      · obtain ⟨ρ', p, e2, e3, g2⟩ := w
        rw [dps_len hds] at p
        exact hd ρ' p D σ' H' g2 (fun ρ3 σ3 H3 p3 e4 => hN ρ3 σ3 H3 p3 (e2.trans e4)) (fun d v H3 r e4 => hR d v H3 r (e2.trans e4))
theorem run_par3 {i j l : Nat} {ta : TA} {x y z : W} (h : EvS K ta ρ μ [x, y, z]) (k : Run K t2 (((ρ.set i (some x)).set j (some y)).set l (some z)) μ N R) : Run K (tSeq (tPar3 i j l ta) t2) ρ μ N R := fun D σ H g hN hR => h σ H g _ fun vs H1 e1 d1 => by
  obtain ⟨v, w, u, rfl, dv, dw, du⟩ := dps3 d1
  exact ⟨v, w, u, rfl, k D _ H1 ((((g.mono e1).put i dv).put j dw).put l du) (fun ρ' σ' H' n e2 g2 => hN ρ' σ' H' n (e1.trans e2) g2) fun d v H' r e2 dv => hR d v H' r (e1.trans e2) dv⟩
theorem dps6 {H : Hp} {vs : List V} {x1 x2 x3 x4 x5 x6 : W} (h : RwAll K H vs [x1, x2, x3, x4, x5, x6]) : ∃ v1 v2 v3 v4 v5 v6, vs = [v1, v2, v3, v4, v5, v6] ∧ Rw K H v1 x1 ∧ Rw K H v2 x2 ∧ Rw K H v3 x3 ∧ Rw K H v4 x4 ∧ Rw K H v5 x5 ∧ Rw K H v6 x6 := by
  cases h with
  | cons a b =>
    cases b with
    | cons c d =>
      obtain ⟨v3, v4, v5, v6, rfl, r3, r4, r5, r6⟩ := dps4 d
      exact ⟨_, _, _, _, _, _, rfl, a, c, r3, r4, r5, r6⟩
theorem run_six {i1 i2 i3 i4 i5 i6 : Nat} {x1 x2 x3 x4 x5 x6 : W} (h : EvD K te ρ μ (.tup [x1, x2, x3, x4, x5, x6])) (k : Run K t2 ((((((ρ.set i1 (some x1)).set i2 (some x2)).set i3 (some x3)).set i4 (some x4)).set i5 (some x5)).set i6 (some x6)) μ N R) :
    Run K (tSeq (tAsg te (gTup K 6 (gCons (gName i1) (gCons (gName i2) (gCons (gName i3) (gCons (gName i4) (gCons (gName i5) (gCons (gName i6) gNil)))))))) t2) ρ μ N R := fun D σ H g hN hR => h σ H g _ fun v H1 e1 d1 => by
  cases d1 with
  | tup hq hs =>
    obtain ⟨v1, v2, v3, v4, v5, v6, rfl, r1, r2, r3, r4, r5, r6⟩ := dps6 hs
    refine ⟨_, _, rfl, hq, rfl, v1, _, rfl, v2, _, rfl, v3, _, rfl, v4, _, rfl, v5, _, rfl, v6, [], rfl, rfl, ?_⟩
    exact k D _ H1 (((((((g.mono e1).put i1 r1).put i2 r2).put i3 r3).put i4 r4).put i5 r5).put i6 r6) (fun ρ' σ' H' n e2 => hN ρ' σ' H' n (e1.trans e2)) (fun d v H' r e2 => hR d v H' r (e1.trans e2))
end
theorem bound_law (y : Str) : (true && (decide ((y.length : Int) ≤ 8) && y.cps.toList.all inAZ)) = (keyS y || decide (y = "")) := by
  by_cases h : y = ""
  · subst h
    decide +kernel
  · rw [decide_eq_false h, Bool.or_false, Bool.true_and]
    unfold keyS
    have h1 : 1 ≤ (y.length : Int) := by
      by_cases q : y.length = 0
      · exfalso
        apply h
        obtain ⟨c⟩ := y
        have q2 : c.size = 0 := q
        rw [Array.size_eq_zero_iff.mp q2]
        decide +kernel
      · omega
    rw [decide_eq_true h1, Bool.true_and]
end Pw

namespace Pw
open PySem L2 Evl
/-! dicts with int keys -/
def sortI (ks : List Int) : List Int := ks.mergeSort fun a b => decide (a ≤ b)
theorem sortI_perm (ks : List Int) : (sortI ks).Perm ks := List.mergeSort_perm ks _
theorem sortI_pw (ks : List Int) : (sortI ks).Pairwise (· ≤ ·) := by
  have h := List.pairwise_mergeSort (le := fun a b : Int => decide (a ≤ b)) (fun a b c h1 h2 => decide_eq_true (Int.le_trans (of_decide_eq_true h1) (of_decide_eq_true h2))) (fun a b => by
    rcases Int.le_total a b with q | q
    · rw [decide_eq_true q, Bool.true_or]
    · rw [decide_eq_true q, Bool.or_true]) ks
  exact h.imp fun q => of_decide_eq_true q
theorem sortedI_only {ks ys : List Int} (hp : ys.Perm ks) (h : ys.Pairwise (· ≤ ·)) : ys = sortI ks :=
  List.Perm.eq_of_pairwise (le := (· ≤ ·)) (fun _ _ _ _ h1 h2 => Int.le_antisymm h1 h2) h (sortI_pw ks) (hp.trans (sortI_perm ks).symm)
def encI (m : List (Int × W)) : List (Key × W) := m.map fun p => (Sum.inl p.1, p.2)
def rSrtDI : List V → Hp → VK → Prop := fun xs H Q => ∃ (a : Addr) (kvs : List (Key × V)) (ks : List Int), xs = [.ref a] ∧ Rd H a (.dK kvs) ∧ kvs.map (·.1) = ks.map Sum.inl ∧ ks.length < 64 ∧
    ∀ (ys : List Int) (p : Addr), ys.Perm ks → ys.Pairwise (· ≤ ·) → H p = none → Q (.ref p) (upd H p (.lst (ys.map V.int)))
theorem cr_srtDI {X : Cx} (hc : X.calm = true) : CallR X (.builtin "sorted") rSrtDI := call_sortedDI hc
theorem dps_intsI {K : Frag} {H : Hp} : ∀ (ns : List Int), RwAll K H (ns.map V.int) (ns.map W.int)
  | [] => .nil
  | n :: r => .cons (.int n) (dps_intsI r)
section
variable {K : Frag} {E : XK} {ρ : Rho} {μ : Mu} {te tl ta tb td ty tx tv : TE} {t u : TT} {t1 t2 ts : TS} {X : Value → Mu → Prop} {N : Rho → Mu → Prop} {R : W → Mu → Prop} {P : W → Mu → Prop}
theorem el_srtDI {ta : TA} {a : Addr} {m : List (Int × W)} (ha : EvS K ta ρ μ [.ref a]) (l : μ a = some (.dk (encI m))) (h64 : m.length < 64) : EvL K (tCB rSrtDI ta) ρ μ ((sortI (m.map (·.1))).map W.int) := fun σ H g Q q =>
  ha σ H g _ fun vs H1 e1 d1 => by
    obtain ⟨v, rfl, dv⟩ := dps1 d1
    cases dv
    obtain ⟨kv, h, r⟩ := g.2.ex e1 a _ l
    have ek : (encI m).map (·.1) = (m.map (·.1)).map Sum.inl := by
      unfold encI
      rw [List.map_map, List.map_map]
      rfl
    refine ⟨a, kv, m.map (·.1), rfl, .inl h, by rw [rwp_keys r, ek], by rw [List.length_map]; exact h64, fun ys p hp hs hn => ?_⟩
    rw [sortedI_only hp hs]
    exact q p _ _ (e1.trans (Ex.new hn)) (fresh_back e1 hn) upd_same (dps_intsI _)
/-- d[k] = v, where v changes the store -/
theorem rm_dputW {P1 : W → Mu → Prop} (hv : EvW K E tv ρ μ P1 X) (kk : ∀ x μ1, P1 x μ1 → ∃ a kvs k, EvD K td ρ μ1 (.ref a) ∧ EvD K ty ρ μ1 (kW k) ∧ μ1 a = some (.dk kvs) ∧ kvs.length < 100000 ∧ N ρ (mset μ1 a (.dk (putW kvs k x)))) :
    RunM K E (sDPut td ty tv) ρ μ N R X := fun D σ H g hN hR hX =>
  hv σ H g _ (fun x μ1 v H1 p1 e1 g1 d1 => by
    obtain ⟨a, kvs, k, hd, hk, l, hl, hn⟩ := kk x μ1 p1
    refine hd σ H1 g1 _ fun u H2 e2 d2 => hk σ H2 (g1.mono e2) _ fun y H3 e3 d3 => ?_
    cases d2
    rw [kv_of d3]
    have e := e2.trans e3
    obtain ⟨kv, h, r⟩ := g1.2.ex e a _ l
    have tk := Tk.upd (o := .dK (putK kv k v)) (nt_dk h)
    have t := (Tk.ex e).trans tk
    refine ⟨a, upd H3 a (.dK (putK kv k v)), rfl, DPut.k h (sz_lt (by rw [rwp_len r]; exact hl)), ?_⟩
    exact hN ρ _ σ _ hn (e1.trans t) ⟨g1.1.tk t, (g1.2.ex e).put (nt_dk h) ⟨_, upd_same, rwp_put (rwm tk (dpm e d1)) (rwpm tk r)⟩⟩) hX
end
def valI (m : List (Int × W)) (k : Int) : Option W := (m.find? fun p => decide (p.1 = k)).map (·.2)
def putI (m : List (Int × W)) (k : Int) (v : W) : List (Int × W) := if (m.any fun p => decide (p.1 = k)) = true then m.map (fun p => if p.1 = k then (p.1, v) else p) else m ++ [(k, v)]
theorem dec_inl (a b : Int) : decide ((Sum.inl a : Key) = Sum.inl b) = decide (a = b) := by
  by_cases h : a = b
  · subst h
    simp
  · rw [decide_eq_false h, decide_eq_false fun e => h (Sum.inl.inj e)]
theorem encI_any (m : List (Int × W)) (k : Int) : ((encI m).any fun p => decide (p.1 = Sum.inl k)) = (m.any fun p => decide (p.1 = k)) := by
  induction m with
  | nil => rfl
  | cons a r ih =>
    show (decide ((Sum.inl a.1 : Key) = Sum.inl k) || (encI r).any fun p => decide (p.1 = Sum.inl k)) = (decide (a.1 = k) || r.any fun p => decide (p.1 = k))
    rw [ih, dec_inl]
theorem encI_put (m : List (Int × W)) (k : Int) (v : W) : putW (encI m) (Sum.inl k) v = encI (putI m k v) := by
  unfold putW putI
  rw [encI_any]
  split
  · unfold encI
    rw [List.map_map, List.map_map]
    apply List.map_congr_left
    intro p _
    show (if (Sum.inl p.1 : Key) = Sum.inl k then _ else _) = _
    by_cases h : p.1 = k
    · rw [if_pos (congrArg Sum.inl h)]
      show _ = ((Sum.inl (if p.1 = k then (p.1, v) else p).1 : Key), (if p.1 = k then (p.1, v) else p).2)
      rw [if_pos h]
    · rw [if_neg fun e => h (Sum.inl.inj e)]
      show _ = ((Sum.inl (if p.1 = k then (p.1, v) else p).1 : Key), (if p.1 = k then (p.1, v) else p).2)
      rw [if_neg h]
  · unfold encI
    rw [List.map_append]
    rfl
theorem encI_val (m : List (Int × W)) (k : Int) : valW (encI m) (Sum.inl k) = valI m k := by
  unfold valW valI encI
  induction m with
  | nil => rfl
  | cons a r ih =>
    rw [List.map_cons, List.find?_cons, List.find?_cons]
    have e : decide (((Sum.inl a.1 : Key), a.2).1 = Sum.inl k) = decide (a.1 = k) := dec_inl _ _
    rw [e]
    cases decide (a.1 = k) with
    | true => rfl
    | false => exact ih
theorem putI_len (m : List (Int × W)) (k : Int) (v : W) : (putI m k v).length ≤ m.length + 1 := by
  unfold putI
  split
  · rw [List.length_map]
    omega
  · rw [List.length_append]
    simp
theorem putI_all {m : List (Int × W)} {k : Int} {v : W} {C : W → Prop} (h : ∀ p ∈ m, C p.2) (hv : C v) : ∀ p ∈ putI m k v, C p.2 := by
  unfold putI
  split
  · intro p hp
    obtain ⟨q, hq, rfl⟩ := List.mem_map.mp hp
    split
    · exact hv
    · exact h q hq
  · intro p hp
    rcases List.mem_append.mp hp with e | e
    · exact h p e
    · rw [List.mem_singleton.mp e]
      exact hv
theorem valI_some {m : List (Int × W)} {k : Int} (h : k ∈ m.map (·.1)) : ∃ v, valI m k = some v ∧ (k, v) ∈ m := by
  obtain ⟨p, hp, rfl⟩ := List.mem_map.mp h
  unfold valI
  cases e : m.find? fun q => decide (q.1 = p.1) with
  | some q =>
    have h1 := List.find?_some e
    have h2 := List.mem_of_find?_eq_some e
    refine ⟨q.2, rfl, ?_⟩
    rw [← of_decide_eq_true h1]
    exact h2
  | none =>
    have := List.find?_eq_none.mp e p hp
    simp at this
/-- a row of the table -/
def rowO (m : List (Int × W)) : W → W
  | .int c => (match valI m c with
    | some (.tup [x, y]) => .tup [.int c, x, y]
    | _ => .non)
  | w => w
theorem rowO_at {m : List (Int × W)} {c : Int} {x y : W} (h : valI m c = some (.tup [x, y])) : rowO m (.int c) = .tup [.int c, x, y] := by
  unfold rowO
  show (match valI m c with | some (.tup [x, y]) => W.tup [.int c, x, y] | _ => .non) = _
  rw [h]
mutual
theorem Dw.lists {μ μ' : Mu} (g : ∀ a ws, isL μ a ws → isL μ' a ws) : ∀ {w : W} {d : PyData}, Dw μ w d → Dw μ' w d
  | _, _, .non => .non
  | _, _, .bl => .bl
  | _, _, .int => .int
  | _, _, .str => .str
  | _, _, .tup h => .tup (DwAll.lists g h)
  | _, _, .lst l h => .lst (g _ _ l) (DwAll.lists g h)
theorem DwAll.lists {μ μ' : Mu} (g : ∀ a ws, isL μ a ws → isL μ' a ws) : ∀ {ws : List W} {ds : List PyData}, DwAll μ ws ds → DwAll μ' ws ds
  | _, _, .nil => .nil
  | _, _, .cons h hs => .cons (Dw.lists g h) (DwAll.lists g hs)
end
theorem Good.dict {n : Nat} {μ : Mu} {p : Addr} {kvs : List (Key × W)} {o : O} {w : W} (h : Good n μ w) (l : μ p = some (.dk kvs)) : Good n (mset μ p o) w := by
  obtain ⟨d, z, k, q⟩ := h
  refine ⟨d, z.lists fun a ws la => ?_, k, q⟩
  have hne : a ≠ p := fun e => by
    rw [e] at la
    rcases la with la | la
    · rw [l] at la
      cases la
    · rw [l] at la
      cases la
  rcases la with la | la
  · exact .inl (by rw [mset_ne hne]; exact la)
  · exact .inr (by rw [mset_ne hne]; exact la)
theorem gnil {n : Nat} {μ : Mu} : ∀ w ∈ ([] : List W), Good n μ w := fun _ h => by cases h
theorem gcons {n : Nat} {μ : Mu} {a : W} {ws : List W} (h : Good n μ a) (hs : ∀ w ∈ ws, Good n μ w) : ∀ w ∈ a :: ws, Good n μ w := fun w hw => by
  rcases List.mem_cons.mp hw with e | e
  · rw [e]
    exact h
  · exact hs w e
theorem good_oW {n : Nat} {μ : Mu} {o : Option Str} (h : ∀ z, o = some z → okS z) : Good n μ (oW o) := by
  cases o with
  | none => exact good_non
  | some z => exact good_str (h z rfl)
theorem good_op {n : Nat} {μ : Mu} {op : Op} (h : okOp op) : Good (n + 1) μ (opW op) := by
  cases op with
  | get k => exact good_tup (gcons (good_str (okS_lit (by decide +kernel))) (gcons (good_str h) gnil))
  | put k v => exact good_tup (gcons (good_str (okS_lit (by decide +kernel))) (gcons (good_str h.1) (gcons (good_str h.2) gnil)))
  | drop k => exact good_tup (gcons (good_str (okS_lit (by decide +kernel))) (gcons (good_str h) gnil))
  | swap k o n => exact good_tup (gcons (good_str (okS_lit (by decide +kernel))) (gcons (good_str h.1) (gcons (good_str h.2.1) (gcons (good_str h.2.2) gnil))))
  | page low lim => exact good_tup (gcons (good_str (okS_lit (by decide +kernel))) (gcons (good_str h.1) (gcons good_int gnil)))
theorem okS_bound (r : Int) : okS (Pd.boundF r) := by
  unfold Pd.boundF
  split
  · exact okS_lit (by decide +kernel)
  · exact okS_key _
theorem rangeF_ok (r : Int) : okS (Pd.rangeF r).1 ∧ (Pd.rangeF r).1.length ≤ 8 ∧ ∀ z, (Pd.rangeF r).2 = some z → okS z := by
  have lb : ∀ r, (Pd.boundF r).length ≤ 8 := fun r => by
    unfold Pd.boundF
    split
    · decide +kernel
    · unfold Pd.keyF
      split
      · rw [List.getD_eq_getElem?_getD]
        cases e : Pd.keys8[(r / 6 / 4 % 8).toNat]? with
        | none => decide +kernel
        | some x => exact (show ∀ x ∈ Pd.keys8, x.length ≤ 8 by decide +kernel) x (List.mem_of_getElem? e)
      · unfold Pd.word
        rw [Pd.wst_len]
        have := Int.emod_lt_of_pos (r / 6 / 4) (show (0 : Int) < 8 by decide)
        omega
  unfold Pd.rangeF
  split
  · exact ⟨okS_bound _, lb _, fun z e => by cases e⟩
  · refine ⟨?_, ?_, fun z e => ?_⟩
    · show okS (Pd.sMin _ _)
      unfold Pd.sMin
      split <;> exact okS_bound _
    · show (Pd.sMin _ _).length ≤ 8
      unfold Pd.sMin
      split <;> exact lb _
    · cases e
      show okS (Pd.sMax _ _)
      unfold Pd.sMax
      split <;> exact okS_bound _
end Pw

namespace Pw
open PySem L2 Evl
open Pd (sLt)
/-! what the letters' law needs -/
theorem hu65 {k : Nat} {A : Around} (r : Room k A) : A.units + 65 < cLine := by
  have := r.un
  omega
section
variable {K : Frag} {E : XK} {ρ : Rho} {μ : Mu} {te tl ta tb td ty tx tv : TE} {t u : TT} {t1 t2 ts : TS} {X : Value → Mu → Prop} {N : Rho → Mu → Prop} {R : W → Mu → Prop}
theorem ed_notInD {x : W} {a : Addr} {ws : List W} {d : PyData} {ds : List PyData} (ha : EvD K ta ρ μ x) (hb : EvD K tb ρ μ (.ref a)) (zx : Dw μ x d) (l : isL μ a ws) (zs : DwAll μ ws ds) (hx : SeqAt.shaped d = true) (hy : SeqAt.shaped (.list ds) = true) :
    EvD K (tOp (rNotInD K) ta tb) ρ μ (.bl (!ds.any fun z => PyData.eqv z d)) :=
  ed_twom ha hb fun H v w Q m dv dw k => ⟨d, ds, dp_of m zx dv, dp_of m (.lst l zs) dw, hx, hy, k _ H (Ex.refl H) (.bl _)⟩
theorem EvW.imp {P P2 : W → Mu → Prop} (h : EvW K E te ρ μ P X) (q : ∀ w μ', P w μ' → P2 w μ') : EvW K E te ρ μ P2 X := fun σ H g Q k hX => h σ H g Q (fun w μ' v H' p => k w μ' v H' (q w μ' p)) hX
/-- a list of the store + a new list -/
theorem ew_catN {a : Addr} {xs ys : List W} (ha : EvD K ta ρ μ (.ref a)) (l : μ a = some (.ls xs)) (hb : EvL K tb ρ μ ys) (hl : xs.length + ys.length ≤ 100000) :
    EvW K E (tOp rCat ta tb) ρ μ (fun w μ' => ∃ p, w = .ref p ∧ Grow μ μ' ∧ μ' p = some (.ls (xs ++ ys))) X := by
  refine ew_cat (P1 := fun w μ' => w = .ref a ∧ μ' = μ) (P2 := fun x y μ' => x = .ref a ∧ ∃ p2, μ p2 = none ∧ y = .ref p2 ∧ μ' = mset μ p2 (.ls ys)) (ew_pure ha ⟨rfl, rfl⟩) (fun x μ1 hx => ?_) (fun x y μ2 hx => ?_)
  · obtain ⟨rfl, rfl⟩ := hx
    refine (ew_ofL hb).imp fun w μ' hp => ?_
    obtain ⟨p, h1, h2, h3⟩ := hp
    exact ⟨rfl, p, h1, h2, h3⟩
  · obtain ⟨rfl, p2, h2, rfl, rfl⟩ := hx
    have ne : a ≠ p2 := fun e => by
      rw [← e, l] at h2
      cases h2
    exact ⟨a, p2, xs, ys, rfl, rfl, by rw [mset_ne ne]; exact l, mset_same, hl, fun p hp => ⟨p, rfl, (Grow.new h2).trans (Grow.new hp), mset_same⟩⟩
theorem ecw_val {P : Bool → Mu → Prop} (h : EvW K E te ρ μ (fun w μ' => ∃ b, w = .bl b ∧ P b μ') X) : EcW K E (tB te) ρ μ P X := fun σ H g Q q hX => h σ H g _ (fun w μ' v H' p e g' dv => by
  obtain ⟨b, rfl, hp⟩ := p
  cases dv
  exact ⟨b, rfl, q b μ' H' hp e g'⟩) hX
theorem ecw_not {P : Bool → Mu → Prop} (h : EcW K E t ρ μ (fun b μ' => P (!b) μ') X) : EcW K E (tNot t) ρ μ P X := fun σ H g Q q hX => h σ H g _ (fun b μ' H' p e g' => q (!b) μ' H' p e g') hX
theorem rm_ifW {P : Bool → Mu → Prop} (h : EcW K E t ρ μ P X) (h1 : ∀ μ', P true μ' → RunM K E t1 ρ μ' N R X) (h2 : ∀ μ', P false μ' → RunM K E t2 ρ μ' N R X) : RunM K E (tIfS t t1 t2) ρ μ N R X := fun D σ H g hN hR hX => h σ H g _ (fun b μ1 H1 p1 a1 g1 => by
  cases b with
  | true => exact iteT (h1 μ1 p1 D σ H1 g1 (fun ρ' μ' σ' H' n e2 => hN ρ' μ' σ' H' n (a1.trans e2)) (fun d μ' v H' r e2 => hR d μ' v H' r (a1.trans e2)) fun c μ' H' x e2 => hX c μ' H' x (a1.trans e2))
  | false => exact iteF (h2 μ1 p1 D σ H1 g1 (fun ρ' μ' σ' H' n e2 => hN ρ' μ' σ' H' n (a1.trans e2)) (fun d μ' v H' r e2 => hR d μ' v H' r (a1.trans e2)) fun c μ' H' x e2 => hX c μ' H' x (a1.trans e2))) hX
theorem ew_neB {P1 : W → Mu → Prop} {P2 : W → W → Mu → Prop} {P : W → Mu → Prop} (ha : EvW K E ta ρ μ P1 X) (hb : ∀ x μ1, P1 x μ1 → EvW K E tb ρ μ1 (P2 x) X)
    (hp : ∀ x y μ2, P2 x y μ2 → ∃ i j, x = .bl i ∧ y = .bl j ∧ P (.bl (!decide (i = j))) μ2) : EvW K E (tOp rNe ta tb) ρ μ P X :=
  ew_two ha hb fun x y μ2 p2 σ H v w Q g dv dw k => by
    obtain ⟨i, j, rfl, rfl, hP⟩ := hp x y μ2 p2
    cases dv
    cases dw
    refine ⟨rfl, ?_⟩
    rw [show decide (V.bl i = V.bl j) = decide (i = j) by simp]
    exact k _ μ2 _ H hP (Tk.refl H) g (.bl _)
end
/-! the eleven kinds with their lengths -/
abbrev sizes1 : List (Str × Nat) := [("ask", 3), ("where", 2), ("answer", 3), ("elsewhere", 2), ("there", 5), ("move", 5), ("split", 5)]
abbrev sizes2 : List (Str × Nat) := [("join", 6), ("have", 6), ("content", 6), ("receipt", 4)]
def szW (p : Str × Nat) : W := .tup [.str p.1, .int (p.2 : Int)]
def szD (p : Str × Nat) : PyData := .tuple [.str p.1, .int (p.2 : Int)]
theorem sz_dw (μ : Mu) : ∀ ps : List (Str × Nat), DwAll μ (ps.map szW) (ps.map szD)
  | [] => .nil
  | p :: r => .cons (.tup (.cons .str (.cons .int .nil))) (sz_dw μ r)
theorem sz_any (ps : List (Str × Nat)) (kd : Str) (n : Nat) : ((ps.map szD).any fun z => PyData.eqv z (.tuple [.str kd, .int (n : Int)])) = decide ((kd, n) ∈ ps) := by
  induction ps with
  | nil => rfl
  | cons p r ih =>
    rw [List.map_cons, List.any_cons, ih]
    have e : PyData.eqv (szD p) (.tuple [.str kd, .int (n : Int)]) = decide ((kd, n) = p) := by
      obtain ⟨a, m⟩ := p
      show (decide (a = kd) && (decide ((m : Int) = (n : Int)) && true)) = _
      by_cases h1 : a = kd
      · by_cases h2 : m = n
        · subst h1
          subst h2
          simp
        · rw [decide_eq_false (show ¬ ((m : Int) = (n : Int)) from fun q => h2 (Int.ofNat.inj q)), decide_eq_false fun q => h2 (Prod.mk.inj q).2.symm]
          simp
      · rw [decide_eq_false h1, decide_eq_false fun q => h1 (Prod.mk.inj q).1.symm]
        rfl
    rw [e]
    by_cases h : (kd, n) = p
    · rw [decide_eq_true h, Bool.true_or, decide_eq_true (by rw [h]; exact List.mem_cons_self)]
    · rw [decide_eq_false h, Bool.false_or]
      by_cases q : (kd, n) ∈ r
      · rw [decide_eq_true q, decide_eq_true (List.mem_cons_of_mem _ q)]
      · rw [decide_eq_false q, decide_eq_false fun e => (List.mem_cons.mp e).elim h q]
theorem letter_size {c : Int} {ds : List PyData} (h : letterB c (.tuple ds) = true) : (kindS (.tuple ds), ds.length) ∈ sizes1 ++ sizes2 := by
  have hs : ∀ {n : Int}, shardB n ds = true → (ds.length : Int) = n := fun q => by
    unfold shardB at q
    exact of_decide_eq_true (Bool.and_eq_true_iff.mp q).1
  unfold letterB at h
  cases e : formsB.find? fun p => decide (p.1 = kindS (.tuple ds)) with
  | none =>
    rw [e] at h
    cases h
  | some p =>
    rw [e] at h
    have h0 := List.find?_some e
    have h1 : p.1 = kindS (.tuple ds) := of_decide_eq_true h0
    have h2 := List.mem_of_find?_eq_some e
    have h3 : p.2 c ds = true := h
    rw [← h1]
    have go : ∀ {n : Nat}, (ds.length : Int) = (n : Int) → ds.length = n := fun q => Int.ofNat.inj q
    unfold formsB at h2
    simp only [List.mem_cons, List.not_mem_nil, or_false] at h2
    rcases h2 with rfl | rfl | rfl | rfl | rfl | rfl | rfl | rfl | rfl | rfl | rfl
    all_goals have h4 := (Bool.and_eq_true_iff.mp h3).1
    · rw [go (n := 3) (of_decide_eq_true h4)]
      decide +kernel
    · rw [go (n := 2) (of_decide_eq_true h4)]
      decide +kernel
    · rw [go (n := 3) (of_decide_eq_true h4)]
      decide +kernel
    · rw [go (n := 2) (of_decide_eq_true h4)]
      decide +kernel
    · rw [go (n := 5) (hs h4)]
      decide +kernel
    · rw [go (n := 5) (hs h4)]
      decide +kernel
    · rw [go (n := 5) (hs h4)]
      decide +kernel
    · rw [go (n := 6) (of_decide_eq_true h4)]
      decide +kernel
    · rw [go (n := 6) (hs h4)]
      decide +kernel
    · rw [go (n := 6) (hs h4)]
      decide +kernel
    · rw [go (n := 4) (of_decide_eq_true h4)]
      decide +kernel
theorem ntup_letter {c : Int} {d : PyData} (h : (Pd.tyN d == "tuple") = false) : letterB c d = false := by
  unfold letterB
  rw [ntup_kind h]
  rfl
end Pw

namespace Pw
open PySem L2 Evl
open Pd (sLt)
/-! exceptions of the program's own classes, tables of tuples, dicts that are displayed -/
section
variable {P : Program} {w : World} {K : Frag} {mg : Str → Option Value} {base : Heap}
/-- a def that may raise -/
structure DefX (P : Program) (w : World) (K : Frag) (mg : Str → Option Value) (base : Heap) (k : Nat) (x : Str) (ps : List Str) (sp : Sp) : Prop where
  ex : ∃ (f : Addr) (fd : FuncData), FnOk P w K mg base (L2.CX P w) k f fd ps sp ∧ mg x = some (.ref f) ∧ PySem.W.keepIn K (.ref f) = true ∧ Binds K fd ps []
theorem defX_mk {k : Nat} {x : Str} {st : Stmt} {f : Addr} {fd : FuncData} {ps : List Str} {sp : Sp} (F : FnP K x st f fd) (g : mg x = some (.ref f)) (b : Binds K fd ps []) (h : FnOk P w K mg base (L2.CX P w) k f fd ps sp) : DefX P w K mg base k x ps sp := ⟨f, fd, h, g, F.kp, b⟩
theorem fn_mutX {x : Str} {st : Stmt} {f : Addr} {fd : FuncData} {N ps : List Str} {k : Nat} {Wf : List W → Mu → (W → Mu → Prop) → (Value → Mu → Prop) → Prop} (F : FnP K x st f fd) (S : FnScope N ps (defScope st)) (len : ∀ ds μ Pq X, Wf ds μ Pq X → ds.length = ps.length)
    (body : ∀ ds μ Pq X, Wf ds μ Pq X → ∀ (cdv : Value) (A : Around) (outer : List PySem.Env) (s : Shared) (H : Hp) (E : XK), Room k (A.deeper (PyProof.Rows.envOfC x (defScope st) s.heap.objs.size f cdv)) →
      ∃ t, PSs (cxOf (L2.CX P w) P w K mg base N x (defScope st) f cdv A outer s H E) (defBody st) t ∧ RunM K E t (rho0 N.length ds) μ (fun _ μ' => Pq .non μ') Pq X) : FnOk P w K mg base (L2.CX P w) (k + 1) f fd ps (spM K Wf) := by
  refine L2.FunD.ok F S (fun vs H Q E h => ?_) (fun cdv A outer s H vs Q E hr h => ?_)
  · obtain ⟨ds, μ, Pq, X, h1, _, h2, _⟩ := h
    rw [dps_len h1]
    exact len ds μ Pq X h2
  · obtain ⟨ds, μ, Pq, X, h1, hm, h2, q, qx⟩ := h
    obtain ⟨t, ht, hrun⟩ := body ds μ Pq X h2 cdv A outer s H E hr
    exact ⟨t, ht, hrun _ _ H ⟨dps_start h1, hm⟩ (fun ρ' μ' σ' H' e e1 g => q .non μ' .non H' e e1 g.2 .non) (fun e μ' v H' q1 e1 m dv => q e μ' v H' q1 e1 m dv) fun c μ' H' x e1 m => qx c μ' H' x e1 m⟩
end
/-- an own exception class -/
structure ExcOf (K : Frag) (mg : Str → Option Value) (x : Str) (C : Addr) : Prop where
  gC : mg x = some (.ref C)
  q : PySem.W.excIn K C He.veBase "ValueError.__new__" = true
  kC : PySem.W.keepIn K (.ref C) = true
  sub : PySem.W.subIn K (.ref C) (.type "BaseException") = some true
  ty : PySem.W.typeIn K (.ref C) = some (.type "type")
theorem exc_of {K : Frag} {h : Heap} {mg : Str → Option Value} {x : Str} (g : mg x = some (.ref (He.ga K x))) (c : (He.Fa.exc x).ok K = true) : ExcOf K mg x (He.ga K x) := by
  obtain ⟨h1, h2⟩ := Bool.and_eq_true_iff.mp c
  obtain ⟨h3, h4⟩ := Bool.and_eq_true_iff.mp h2
  obtain ⟨h5, h6⟩ := Bool.and_eq_true_iff.mp h4
  exact ⟨g, h1, h3, of_decide_eq_true h5, of_decide_eq_true h6⟩
/-- raise X('..') -/
theorem ps_own {X : Cx} {E : XK} {C : Addr} {x m : Str} {j : Nat} {p p2 pos pos' : Pos} (e : ExcOf X.K X.mg x C) (hc : X.calm = true) (tk : Takes X (fun cls d _ H => E cls d H)) (hg : Gl X x) (hdb : (x == ("__debug__" : Str)) = false := by decide) :
    PS X (.Raise (some (.Call (.Name x p) [.Constant (.str m) j p2] [] pos)) none pos') (fun _ _ H => E (.ref C) none H) :=
  ps_raise hc tk (pmk_own PySem.F.excBase_ValueError e.q e.gC e.kC (raises_own e.sub e.ty) hg hdb)
section
variable {K : Frag} {E : XK} {ρ : Rho} {μ : Mu} {te tl ta tb tc td ty tx tv : TE} {t u : TT} {t1 t2 ts : TS} {X : Value → Mu → Prop} {N : Rho → Mu → Prop} {R : W → Mu → Prop}
theorem rm_raise {c : Value} (h : X c μ) : RunM K E (fun _ _ H => E c none H) ρ μ N R X := fun D σ H g _ _ hX => hX c μ H h (Tk.refl H) g.2
theorem rm_raiseS {c : Value} (h : X c μ) : RunM K E (tSeq (fun _ _ H => E c none H) t2) ρ μ N R X := fun D σ H g _ _ hX => hX c μ H h (Tk.refl H) g.2
end
/-! tables of tuples of texts -/
structure TabT (K : Frag) (w : World) (mg : Str → Option Value) (x : Str) (kvs : List (Str × List Str)) : Prop where
  ex : ∃ a : Addr, mg x = some (.ref a) ∧ (∃ es n, KDict K w a es n) ∧ ∀ p ∈ kvs, ∃ t : Addr, PySem.W.nsIn K a p.1 = some (some (.ref t)) ∧ ∀ H : Hp, SqT K H t (p.2.map V.str)
theorem tupB_ok {K : Frag} {a : Addr} {ws : List Str} (h : tupB K a ws = true) : ∀ H : Hp, SqT K H a (ws.map V.str) := by
  intro H
  refine .inr ?_
  unfold tupB at h
  cases q : K.lookup a with
  | none =>
    rw [q] at h
    cases h
  | some o =>
    obtain ⟨oc, od, dt, osl⟩ := o
    rw [q] at h
    cases oc with
    | type c =>
      cases dt with
      | seq its n =>
        obtain ⟨h1, h2⟩ := Bool.and_eq_true_iff.mp (show (decide (c = "tuple") && (decide (its.size ≤ 100) && eqStrs its.toList ws)) = true from h)
        obtain ⟨h3, h4⟩ := Bool.and_eq_true_iff.mp h2
        have e : c = "tuple" := of_decide_eq_true h1
        have e2 : its.size ≤ 100 := of_decide_eq_true h3
        subst e
        exact ⟨_, its, n, rfl, rfl, rfl, sz_of (by omega), eqStrs_ok h4⟩
      | _ => cases h
    | _ => cases dt <;> cases h
def tabTB (K : Frag) (a : Addr) (kvs : List (Str × List Str)) : Bool := kvs.all fun p => match PySem.W.nsIn K a p.1 with
  | some (some (.ref t)) => tupB K t p.2
  | _ => false
theorem tabT_of {K : Frag} {w : World} {mg : Str → Option Value} {x : Str} (kvs : List (Str × List Str)) (G : mg x = some (.ref (He.ga K x)))
    (hd : He.dicW K (He.ga K x) = some (He.keysIn w.params (kvs.map (·.1)))) (hv : tabTB K (He.ga K x) kvs = true) : TabT K w mg x kvs := by
  refine ⟨He.ga K x, G, He.dicW_ok hd, fun p hp => ?_⟩
  have h := List.all_eq_true.mp hv p hp
  cases e : PySem.W.nsIn K (He.ga K x) p.1 with
  | none =>
    rw [e] at h
    cases h
  | some o =>
    rw [e] at h
    cases o with
    | none => cases h
    | some v =>
      cases v with
      | ref t => exact ⟨t, rfl, tupB_ok h⟩
      | _ => cases h
theorem ed_tabT {K : Frag} {ρ : Rho} {μ : Mu} {tb : TE} {w : World} {mg : Str → Option Value} {x : Str} {kvs : List (Str × List Str)} {z : Str} {ws : List Str} (T : TabT K w mg x kvs) (hk : EvD K tb ρ μ (.str z)) (hz : (z, ws) ∈ kvs) :
    EvD K (tOp (rIxD K w) (tC (.ref T.ex.choose)) tb) ρ μ (.tup (ws.map W.str)) := fun σ H g Q q =>
  hk σ H g _ fun v H1 e1 d1 => by
    cases d1
    obtain ⟨_, ⟨es, n, KD⟩, hall⟩ := T.ex.choose_spec
    obtain ⟨t, ht, sq⟩ := hall _ hz
    exact ⟨_, z, .ref t, rfl, rfl, ⟨es, n, _, KD.at_, KD.lit, ht, rfl⟩, q _ H1 e1 (.tup (sq H1) (rw_strs ws))⟩
section
variable {K : Frag} {E : XK} {ρ : Rho} {μ : Mu} {te tl ta tb tc td ty tx tv : TE} {t u : TT} {t1 t2 ts : TS}
/-! {'c': a, 's': b, 'd': c}[z] -/
def csd (a b c : Int) (z : Str) : Option Int := if z = "c" then some a else if z = "s" then some b else if z = "d" then some c else none
theorem csd_val (a b c : Int) (z : Str) (x : Int) (h : csd a b c z = some x) : valV (mergeK [] [((Sum.inr "c" : Key), V.int a), (Sum.inr "s", V.int b), (Sum.inr "d", V.int c)]) (Sum.inr z) = some (V.int x) := by
  unfold csd at h
  split at h
  · rename_i e
    subst e
    cases h
    rfl
  · split at h
    · rename_i e
      subst e
      cases h
      rfl
    · split at h
      · rename_i e
        subst e
        cases h
        rfl
      · cases h
theorem ed_csd {a b c x : Int} {z : Str} (ha : EvD K ta ρ μ (.int a)) (hb : EvD K tb ρ μ (.int b)) (hc : EvD K tc ρ μ (.int c)) (hk : EvD K ty ρ μ (.str z)) (hx : csd a b c z = some x) :
    EvD K (tDGet (tDisp [(tC (.str "c"), ta), (tC (.str "s"), tb), (tC (.str "d"), tc)]) ty) ρ μ (.int x) := fun σ H g Q q => fun p hp => by
  refine ha σ _ (g.mono (Ex.new hp)) _ fun v1 H1 e1 d1 => ?_
  refine hb σ H1 (g.mono ((Ex.new hp).trans e1)) _ fun v2 H2 e2 d2 => ?_
  refine hc σ H2 (g.mono (((Ex.new hp).trans e1).trans e2)) _ fun v3 H3 e3 d3 => ?_
  cases d1
  cases d2
  cases d3
  have e := (e1.trans e2).trans e3
  have h3 : H3 p = some (.dK []) := e _ _ upd_same
  refine ⟨h3, [((Sum.inr "c" : Key), V.int a), (Sum.inr "s", V.int b), (Sum.inr "d", V.int c)], rfl, Nat.le_of_ble_eq_true rfl, ?_⟩
  have ex : Ex H (upd H3 p (.dK (mergeK [] [((Sum.inr "c" : Key), V.int a), (Sum.inr "s", V.int b), (Sum.inr "d", V.int c)]))) := fun b o ho => by
    have ne : b ≠ p := fun q => by
      rw [q, hp] at ho
      cases ho
    have := ((Ex.new hp).trans e) b o ho
    rw [upd_ne ne]
    exact this
  refine hk σ _ (g.mono ex) _ fun y H4 e4 d4 => ?_
  cases d4
  have h4 := e4 _ _ upd_same
  refine ⟨p, V.int x, rfl, ?_, q _ H4 (ex.trans e4) (.int x)⟩
  have := DGet.k (k := Sum.inr z) h4
  rw [csd_val a b c z x hx] at this
  exact this
/-- `is not True` of a bool -/
theorem ed_notB {a b : Bool} (ha : EvD K ta ρ μ (.bl a)) (hb : EvD K tb ρ μ (.bl b)) : EvD K (tOp L2.rNotB ta tb) ρ μ (.bl (!decide (a = b))) := ed_two ha hb fun H v w Q dv dw k => by
  cases dv
  cases dw
  exact ⟨a, b, rfl, rfl, k _ H (Ex.refl H) (.bl _)⟩
/-- for x, y in a list of the store -/
theorem run_forLP {j k : Nat} {a : Addr} {xs : List W} {N : Rho → Prop} {R : W → Prop} (h : EvD K te ρ μ (.ref a)) (l : isL μ a xs) (I : Nat → Rho → Prop) (h0 : I 0 ρ)
    (hs : ∀ (i : Nat) x ρ', xs[i]? = some x → I i ρ' → ∃ u v, x = .tup [u, v] ∧ Run K ts ((ρ'.set j (some u)).set k (some v)) μ (I (i + 1)) R) (hd : ∀ ρ', I xs.length ρ' → Run K t2 ρ' μ N R) : Run K (tSeq (tFor (iList K te) (gTup K 2 (gCons (gName j) (gCons (gName k) gNil))) ts) t2) ρ μ N R := fun D σ H g hN hR =>
  h σ H g _ fun v H1 e1 d1 => by
    cases d1
    obtain ⟨vs, hq, hds⟩ := l.sq (g.2.ex e1)
    · refine ⟨_, rfl, ⟨_, hq⟩, for_list (K := K) (fun i σ' H' => ∃ ρ', I i ρ' ∧ Ex H1 H' ∧ S K H' σ' ρ' μ) ⟨ρ, h0, Ex.refl _, g.mono e1⟩ (fun i σ' H' _ w => ex_l w.choose_spec.2.1 hq) (fun i v σ' H' hv w => ?_) fun σ' H' w => ?_⟩
      · obtain ⟨ρ', p, e2, g2⟩ := w
        obtain ⟨x, hx, dx⟩ := dps_to i hds hv
        obtain ⟨u, y, rfl, r⟩ := hs i x ρ' hx p
        have dx2 := dpm e2 dx
        cases dx2 with
        | tup sq ss =>
          obtain ⟨v1, v2, rfl, r1, r2⟩ := dps2 ss
          refine ⟨_, _, rfl, sq, rfl, v1, [v2], rfl, v2, [], rfl, rfl, ?_⟩
          exact r _ _ H' ((g2.put j r1).put k r2) (fun ρ3 σ3 H3 p3 e3 g3 => ⟨ρ3, p3, e2.trans e3, g3⟩) fun d v H3 r e3 dv => hR d v H3 r ((e1.trans e2).trans e3) dv
      · obtain ⟨ρ', p, e2, g2⟩ := w
        rw [dps_len hds] at p
        exact hd ρ' p D σ' H' g2 (fun ρ3 σ3 H3 p3 e3 g3 => hN ρ3 σ3 H3 p3 ((e1.trans e2).trans e3) g3) fun d v H3 r e3 dv => hR d v H3 r ((e1.trans e2).trans e3) dv
/-- for x in a new list, nothing behind it -/
theorem run_forN1 {j : Nat} {xs : List W} {R : W → Prop} (h : EvL K te ρ μ xs) (I : Nat → Rho → Prop) (h0 : I 0 ρ)
    (hs : ∀ (i : Nat) x ρ', xs[i]? = some x → I i ρ' → Run K ts (ρ'.set j (some x)) μ (I (i + 1)) R) : Run K (tFor (iList K te) (gName j) ts) ρ μ (I xs.length) R := fun D σ H g hN hR =>
  h σ H g _ fun p vs H1 e1 hp h1 hds => by
    refine ⟨_, rfl, ⟨_, SqL.of h1⟩, for_list (K := K) (xs := vs) (fun i σ' H' => ∃ ρ', I i ρ' ∧ Ex H1 H' ∧ S K H' σ' ρ' μ) ⟨ρ, h0, Ex.refl _, g.mono e1⟩ (fun i σ' H' _ w => ex_l w.choose_spec.2.1 (SqL.of h1)) (fun i v σ' H' hv w => ?_) fun σ' H' w => ?_⟩
    · obtain ⟨ρ', p, e2, g2⟩ := w
      obtain ⟨x, hx, dx⟩ := dps_to i hds hv
      exact hs i x ρ' hx p _ _ H' (g2.put j (dpm e2 dx)) (fun ρ3 σ3 H3 p3 e3 g3 => ⟨ρ3, p3, e2.trans e3, g3⟩) fun d v H3 r e3 dv => hR d v H3 r ((e1.trans e2).trans e3) dv
    · obtain ⟨ρ', p, e2, g2⟩ := w
      rw [dps_len hds] at p
      exact hN ρ' σ' H' p (e1.trans e2) g2
end
/-! try: return f(..) except T as e: return isinstance(e, C) -/
theorem pss_iteN {X : Cx} {sts : List Stmt} {t : TS} {p : Prop} [Decidable p] (h : p → PSs X sts t) : PSs X sts (if p then t else tNever) := by
  split
  · exact h ‹_›
  · exact pss_never
abbrev tIsE (K : Frag) (C a : Addr) (i : Nat) : TS := tRet (tCB (rIsE K C a) (tCons (tVar i) (tCons (tC (.ref C)) tNil)))
theorem rm_tryIs {K : Frag} {E : XK} {ρ : Rho} {μ : Mu} {N : Rho → Mu → Prop} {R : W → Mu → Prop} {X Xc : Value → Mu → Prop} {ta : TA} {xs : List W} {i : Nat} {C : Addr} {T : Value} {Wf : List W → Mu → (W → Mu → Prop) → (Value → Mu → Prop) → Prop} {Wout : WX}
    (h : EvS K ta ρ μ xs) (hw : Wf xs μ R Xc) (hi : i < ρ.length) (hx : ∀ c μ', Xc c μ' → c = .ref C ∧ R (.bl true) μ') (he : PySem.W.exmOne K (.ref C) T = some true) :
    RunM K E (fun D σ H => tRet (tCallS (spM K Wf) (WE (wAs K T i (fun a cls d => if cls = .ref C ∧ d = none then tIsE K C a i else tNever) Wout D)) ta) D σ H) ρ μ N R X := fun D σ H g hN hR hX =>
  h σ H g _ fun vs H1 e1 d1 => by
    refine ⟨xs, μ, R, Xc, d1, g.2.ex e1, hw, fun w μ' v H2 p e2 m2 d2 => hR w μ' v H2 p ((Tk.ex e1).trans e2) m2 d2, fun c μ' H2 x e2 m2 => ?_⟩
    obtain ⟨rfl, hr⟩ := hx c μ' x
    refine ⟨true, he, fun _ a ha => ?_, fun q => Bool.noConfusion q⟩
    show (if Value.ref C = Value.ref C ∧ (none : Option Addr) = none then tIsE K C a i else tNever) _ _ _
    rw [if_pos ⟨rfl, rfl⟩]
    refine ⟨.ref a, ?_, ?_⟩
    · rw [List.getElem?_set, if_pos rfl, if_pos (by rw [g.1.1]; exact hi)]
    · refine ⟨.ref C, .ref C, true, rfl, fun u hu => hu, ?_, hR _ μ' _ H2 hr ((Tk.ex e1).trans e2) m2 (.bl true)⟩
      unfold PySem.W.kitOne
      rw [if_pos (beq_self_eq_true _)]
/-- what the top says of such a class -/
def excCB (K : Frag) (D : Addr) : Bool := He.eqO (PySem.W.findIn K (.ref D) "__getattribute__") (some (some (.builtin "BaseException.__getattribute__"))) && (He.eqO (PySem.W.findIn K (.ref D) "__getattr__") (some none) &&
  (decide (PySem.W.subIn K (.ref D) (.type "BaseException") = some true) && (PySem.W.hasDictIn K D && (He.eqO (PySem.W.findIn K (.ref D) "__class__") (some (some (.builtin "object.__class__"))) &&
  (He.eqO (PySem.W.specialIn K (.builtin "object.__class__") "__get__") (some (some (.builtin "getset_descriptor.__get__"))) && (decide (PySem.W.takesIn K (.builtin "object.__class__") = some true) && decide (PySem.W.mroIn K D (.type "object") = some true)))))))
theorem excC_of {K : Frag} {D : Addr} (h : excCB K D = true) : L2.ExcC K D := by
  obtain ⟨h1, h⟩ := Bool.and_eq_true_iff.mp h
  obtain ⟨h2, h⟩ := Bool.and_eq_true_iff.mp h
  obtain ⟨h3, h⟩ := Bool.and_eq_true_iff.mp h
  obtain ⟨h4, h⟩ := Bool.and_eq_true_iff.mp h
  obtain ⟨h5, h⟩ := Bool.and_eq_true_iff.mp h
  obtain ⟨h6, h⟩ := Bool.and_eq_true_iff.mp h
  obtain ⟨h7, h8⟩ := Bool.and_eq_true_iff.mp h
  exact ⟨He.eqO_ok h1, He.eqO_ok h2, of_decide_eq_true h3, h4, He.eqO_ok h5, He.eqO_ok h6, of_decide_eq_true h7, of_decide_eq_true h8⟩
end Pw

namespace Pw
open PySem L2 Evl
/-! objects of the program's classes: attributes, methods, making; what raises, and try -/
theorem rwp_look {K : Frag} {H : Hp} {f : Str} : ∀ {fv : List (Str × V)} {fs : List (Str × W)}, RwP K H fv fs → (fs.lookup f = none → fv.lookup f = none) ∧ ∀ w, fs.lookup f = some w → ∃ v, fv.lookup f = some v ∧ Rw K H v w := by
  intro fv fs h
  induction h with
  | nil => exact ⟨fun _ => rfl, fun w e => by cases e⟩
  | @cons p q r s a b ih =>
    obtain ⟨p1, p2⟩ := p
    obtain ⟨q1, q2⟩ := q
    have e : p1 = q1 := a.1
    subst e
    rw [List.lookup_cons, List.lookup_cons]
    cases hd : f == p1 with
    | true => exact ⟨fun e => (by cases e), fun w e => by
        cases e
        exact ⟨p2, rfl, a.2⟩⟩
    | false => exact ih
def putFW (f : Str) (w : W) : List (Str × W) → List (Str × W)
  | [] => [(f, w)]
  | (g, x) :: r => if g = f then (g, w) :: r else (g, x) :: putFW f w r
theorem rwp_putF {K : Frag} {H : Hp} {f : Str} {v : V} {w : W} (hv : Rw K H v w) {fv : List (Str × V)} {fs : List (Str × W)} (h : RwP K H fv fs) : RwP K H (putF f v fv) (putFW f w fs) := by
  induction h with
  | nil => exact .cons ⟨rfl, hv⟩ .nil
  | @cons p q r s a b ih =>
    obtain ⟨p1, p2⟩ := p
    obtain ⟨q1, q2⟩ := q
    have e : p1 = q1 := a.1
    subst e
    unfold putF putFW
    split
    · exact .cons ⟨rfl, hv⟩ b
    · exact .cons a ih
/-- a promise of a def that may raise: the class by its name -/
def spX (K : Frag) (Wf : List W → Mu → (W → Mu → Prop) → (Str → Mu → Prop) → Prop) : Sp := fun vs H Q E => ∃ ws μ P X, RwAll K H vs ws ∧ Mem K H μ ∧ Wf ws μ P X ∧ (∀ w μ' v H', P w μ' → Tk H H' → Mem K H' μ' → Rw K H' v w → Q v H') ∧ (∀ x μ' H', X x μ' → Tk H H' → Mem K H' μ' → E (.ref (He.ga K x)) none H')
section
variable {P : Program} {w : World} {K : Frag} {mg : Str → Option Value} {base : Heap}
abbrev FnM (K : Frag) (x qual : Str) (st : Stmt) (f : Addr) (fd : FuncData) : Prop := L2.FunD K x qual (defArgs st) (defBody st) (defScope st) [] [] f fd
theorem fnm_pure {x qual : Str} {st : Stmt} {f : Addr} {fd : FuncData} {N ps : List Str} {k : Nat} {Wf : List W → Mu → W → Prop} (F : FnM K x qual st f fd) (S : FnScope N ps (defScope st)) (len : ∀ ds μ d, Wf ds μ d → ds.length = ps.length)
    (body : ∀ ds μ d, Wf ds μ d → ∀ (cdv : Value) (A : Around) (outer : List PySem.Env) (s : Shared) (H : Hp) (E : XK), Room k (A.deeper (PyProof.Rows.envOfC qual (defScope st) s.heap.objs.size f cdv)) →
      ∃ t, PSs (cxOf CX0 P w K mg base N qual (defScope st) f cdv A outer s H E).nox (defBody st) t ∧ Run K t (rho0 N.length ds) μ (fun _ => d = .non) (fun e => e = d)) : FnOk P w K mg base CX0 (k + 1) f fd ps (spP K Wf) := by
  refine L2.FunD.ok F S (fun vs H Q E h => ?_) (fun cdv A outer s H vs Q E hr h => ?_)
  · obtain ⟨ds, μ, d, h1, _, h2, _⟩ := h
    rw [dps_len h1]
    exact len ds μ d h2
  · obtain ⟨ds, μ, d, h1, hm, h2, q⟩ := h
    obtain ⟨t, ht, hrun⟩ := body ds μ d h2 cdv A outer s H E hr
    refine ⟨t, PSs.nox ht, hrun _ _ H ⟨dps_start h1, hm⟩ (fun ρ' σ' H' e e1 _ => ?_) fun e v H' q1 e1 dv => ?_⟩
    · subst e
      exact q .non H' e1 .non
    · subst q1
      exact q v H' e1 dv
theorem fnm_mut {x qual : Str} {st : Stmt} {f : Addr} {fd : FuncData} {N ps : List Str} {k : Nat} {Wf : List W → Mu → (W → Mu → Prop) → (Value → Mu → Prop) → Prop} (F : FnM K x qual st f fd) (S : FnScope N ps (defScope st)) (len : ∀ ds μ Pq X, Wf ds μ Pq X → ds.length = ps.length)
    (body : ∀ ds μ Pq X, Wf ds μ Pq X → ∀ (cdv : Value) (A : Around) (outer : List PySem.Env) (s : Shared) (H : Hp) (E : XK), Room k (A.deeper (PyProof.Rows.envOfC qual (defScope st) s.heap.objs.size f cdv)) →
      ∃ t, PSs (cxOf CX0 P w K mg base N qual (defScope st) f cdv A outer s H E).nox (defBody st) t ∧ RunM K E t (rho0 N.length ds) μ (fun _ μ' => Pq .non μ') Pq X) : FnOk P w K mg base CX0 (k + 1) f fd ps (spM K Wf) := by
  refine L2.FunD.ok F S (fun vs H Q E h => ?_) (fun cdv A outer s H vs Q E hr h => ?_)
  · obtain ⟨ds, μ, Pq, X, h1, _, h2, _⟩ := h
    rw [dps_len h1]
    exact len ds μ Pq X h2
  · obtain ⟨ds, μ, Pq, X, h1, hm, h2, q, qx⟩ := h
    obtain ⟨t, ht, hrun⟩ := body ds μ Pq X h2 cdv A outer s H E hr
    exact ⟨t, PSs.nox ht, hrun _ _ H ⟨dps_start h1, hm⟩ (fun ρ' μ' σ' H' e e1 g => q .non μ' .non H' e e1 g.2 .non) (fun e μ' v H' q1 e1 m dv => q e μ' v H' q1 e1 m dv) fun c μ' H' x e1 m => qx c μ' H' x e1 m⟩
theorem fnm_x {x qual : Str} {st : Stmt} {f : Addr} {fd : FuncData} {N ps : List Str} {k : Nat} {Wf : List W → Mu → (W → Mu → Prop) → (Str → Mu → Prop) → Prop} (F : FnM K x qual st f fd) (S : FnScope N ps (defScope st)) (len : ∀ ds μ Pq X, Wf ds μ Pq X → ds.length = ps.length)
    (body : ∀ ds μ Pq X, Wf ds μ Pq X → ∀ (cdv : Value) (A : Around) (outer : List PySem.Env) (s : Shared) (H : Hp) (E : XK), Room k (A.deeper (PyProof.Rows.envOfC qual (defScope st) s.heap.objs.size f cdv)) →
      ∃ t, PSs (cxOf (L2N.CX P w) P w K mg base N qual (defScope st) f cdv A outer s H E) (defBody st) t ∧ RunM K E t (rho0 N.length ds) μ (fun _ μ' => Pq .non μ') Pq (fun c μ' => ∃ x, c = .ref (He.ga K x) ∧ X x μ')) : FnOk P w K mg base (L2N.CX P w) (k + 1) f fd ps (spX K Wf) := by
  refine L2.FunD.ok F S (fun vs H Q E h => ?_) (fun cdv A outer s H vs Q E hr h => ?_)
  · obtain ⟨ds, μ, Pq, X, h1, _, h2, _⟩ := h
    rw [dps_len h1]
    exact len ds μ Pq X h2
  · obtain ⟨ds, μ, Pq, X, h1, hm, h2, q, qx⟩ := h
    obtain ⟨t, ht, hrun⟩ := body ds μ Pq X h2 cdv A outer s H E hr
    exact ⟨t, ht, hrun _ _ H ⟨dps_start h1, hm⟩ (fun ρ' μ' σ' H' e e1 g => q .non μ' .non H' e e1 g.2 .non) (fun e μ' v H' q1 e1 m dv => q e μ' v H' q1 e1 m dv) fun c μ' H' ⟨x, ec, hx⟩ e1 m => by
      rw [ec]
      exact qx x μ' H' hx e1 m⟩
theorem fnm_pureH {x qual : Str} {st : Stmt} {f : Addr} {fd : FuncData} {N ps : List Str} {k : Nat} {Wf : List W → Mu → W → Prop} (F : FnM K x qual st f fd) (S : FnScope N ps (defScope st)) (len : ∀ ds μ d, Wf ds μ d → ds.length = ps.length)
    (body : ∀ ds μ d, Wf ds μ d → ∀ (cdv : Value) (A : Around) (outer : List PySem.Env) (s : Shared) (H : Hp) (E : XK) (p : Addr × Obj), L2H.RoomH k (A.deeper (PyProof.Rows.envOfC qual (defScope st) s.heap.objs.size f cdv)) →
      ∃ t, PSs (L2H.cxH CX0 P w K mg base N qual (defScope st) f cdv A outer s H E p).nox (defBody st) t ∧ Run K t (rho0 N.length ds) μ (fun _ => d = .non) (fun e => e = d)) : L2H.FnH P w K mg base CX0 (k + 1) f fd ps (spP K Wf) := by
  obtain ⟨oc, od, dV, kV, doc, pm, an, cdv, ct, osl, rfl, lk, hcd, _, _⟩ := F.ex
  refine L2H.fn_ofH lk hcd S (fun vs H Q E h => ?_) fun A outer s H vs Q E p hot hr h => ?_
  · obtain ⟨ds, μ, d, h1, _, h2, _⟩ := h
    rw [dps_len h1]
    exact len ds μ d h2
  · obtain ⟨ds, μ, d, h1, hm, h2, q⟩ := h
    obtain ⟨t, ht, hrun⟩ := body ds μ d h2 cdv A outer s H E p hr
    refine ⟨t, PSs.nox ht, hrun _ _ H ⟨dps_start h1, hm⟩ (fun ρ' σ' H' e e1 _ => ?_) fun e v H' q1 e1 dv => ?_⟩
    · subst e
      exact q .non H' e1 .non
    · subst q1
      exact q v H' e1 dv
/-- the statement at place j of a class -/
def inCls (s : Stmt) (j : Nat) : Stmt := match s with
  | .ClassDef _ _ _ b _ _ _ _ _ _ _ => b.getD j (.Pass ⟨0, 0, 0, 0⟩)
  | _ => .Pass ⟨0, 0, 0, 0⟩
/-- a method -/
structure MDef (P : Program) (w : World) (K : Frag) (mg : Str → Option Value) (base : Heap) (CX : CXT) (k : Nat) (x m : Str) (ps : List Str) (sp : Sp) : Prop where
  cls : Cls K (He.ga K x)
  ex : ∃ (f : Addr) (fd : FuncData), FnOk P w K mg base CX k f fd ps sp ∧ Meth K (He.ga K x) m f ∧ Binds K fd ps []
/-- a class whose objects are made by its __init__ -/
structure KDef (P : Program) (w : World) (K : Frag) (mg : Str → Option Value) (base : Heap) (CX : CXT) (k : Nat) (x : Str) (ps : List Str) (sp : Sp) : Prop where
  g : mg x = some (.ref (He.ga K x))
  ex : ∃ (f : Addr) (fd : FuncData), FnOk P w K mg base CX k f fd ps sp ∧ Mk K (He.ga K x) f ∧ Binds K fd ps []
end
section
variable {X : Cx} {k : Nat} {x m : Str} {ps : List Str} {sp : Sp} {o e : Expr} {es : List Expr} {apos pos p : Pos} {ta : TE} {t : TA}
theorem pe_methD {pl : Sem Bool} (E : XK) (D : MDef X.prog X.w X.K X.mg X.base CX0 k x m ps sp) (hr : Room k X.A) (he : PE X o ta) (ha : PA X (e :: es) t)
    (hst : starEach (e :: es) X.env = (false, eval e X.env) :: starEach es X.env := by rfl) (hpl : (backTo pos (starEach es X.env)).any (·.1) = false := by rfl)
    (ht : eval (.Call (.Attribute o m apos) (e :: es) [] pos) X.env = (do
      let ov ← eval o X.env
      standAt apos.atName
      let (f, first) ← holding [ov] (getMethod ov m pl)
      callWith pos f first (backTo pos (starEach (e :: es) X.env)) (backToKw pos (keywordEach [] X.env))) := by rfl) : PE X (.Call (.Attribute o m apos) (e :: es) [] pos) (tMeth (He.ga X.K x) m sp [] E ta t) := by
  obtain ⟨f, fd, h, hm, b⟩ := D.ex
  exact pe_meth he D.cls hm h hr b .nil (fun _ _ _ _ _ _ _ h => h.elim) ha hst hpl ht
theorem pe_methD0 {pl : Sem Bool} (E : XK) (D : MDef X.prog X.w X.K X.mg X.base CX0 k x m ps sp) (hr : Room k X.A) (he : PE X o ta)
    (ht : eval (.Call (.Attribute o m apos) [] [] pos) X.env = (do
      let ov ← eval o X.env
      standAt apos.atName
      let (f, first) ← holding [ov] (getMethod ov m pl)
      callWith pos f first (backTo pos (starEach [] X.env)) (backToKw pos (keywordEach [] X.env))) := by rfl) : PE X (.Call (.Attribute o m apos) [] [] pos) (tMeth (He.ga X.K x) m sp [] E ta tNil) := by
  obtain ⟨f, fd, h, hm, b⟩ := D.ex
  exact pe_meth0 he D.cls hm h hr b .nil (fun _ _ _ _ _ _ _ h => h.elim) ht
theorem passLN {X : Cx} : Passes (L2N.CX X.prog X.w) X E0 := fun _ _ _ _ _ _ _ h => by
  obtain ⟨_, _, _, _, _, _, _, _, _, _, _, _, z⟩ := h
  exact z.elim
/-- raise X('..') -/
theorem ps_ownN {X : Cx} {E : XK} {C : Addr} {x m : Str} {j : Nat} {p p2 pos pos' : Pos} (e : ExcOf X.K X.mg x C) (hc : X.calm = true) (tk : L2N.Takes X (fun cls d _ H => E cls d H)) (hg : Gl X x) (hdb : (x == ("__debug__" : Str)) = false := by decide) :
    PS X (.Raise (some (.Call (.Name x p) [.Constant (.str m) j p2] [] pos)) none pos') (fun _ _ H => E (.ref C) none H) :=
  L2N.ps_raise hc tk (L2N.pmk_own PySem.F.excBase_ValueError e.q e.gC e.kC (raises_own e.sub e.ty) hg hdb)
/-! calls in an except suite -/
theorem huH {k : Nat} {A : Around} (r : L2H.RoomH k A) : A.units + 1 < cLine := by
  have := r.un
  omega
structure MDefH (P : Program) (w : World) (K : Frag) (mg : Str → Option Value) (base : Heap) (k : Nat) (x m : Str) (ps : List Str) (sp : Sp) : Prop where
  cls : Cls K (He.ga K x)
  ex : ∃ (f : Addr) (fd : FuncData), L2H.FnH P w K mg base CX0 k f fd ps sp ∧ Meth K (He.ga K x) m f ∧ Binds K fd ps []
theorem pe_methHot {k : Nat} {x m : Str} {ps : List Str} {sp : Sp} {X : Cx} {o e : Expr} {es : List Expr} {apos pos : Pos} {ta : TE} {t : TA} {pl : Sem Bool} (D : MDefH X.prog X.w X.K X.mg X.base k x m ps sp) (hr : L2H.RoomH k X.A) (hc : L2H.HotC X) (he : PE X o ta) (ha : PA X (e :: es) t)
    (hst : starEach (e :: es) X.env = (false, eval e X.env) :: starEach es X.env := by rfl) (hpl : (backTo pos (starEach es X.env)).any (·.1) = false := by rfl)
    (ht : eval (.Call (.Attribute o m apos) (e :: es) [] pos) X.env = (do
      let ov ← eval o X.env
      standAt apos.atName
      let (f, first) ← holding [ov] (getMethod ov m pl)
      callWith pos f first (backTo pos (starEach (e :: es) X.env)) (backToKw pos (keywordEach [] X.env))) := by rfl) : PE X (.Call (.Attribute o m apos) (e :: es) [] pos) (L2H.tMethH (He.ga X.K x) m sp (fun _ => E0) ta t) := by
  obtain ⟨f, fd, h, hm, b⟩ := D.ex
  exact L2H.pe_methH he D.cls hm h hr hc b (fun _ _ _ _ _ _ _ h => h.elim) ha hst hpl ht
/-- a method that may raise, where it does not -/
theorem pe_methN {pl : Sem Bool} (D : MDef X.prog X.w X.K X.mg X.base (L2N.CX X.prog X.w) k x m ps sp) (hr : Room k X.A) (he : PE X o ta) (ha : PA X (e :: es) t)
    (hst : starEach (e :: es) X.env = (false, eval e X.env) :: starEach es X.env := by rfl) (hpl : (backTo pos (starEach es X.env)).any (·.1) = false := by rfl)
    (ht : eval (.Call (.Attribute o m apos) (e :: es) [] pos) X.env = (do
      let ov ← eval o X.env
      standAt apos.atName
      let (f, first) ← holding [ov] (getMethod ov m pl)
      callWith pos f first (backTo pos (starEach (e :: es) X.env)) (backToKw pos (keywordEach [] X.env))) := by rfl) : PE X (.Call (.Attribute o m apos) (e :: es) [] pos) (tMeth (He.ga X.K x) m sp [] E0 ta t) := by
  obtain ⟨f, fd, h, hm, b⟩ := D.ex
  exact pe_meth he D.cls hm h hr b .nil passLN ha hst hpl ht
def tMethE (C : Addr) (m : Str) (sp : Sp) (E : L2.St → XK) (ta : TE) (t : TA) : TE := fun σ H Q => ta σ H fun x H1 => ∃ a dx fs, x = .ref a ∧ H1 a = some (.ins C dx fs) ∧ fs.lookup m = none ∧ t σ H1 fun vs H2 => sp (x :: vs) H2 Q (E σ)
/-- a method that may raise, in a try -/
theorem pe_methE {pl : Sem Bool} {E : L2.St → XK} (D : MDef X.prog X.w X.K X.mg X.base (L2N.CX X.prog X.w) k x m ps sp) (hr : Room k X.A) (hx : ∀ σ, PassesAt (L2N.CX X.prog X.w) X σ (E σ)) (he : PE X o ta) (ha : PA X (e :: es) t)
    (hst : starEach (e :: es) X.env = (false, eval e X.env) :: starEach es X.env := by rfl) (hpl : (backTo pos (starEach es X.env)).any (·.1) = false := by rfl)
    (ht : eval (.Call (.Attribute o m apos) (e :: es) [] pos) X.env = (do
      let ov ← eval o X.env
      standAt apos.atName
      let (f, first) ← holding [ov] (getMethod ov m pl)
      callWith pos f first (backTo pos (starEach (e :: es) X.env)) (backToKw pos (keywordEach [] X.env))) := by rfl) : PE X (.Call (.Attribute o m apos) (e :: es) [] pos) (tMethE (He.ga X.K x) m sp E ta t) := by
  obtain ⟨f, fd, F, hm, hb⟩ := D.ex
  refine ⟨fun pins s σ H Q I h => ?_⟩
  refine PySem.W.methodCall_KW (pl := pl) (thn (he.run pins s σ H _ I h) fun u s1 ⟨x, H1, I1, rx, a, dx, fs, ex, ea, l, q⟩ => ?_) ht
  subst ex
  obtain rfl : u = Value.ref a := rx
  refine getmeth_ok I1 ea D.cls hm l ?_
  refine PySem.W.callWith_K (first := [.ref a]) (h₀ := X.base) I.ok.mod.kin hm.kp (thn (ha.run pos pins s1 σ H1 _ I1 q) fun us s2 ⟨vs, H2, I2, r, q2⟩ => ⟨I2.kIn, ?_⟩) hst hpl
  exact run_fnS (us := .ref a :: us) (vs := .ref a :: vs) F hr hb (hx σ) I2 (.cons rfl r) q2
/-- o.f in a comprehension -/
theorem pe_fldC {K : Frag} {f : Str} (he : PE X o ta) (hb : attributeBase o f X.env (eval o X.env) = eval o X.env) (hK : X.K = K := by rfl) : PE X (.Attribute o f pos) (tFld K ta f) := hK ▸ pe_fld he hb
/-- C() -/
theorem pe_mk0 (E : XK) (D : KDef X.prog X.w X.K X.mg X.base CX0 k x ps sp) (hr : Room (k + 1) X.A) (hg : Gl X x) (hdb : (x == ("__debug__" : Str)) = false := by decide) : PE X (.Call (.Name x p) [] [] pos) (tMake (He.ga X.K x) sp [] E tNil) := by
  obtain ⟨f, fd, h, M, b⟩ := D.ex
  exact pe_make0 M h hr hg D.g b .nil (fun _ _ _ _ _ _ _ h => h.elim) hdb
end
section
variable {K : Frag} {E : XK} {ρ : Rho} {μ : Mu} {te tl ta tb tc td ty tx tv : TE} {ta' : TA} {t u : TT} {t1 t2 ts : TS} {X : Value → Mu → Prop} {N : Rho → Mu → Prop} {R : W → Mu → Prop}
/-- o.f -/
theorem ed_fld {x f : Str} {a dx : Addr} {fs : List (Str × W)} {w : W} (ha : EvD K ta ρ μ (.ref a)) (l : μ a = some (.ins x dx fs)) (c : Cls K (He.ga K x)) (n : NoAttr K (He.ga K x) f) (h : fs.lookup f = some w) : EvD K (tFld K ta f) ρ μ w := fun σ H g Q q =>
  ha σ H g _ fun v H1 e1 d1 => by
    cases d1
    obtain ⟨fv, h1, r⟩ := g.2.ex e1 a _ l
    obtain ⟨v, hv, rv⟩ := (rwp_look r).2 w h
    exact ⟨a, _, dx, fv, v, rfl, h1, c, n, hv, q _ H1 e1 rv⟩
/-- o.f = e -/
theorem rm_fldG {f : Str} {P1 : W → Mu → Prop} (hv : EvW K E tv ρ μ P1 X)
    (kk : ∀ w μ1, P1 w μ1 → ∃ a x dx fs, EvD K ta ρ μ1 (.ref a) ∧ μ1 a = some (.ins x dx fs) ∧ Cls K (He.ga K x) ∧ NoAttr K (He.ga K x) f ∧ fs.length < 1000 ∧ N ρ (mset μ1 a (.ins x dx (putFW f w fs)))) : RunM K E (sFld K ta tv f) ρ μ N R X := fun D σ H g hN hR hX =>
  hv σ H g _ (fun w μ1 v H1 p1 e1 g1 d1 => by
    obtain ⟨a, x, dx, fs, ho, l, c, n, hl, hn⟩ := kk w μ1 p1
    refine ho σ H1 g1 _ fun u H2 e2 d2 => ?_
    cases d2
    obtain ⟨fv, h2, r⟩ := g1.2.ex e2 a _ l
    have ll : fv.length = fs.length := Paired.length r
    have tk := Tk.upd (o := .ins (He.ga K x) dx (putF f v fv)) (nt_ins h2)
    have t := (Tk.ex e2).trans tk
    exact ⟨a, _, dx, fv, rfl, h2, c, n, by omega, hN ρ _ σ _ hn (e1.trans t) ⟨g1.1.tk t, (g1.2.ex e2).put (nt_ins h2) ⟨_, upd_same, rwpm tk (rwp_putF (dpm e2 d1) r)⟩⟩⟩) hX
/-- o.m(..) -/
theorem ed_meth {x m : Str} {a dx : Addr} {fs : List (Str × W)} {xs : List W} {w : W} {Wf : List W → Mu → W → Prop} {t : TA} {E : XK} (ho : EvD K ta ρ μ (.ref a)) (l : μ a = some (.ins x dx fs)) (hm : fs.lookup m = none) (h : EvS K t ρ μ xs) (hw : Wf (.ref a :: xs) μ w) : EvD K (tMeth (He.ga K x) m (spP K Wf) [] E ta t) ρ μ w := fun σ H g Q q =>
  ho σ H g _ fun v H1 e1 d1 => by
    cases d1
    obtain ⟨fv, h1, r⟩ := g.2.ex e1 a _ l
    refine ⟨a, dx, fv, rfl, h1, (rwp_look r).1 hm, h σ H1 (g.mono e1) _ fun vs H2 e2 d2 => ?_⟩
    show spP K Wf (.ref a :: (vs ++ [])) H2 Q E
    rw [List.append_nil]
    exact ⟨.ref a :: xs, μ, w, .cons (.ref a) d2, g.2.ex (e1.trans e2), hw, fun v H3 e3 d3 => q v H3 ((e1.trans e2).trans e3) d3⟩
theorem ed_methH {x m : Str} {a dx : Addr} {fs : List (Str × W)} {xs : List W} {w : W} {Wf : List W → Mu → W → Prop} {t : TA} {E : L2.St → XK} (ho : EvD K ta ρ μ (.ref a)) (l : μ a = some (.ins x dx fs)) (hm : fs.lookup m = none) (h : EvS K t ρ μ xs) (hw : Wf (.ref a :: xs) μ w) : EvD K (L2H.tMethH (He.ga K x) m (spP K Wf) E ta t) ρ μ w := fun σ H g Q q =>
  ho σ H g _ fun v H1 e1 d1 => by
    cases d1
    obtain ⟨fv, h1, r⟩ := g.2.ex e1 a _ l
    refine ⟨a, dx, fv, rfl, h1, (rwp_look r).1 hm, h σ H1 (g.mono e1) _ fun vs H2 e2 d2 => ?_⟩
    exact ⟨.ref a :: xs, μ, w, .cons (.ref a) d2, g.2.ex (e1.trans e2), hw, fun v H3 e3 d3 => q v H3 ((e1.trans e2).trans e3) d3⟩
theorem ew_meth {x m : Str} {a dx : Addr} {fs : List (Str × W)} {xs : List W} {Wf : List W → Mu → (W → Mu → Prop) → (Value → Mu → Prop) → Prop} {t : TA} {P : W → Mu → Prop} (ho : EvD K ta ρ μ (.ref a)) (l : μ a = some (.ins x dx fs)) (hm : fs.lookup m = none) (h : EvS K t ρ μ xs) (hw : Wf (.ref a :: xs) μ P X) : EvW K E (tMeth (He.ga K x) m (spM K Wf) [] E ta t) ρ μ P X := fun σ H g Q q hX =>
  ho σ H g _ fun v H1 e1 d1 => by
    cases d1
    obtain ⟨fv, h1, r⟩ := g.2.ex e1 a _ l
    refine ⟨a, dx, fv, rfl, h1, (rwp_look r).1 hm, h σ H1 (g.mono e1) _ fun vs H2 e2 d2 => ?_⟩
    show spM K Wf (.ref a :: (vs ++ [])) H2 Q E
    rw [List.append_nil]
    have e := e1.trans e2
    exact ⟨.ref a :: xs, μ, P, X, .cons (.ref a) d2, g.2.ex e, hw, fun w μ' v H3 p e3 m3 d3 => q w μ' v H3 p ((Tk.ex e).trans e3) ⟨g.1.tk ((Tk.ex e).trans e3), m3⟩ d3, fun c μ' H3 x e3 m3 => hX c μ' H3 x ((Tk.ex e).trans e3) m3⟩
/-- the arguments change the store -/
theorem ew_methA {x m : Str} {Wf : List W → Mu → (W → Mu → Prop) → (Value → Mu → Prop) → Prop} {t : TA} {P : W → Mu → Prop} {Pa : List W → Mu → Prop} {a : Addr} (ho : EvD K ta ρ μ (.ref a)) (hl : ∃ dx fs, μ a = some (.ins x dx fs) ∧ fs.lookup m = none) (h : EvA K E t ρ μ Pa X) (hw : ∀ xs μ1, Pa xs μ1 → Wf (.ref a :: xs) μ1 P X) : EvW K E (tMeth (He.ga K x) m (spM K Wf) [] E ta t) ρ μ P X := fun σ H g Q q hX =>
  ho σ H g _ fun v H1 e1 d1 => by
    cases d1
    obtain ⟨dx, fs, l, hm⟩ := hl
    obtain ⟨fv, h1, r⟩ := g.2.ex e1 a _ l
    refine ⟨a, dx, fv, rfl, h1, (rwp_look r).1 hm, h σ H1 (g.mono e1) _ (fun xs μ1 vs H2 pa e2 g2 d2 => ?_) fun c μ' H2 x e2 m2 => hX c μ' H2 x ((Tk.ex e1).trans e2) m2⟩
    show spM K Wf (.ref a :: (vs ++ [])) H2 Q E
    rw [List.append_nil]
    have e := (Tk.ex e1).trans e2
    exact ⟨.ref a :: xs, μ1, P, X, .cons (.ref a) d2, g2.2, hw xs μ1 pa, fun w μ' v H3 p e3 m3 d3 => q w μ' v H3 p (e.trans e3) ⟨g.1.tk (e.trans e3), m3⟩ d3, fun c μ' H3 x e3 m3 => hX c μ' H3 x (e.trans e3) m3⟩
/-- a method that may raise, where it does not -/
theorem ew_methN {x m : Str} {a dx : Addr} {fs : List (Str × W)} {xs : List W} {Wf : List W → Mu → (W → Mu → Prop) → (Str → Mu → Prop) → Prop} {t : TA} {P : W → Mu → Prop} (ho : EvD K ta ρ μ (.ref a)) (l : μ a = some (.ins x dx fs)) (hm : fs.lookup m = none) (h : EvS K t ρ μ xs) (hw : Wf (.ref a :: xs) μ P (fun _ _ => False)) : EvW K E (tMeth (He.ga K x) m (spX K Wf) [] E0 ta t) ρ μ P X := fun σ H g Q q hX =>
  ho σ H g _ fun v H1 e1 d1 => by
    cases d1
    obtain ⟨fv, h1, r⟩ := g.2.ex e1 a _ l
    refine ⟨a, dx, fv, rfl, h1, (rwp_look r).1 hm, h σ H1 (g.mono e1) _ fun vs H2 e2 d2 => ?_⟩
    show spX K Wf (.ref a :: (vs ++ [])) H2 Q E0
    rw [List.append_nil]
    have e := e1.trans e2
    exact ⟨.ref a :: xs, μ, P, _, .cons (.ref a) d2, g.2.ex e, hw, fun w μ' v H3 p e3 m3 d3 => q w μ' v H3 p ((Tk.ex e).trans e3) ⟨g.1.tk ((Tk.ex e).trans e3), m3⟩ d3, fun x μ' H3 q => q.elim⟩
/-- try: o.m(..) except T: suite -/
theorem rm_tryM {x m : Str} {a dx : Addr} {fs : List (Str × W)} {xs : List W} {Wf : List W → Mu → (W → Mu → Prop) → (Str → Mu → Prop) → Prop} {t : TA} {T : Value} {ts : TS} {P : W → Mu → Prop} {Xn : Str → Mu → Prop} {Wout : WX} (ho : EvD K ta ρ μ (.ref a)) (l : μ a = some (.ins x dx fs)) (hm : fs.lookup m = none) (h : EvS K t ρ μ xs) (hw : Wf (.ref a :: xs) μ P Xn)
    (hn : ∀ w μ', P w μ' → N ρ μ') (hx : ∀ y μ', Xn y μ' → PySem.W.exmOne K (.ref (He.ga K y)) T = some true ∧ RunM K E ts ρ μ' N R X) :
    RunM K E (fun D σ H => tDrop (tMethE (He.ga K x) m (spX K Wf) (WE (wOnly K T (fun _ _ _ => ts) Wout D)) ta t) D σ H) ρ μ N R X := fun D σ H g hN hR hX =>
  ho σ H g _ fun v H1 e1 d1 => by
    cases d1
    obtain ⟨fv, h1, r⟩ := g.2.ex e1 a _ l
    refine ⟨a, dx, fv, rfl, h1, (rwp_look r).1 hm, h σ H1 (g.mono e1) _ fun vs H2 e2 d2 => ?_⟩
    have e := e1.trans e2
    refine ⟨.ref a :: xs, μ, P, Xn, .cons (.ref a) d2, g.2.ex e, hw, fun w μ' v H3 p e3 m3 d3 => hN ρ μ' σ H3 (hn w μ' p) ((Tk.ex e).trans e3) ⟨g.1.tk ((Tk.ex e).trans e3), m3⟩, fun y μ' H3 q e3 m3 => ?_⟩
    obtain ⟨he, hrun⟩ := hx y μ' q
    have tk := (Tk.ex e).trans e3
    exact ⟨true, he, fun _ _ _ => hrun D σ H3 ⟨g.1.tk tk, m3⟩ (fun ρ' μ2 σ' H' n e4 g4 => hN ρ' μ2 σ' H' n (tk.trans e4) g4) (fun w μ2 v H' rr e4 => hR w μ2 v H' rr (tk.trans e4)) fun c μ2 H' xx e4 => hX c μ2 H' xx (tk.trans e4), fun q => Bool.noConfusion q⟩
/-- C() by an __init__ that keeps its promise at the new object -/
theorem ew_mk0 {x : Str} {Wf : List W → Mu → (W → Mu → Prop) → (Value → Mu → Prop) → Prop} {P : W → Mu → Prop} (hw : ∀ p dx, μ p = none → Wf [.ref p] (mset μ p (.ins x dx [])) (fun w μ' => w = .non ∧ P (.ref p) μ') X) : EvW K E (tMake (He.ga K x) (spM K Wf) [] E tNil) ρ μ P X := fun σ H g Q q hX => by
  intro p dx hp hd hne
  have e1 : Ex H (upd H dx (.own p)) := Ex.new hd
  have hp1 : upd H dx (.own p) p = none := by
    rw [upd_ne (Ne.symm hne)]
    exact hp
  have e : Ex H (upd (upd H dx (.own p)) p (.ins (He.ga K x) dx [])) := e1.trans (Ex.new hp1)
  have hn : μ p = none := g.2.free hp
  have m : Mem K (upd (upd H dx (.own p)) p (.ins (He.ga K x) dx [])) (mset μ p (.ins x dx [])) := (g.2.ex e1).put (nt_none hp1) ⟨[], upd_same, .nil⟩
  exact ⟨[.ref p], _, _, X, .cons (.ref p) .nil, m, hw p dx hn, fun w μ' v H' ⟨hw0, hP⟩ e3 m3 d3 => by
    subst hw0
    cases d3
    exact ⟨rfl, q _ μ' _ H' hP ((Tk.ex e).trans e3) ⟨g.1.tk ((Tk.ex e).trans e3), m3⟩ (.ref p)⟩, fun c μ' H' xx e3 m3 => hX c μ' H' xx ((Tk.ex e).trans e3) m3⟩
/-- for x, y, z in a tuple -/
theorem rm_forT3 {i j l : Nat} {xs : List W} (h : EvD K te ρ μ (.tup xs)) (I : Nat → Rho → Mu → Prop) (h0 : I 0 ρ μ)
    (hs : ∀ (n : Nat) x ρ' μ', xs[n]? = some x → I n ρ' μ' → ∃ u v w, x = .tup [u, v, w] ∧ RunM K E ts (((ρ'.set i (some u)).set j (some v)).set l (some w)) μ' (I (n + 1)) R X) (hd : ∀ ρ' μ', I xs.length ρ' μ' → RunM K E t2 ρ' μ' N R X) : RunM K E (tSeq (tFor (iTup K te) (gTup K 3 (gCons (gName i) (gCons (gName j) (gCons (gName l) gNil)))) ts) t2) ρ μ N R X := fun D σ H g hN hR hX =>
  h σ H g _ fun v H1 e1 d1 => by
    cases d1 with
    | tup hq hds =>
      rename_i a vs
      refine ⟨a, rfl, ⟨_, hq⟩, for_tup (K := K) (xs := vs) (fun n σ' H' => ∃ ρ' μ', I n ρ' μ' ∧ Tk H H' ∧ Tk H1 H' ∧ S K H' σ' ρ' μ') ⟨ρ, μ, h0, Tk.ex e1, Tk.refl _, g.mono e1⟩ (fun n σ' H' _ w => ?_) (fun n v σ' H' hv w => ?_) fun σ' H' w => ?_⟩
      · obtain ⟨_, _, _, _, e, _⟩ := w
        exact tk_t e hq
      · obtain ⟨ρ', μ', p, e2, e3, g2⟩ := w
        obtain ⟨x, hx, dx⟩ := dps_to n hds hv
        obtain ⟨u, y, z, rfl, r⟩ := hs n x ρ' μ' hx p
        have dx2 := rwm e3 dx
        cases dx2 with
        | tup sq ss =>
          obtain ⟨v1, v2, v3, rfl, r1, r2, r3⟩ := dps3 ss
          refine ⟨_, _, rfl, sq, rfl, v1, [v2, v3], rfl, v2, [v3], rfl, v3, [], rfl, rfl, ?_⟩
          exact r _ _ H' (((g2.put i r1).put j r2).put l r3) (fun ρ3 μ3 σ3 H3 p3 e4 g3 => ⟨ρ3, μ3, p3, e2.trans e4, e3.trans e4, g3⟩) (fun d μ3 v H3 r e4 => hR d μ3 v H3 r (e2.trans e4)) fun c μ3 H3 x e4 => hX c μ3 H3 x (e2.trans e4)
      · obtain ⟨ρ', μ', p, e2, e3, g2⟩ := w
        rw [dps_len hds] at p
        exact hd ρ' μ' p D σ' H' g2 (fun ρ3 μ3 σ3 H3 p3 e4 => hN ρ3 μ3 σ3 H3 p3 (e2.trans e4)) (fun d μ3 v H3 r e4 => hR d μ3 v H3 r (e2.trans e4)) fun c μ3 H3 x e4 => hX c μ3 H3 x (e2.trans e4)
end
end Pw

namespace Pw
open PySem L2 Evl
/-! tables of sessions: client, number, answer -/
abbrev Tb := List (Int × Int × W)
def encG (g : Int → Int × W → W) (m : Tb) : List (Key × W) := encI (m.map fun p => (p.1, g p.1 p.2))
def gP (c : Int) (q : Int × W) : W := .tup [.int c, .int q.1, q.2]
def gL (_ : Int) (q : Int × W) : W := .tup [.int q.1, q.2]
def keysT (m : Tb) : List Int := m.map (·.1)
def getT (m : Tb) (c : Int) : Option (Int × W) := (m.find? fun p => decide (p.1 = c)).map (·.2)
def putT (m : Tb) (c : Int) (q : Int × W) : Tb := if (m.any fun p => decide (p.1 = c)) = true then m.map (fun p => if p.1 = c then (p.1, q) else p) else m ++ [(c, q)]
theorem encG_val (g : Int → Int × W → W) (m : Tb) (c : Int) : valW (encG g m) (Sum.inl c) = (getT m c).map (g c) := by
  unfold encG
  rw [encI_val]
  unfold valI getT
  induction m with
  | nil => rfl
  | cons a r ih =>
    rw [List.map_cons, List.find?_cons, List.find?_cons]
    by_cases h : a.1 = c
    · rw [decide_eq_true h]
      show some (g a.1 a.2) = some (g c a.2)
      rw [h]
    · rw [decide_eq_false h]
      exact ih
theorem encG_put (g : Int → Int × W → W) (m : Tb) (c : Int) (q : Int × W) : putW (encG g m) (Sum.inl c) (g c q) = encG g (putT m c q) := by
  unfold encG
  rw [encI_put]
  congr 1
  unfold putI putT
  have e : ((m.map fun p => (p.1, g p.1 p.2)).any fun p => decide (p.1 = c)) = (m.any fun p => decide (p.1 = c)) := by
    rw [List.any_map]
    rfl
  rw [e]
  split
  · rw [List.map_map, List.map_map]
    apply List.map_congr_left
    intro p _
    show (if p.1 = c then (p.1, g c q) else (p.1, g p.1 p.2)) = _
    by_cases h : p.1 = c
    · rw [if_pos h]
      show _ = ((if p.1 = c then (p.1, q) else p).1, g (if p.1 = c then (p.1, q) else p).1 (if p.1 = c then (p.1, q) else p).2)
      rw [if_pos h, h]
    · rw [if_neg h]
      show _ = ((if p.1 = c then (p.1, q) else p).1, g (if p.1 = c then (p.1, q) else p).1 (if p.1 = c then (p.1, q) else p).2)
      rw [if_neg h]
  · rw [List.map_append]
    rfl
theorem encG_len (g : Int → Int × W → W) (m : Tb) : (encG g m).length = m.length := by
  unfold encG encI
  rw [List.length_map, List.length_map]
theorem getT_put (m : Tb) (c : Int) (q : Int × W) (k : Int) : getT (putT m c q) k = if k = c then some q else getT m k := by
  unfold putT
  by_cases h : (m.any fun p => decide (p.1 = c)) = true
  · rw [if_pos h]
    unfold getT
    induction m with
    | nil => cases h
    | cons a r ih =>
      rw [List.map_cons, List.find?_cons, List.find?_cons]
      by_cases ha : a.1 = c
      · rw [if_pos ha]
        by_cases hk : k = c
        · rw [if_pos hk, decide_eq_true (show (a.1, q).1 = k from ha.trans hk.symm)]
          rfl
        · have n1 : ¬ a.1 = k := fun e => hk (e.symm.trans ha)
          rw [if_neg hk, decide_eq_false (show ¬ (a.1, q).1 = k from n1)]
          have e : (r.map fun p => if p.1 = c then (p.1, q) else p).find? (fun p => decide (p.1 = k)) = r.find? fun p => decide (p.1 = k) := by
            clear ih h
            induction r with
            | nil => rfl
            | cons b s ihs =>
              rw [List.map_cons, List.find?_cons, List.find?_cons, ihs]
              by_cases hb : b.1 = c
              · have n2 : ¬ b.1 = k := fun e => hk (e.symm.trans hb)
                rw [if_pos hb, decide_eq_false (show ¬ (b.1, q).1 = k from n2)]
              · rw [if_neg hb]
          show Option.map _ (List.find? _ _) = Option.map _ (List.find? _ _)
          rw [e]
      · rw [if_neg ha]
        have hr : (r.any fun p => decide (p.1 = c)) = true := by
          rw [List.any_cons, decide_eq_false ha, Bool.false_or] at h
          exact h
        by_cases hk : a.1 = k
        · rw [decide_eq_true hk]
          have n1 : ¬ k = c := fun e => ha (hk.trans e)
          rw [if_neg n1]
        · rw [decide_eq_false hk]
          exact ih hr
  · rw [if_neg h]
    unfold getT
    rw [List.find?_append]
    by_cases hk : k = c
    · rw [if_pos hk]
      have e : m.find? (fun p => decide (p.1 = k)) = none := by
        rw [List.find?_eq_none]
        intro p hp q
        exact h (List.any_eq_true.mpr ⟨p, hp, by rw [← hk]; exact q⟩)
      rw [e, hk, Option.none_or, List.find?_cons, decide_eq_true (show (c, q).1 = c from rfl)]
      rfl
    · rw [if_neg hk]
      have e : [(c, q)].find? (fun p => decide (p.1 = k)) = none := by
        rw [List.find?_cons, decide_eq_false (show ¬ c = k from fun e => hk e.symm)]
        rfl
      rw [e, Option.or_none]
theorem keys_put (m : Tb) (c : Int) (q : Int × W) : keysT (putT m c q) = if c ∈ keysT m then keysT m else keysT m ++ [c] := by
  unfold putT keysT
  have e : ((m.any fun p => decide (p.1 = c)) = true) ↔ c ∈ m.map (·.1) := by
    rw [List.any_eq_true]
    constructor
    · rintro ⟨p, hp, h⟩
      exact List.mem_map.mpr ⟨p, hp, of_decide_eq_true h⟩
    · intro h
      obtain ⟨p, hp, h⟩ := List.mem_map.mp h
      exact ⟨p, hp, decide_eq_true h⟩
  by_cases h : (m.any fun p => decide (p.1 = c)) = true
  · rw [if_pos h, if_pos (e.mp h), List.map_map]
    apply List.map_congr_left
    intro p _
    show (if p.1 = c then (p.1, q) else p).1 = p.1
    split <;> rfl
  · rw [if_neg h, if_neg fun q => h (e.mpr q), List.map_append]
    rfl
theorem nodup_put {m : Tb} (h : (keysT m).Nodup) (c : Int) (q : Int × W) : (keysT (putT m c q)).Nodup := by
  rw [keys_put]
  split
  · exact h
  · rename_i hn
    rw [List.nodup_append]
    exact ⟨h, by simp, fun a ha b hb e => by
      rw [List.mem_singleton.mp hb] at e
      exact hn (e ▸ ha)⟩
theorem mem_keys_put {m : Tb} {c k : Int} {q : Int × W} (h : k ∈ keysT (putT m c q)) : k ∈ keysT m ∨ k = c := by
  rw [keys_put] at h
  split at h
  · exact .inl h
  · rcases List.mem_append.mp h with e | e
    · exact .inl e
    · exact .inr (List.mem_singleton.mp e)
theorem getT_none {m : Tb} {c : Int} (h : c ∉ keysT m) : getT m c = none := by
  unfold getT
  have e : m.find? (fun p => decide (p.1 = c)) = none := by
    rw [List.find?_eq_none]
    intro p hp q
    exact h (List.mem_map.mpr ⟨p, hp, of_decide_eq_true q⟩)
  rw [e]
  rfl
theorem getT_some {m : Tb} {c : Int} (h : c ∈ keysT m) : ∃ q, getT m c = some q ∧ (c, q) ∈ m := by
  obtain ⟨p, hp, rfl⟩ := List.mem_map.mp h
  unfold getT
  cases e : m.find? fun q => decide (q.1 = p.1) with
  | none =>
    have := List.find?_eq_none.mp e p hp
    simp at this
  | some q =>
    have h1 := List.find?_some e
    have h2 := List.mem_of_find?_eq_some e
    have h3 : q.1 = p.1 := of_decide_eq_true h1
    refine ⟨q.2, rfl, ?_⟩
    rw [← h3]
    exact h2
theorem mem_keys_get {m : Tb} {c : Int} : c ∈ keysT m ↔ getT m c ≠ none := by
  constructor
  · intro h
    obtain ⟨q, e, _⟩ := getT_some h
    rw [e]
    exact fun q => by cases q
  · intro h
    by_cases q : c ∈ keysT m
    · exact q
    · exact absurd (getT_none q) h
/-- the rows in the order of the clients -/
def rowsL (m : Tb) : Tb := (sortI (keysT m)).map fun c => (c, (getT m c).getD (0, .non))
def rowsW (m : Tb) : List W := (rowsL m).map fun p => gP p.1 p.2
theorem keys_rows (m : Tb) : keysT (rowsL m) = sortI (keysT m) := by
  unfold rowsL keysT
  rw [List.map_map]
  exact List.map_id _
theorem getT_map (l : List Int) (f : Int → Int × W) (c : Int) : getT (l.map fun c => (c, f c)) c = if c ∈ l then some (f c) else none := by
  unfold getT
  induction l with
  | nil => rfl
  | cons a r ih =>
    rw [List.map_cons, List.find?_cons]
    by_cases h : a = c
    · rw [decide_eq_true (show (a, f a).1 = c from h), if_pos (by rw [h]; exact List.mem_cons_self)]
      rw [← h]
      rfl
    · rw [decide_eq_false (show ¬ (a, f a).1 = c from h)]
      rw [show (Option.map (fun x => x.2) (List.find? (fun p => decide (p.1 = c)) (List.map (fun c => (c, f c)) r))) = _ from ih]
      by_cases q : c ∈ r
      · rw [if_pos q, if_pos (List.mem_cons_of_mem _ q)]
      · rw [if_neg q, if_neg fun e => (List.mem_cons.mp e).elim (fun e => h e.symm) q]
theorem getT_rows (m : Tb) (c : Int) : getT (rowsL m) c = getT m c := by
  unfold rowsL
  rw [getT_map]
  have hm : c ∈ sortI (keysT m) ↔ c ∈ keysT m := (sortI_perm _).mem_iff
  by_cases h : c ∈ keysT m
  · rw [if_pos (hm.mpr h)]
    obtain ⟨q, e, _⟩ := getT_some h
    rw [e]
    rfl
  · rw [if_neg fun e => h (hm.mp e), getT_none h]
theorem rows_eq {m1 m2 : Tb} (h1 : (keysT m1).Nodup) (h2 : (keysT m2).Nodup) (h : ∀ c, getT m1 c = getT m2 c) : rowsL m1 = rowsL m2 := by
  have hp : (keysT m1).Perm (keysT m2) := (List.perm_ext_iff_of_nodup h1 h2).mpr fun c => by
    rw [mem_keys_get, mem_keys_get, h c]
  have hs : sortI (keysT m1) = sortI (keysT m2) := sortedI_only ((sortI_perm _).trans hp) (sortI_pw _)
  unfold rowsL
  rw [hs]
  apply List.map_congr_left
  intro c _
  rw [h c]
def statF (o : Option (Int × W)) (n : Int) : Str := match o with
  | none => "new"
  | some q => if n = q.1 then "again" else if q.1 < n then "new" else "stale"
theorem stat_some (q : Int × W) (n : Int) : statF (some q) n = (if n = q.1 then ("again" : Str) else if q.1 < n then "new" else "stale") := rfl
def newB (o : Option (Int × W)) (n : Int) : Bool := match o with
  | none => true
  | some q => decide (q.1 < n)
theorem stat_new (o : Option (Int × W)) (n : Int) : decide (statF o n = "new") = newB o n := by
  unfold statF newB
  cases o with
  | none => exact decide_eq_true rfl
  | some q =>
    show decide ((if n = q.1 then ("again" : Str) else if q.1 < n then "new" else "stale") = "new") = decide (q.1 < n)
    by_cases h : n = q.1
    · rw [if_pos h, decide_eq_false (show ¬ q.1 < n by omega)]
      decide +kernel
    · rw [if_neg h]
      by_cases h2 : q.1 < n
      · rw [if_pos h2, decide_eq_true h2]
        decide +kernel
      · rw [if_neg h2, decide_eq_false h2]
        decide +kernel
/-- remembering rows, those that are new alone -/
def foldP (t : Tb) : Tb → Tb
  | [] => t
  | p :: r => foldP (if newB (getT t p.1) p.2.1 = true then putT t p.1 p.2 else t) r
theorem getT_foldP : ∀ (r t : Tb), (keysT r).Nodup → ∀ c, getT (foldP t r) c = match getT r c with
    | none => getT t c
    | some q => if newB (getT t c) q.1 = true then some q else getT t c
  | [], t, _, c => rfl
  | p :: r, t, h, c => by
    have h2 : p.1 ∉ keysT r ∧ (keysT r).Nodup := List.nodup_cons.mp h
    show getT (foldP (if newB (getT t p.1) p.2.1 = true then putT t p.1 p.2 else t) r) c = _
    rw [getT_foldP r _ h2.2 c]
    have ec : getT (p :: r) c = if p.1 = c then some p.2 else getT r c := by
      unfold getT
      rw [List.find?_cons]
      by_cases q : p.1 = c
      · rw [decide_eq_true q, if_pos q]
        rfl
      · rw [decide_eq_false q, if_neg q]
    rw [ec]
    by_cases q : p.1 = c
    · rw [if_pos q]
      have e : getT r c = none := getT_none (by rw [← q]; exact h2.1)
      rw [e]
      show getT (if newB (getT t p.1) p.2.1 = true then putT t p.1 p.2 else t) c = if newB (getT t c) p.2.1 = true then some p.2 else getT t c
      rw [q]
      by_cases hc : newB (getT t c) p.2.1 = true
      · rw [if_pos hc, if_pos hc, getT_put, if_pos rfl]
      · rw [if_neg hc, if_neg hc]
    · rw [if_neg q]
      have e : getT (if newB (getT t p.1) p.2.1 = true then putT t p.1 p.2 else t) c = getT t c := by
        split
        · rw [getT_put, if_neg fun e => q e.symm]
        · rfl
      rw [e]
theorem nodup_foldP : ∀ (r t : Tb), (keysT t).Nodup → (keysT (foldP t r)).Nodup
  | [], _, h => h
  | p :: r, t, h => nodup_foldP r _ (by
      split
      · exact nodup_put h _ _
      · exact h)
theorem keys_foldP : ∀ (r t : Tb) (c : Int), c ∈ keysT (foldP t r) → c ∈ keysT t ∨ c ∈ keysT r
  | [], _, _, h => .inl h
  | p :: r, t, c, h => by
    rcases keys_foldP r _ c h with e | e
    · split at e
      · rcases mem_keys_put e with e | e
        · exact .inl e
        · exact .inr (by
            rw [e]
            exact List.mem_cons_self)
      · exact .inl e
    · exact .inr (List.mem_cons_of_mem _ e)
def keepB (o : Option (Int × W)) (n : Int) : Bool := match o with
  | none => true
  | some z => decide (z.1 ≤ n)
/-- the law's merging: those of the first that are not older than the second's -/
def foldL (o b : Tb) : Tb → Tb
  | [] => b
  | p :: r => foldL o (if keepB (getT o p.1) p.2.1 = true then putT b p.1 p.2 else b) r
theorem getT_foldL (o : Tb) : ∀ (r b : Tb), (keysT r).Nodup → ∀ c, getT (foldL o b r) c = match getT r c with
    | none => getT b c
    | some q => if keepB (getT o c) q.1 = true then some q else getT b c
  | [], t, _, c => rfl
  | p :: r, t, h, c => by
    have h2 : p.1 ∉ keysT r ∧ (keysT r).Nodup := List.nodup_cons.mp h
    show getT (foldL o (if keepB (getT o p.1) p.2.1 = true then putT t p.1 p.2 else t) r) c = _
    rw [getT_foldL o r _ h2.2 c]
    have ec : getT (p :: r) c = if p.1 = c then some p.2 else getT r c := by
      unfold getT
      rw [List.find?_cons]
      by_cases q : p.1 = c
      · rw [decide_eq_true q, if_pos q]
        rfl
      · rw [decide_eq_false q, if_neg q]
    rw [ec]
    by_cases q : p.1 = c
    · rw [if_pos q]
      have e : getT r c = none := getT_none (by rw [← q]; exact h2.1)
      rw [e]
      show getT (if keepB (getT o p.1) p.2.1 = true then putT t p.1 p.2 else t) c = if keepB (getT o c) p.2.1 = true then some p.2 else getT t c
      rw [q]
      by_cases hc : keepB (getT o c) p.2.1 = true
      · rw [if_pos hc, if_pos hc, getT_put, if_pos rfl]
      · rw [if_neg hc, if_neg hc]
    · rw [if_neg q]
      have e : getT (if keepB (getT o p.1) p.2.1 = true then putT t p.1 p.2 else t) c = getT t c := by
        split
        · rw [getT_put, if_neg fun e => q e.symm]
        · rfl
      rw [e]
theorem nodup_foldL (o : Tb) : ∀ (r t : Tb), (keysT t).Nodup → (keysT (foldL o t r)).Nodup
  | [], _, h => h
  | p :: r, t, h => nodup_foldL o r _ (by
      split
      · exact nodup_put h _ _
      · exact h)
theorem keys_foldL (o : Tb) : ∀ (r t : Tb) (c : Int), c ∈ keysT (foldL o t r) → c ∈ keysT t ∨ c ∈ keysT r
  | [], _, _, h => .inl h
  | p :: r, t, c, h => by
    rcases keys_foldL o r _ c h with e | e
    · split at e
      · rcases mem_keys_put e with e | e
        · exact .inl e
        · exact .inr (by
            rw [e]
            exact List.mem_cons_self)
      · exact .inl e
    · exact .inr (List.mem_cons_of_mem _ e)
theorem merged_rows {m1 m2 : Tb} (h1 : (keysT m1).Nodup) (h2 : (keysT m2).Nodup) : rowsL (foldP m1 (rowsL m2)) = rowsL (foldL m2 m2 m1) := by
  have hr : (keysT (rowsL m2)).Nodup := by
    rw [keys_rows]
    exact (sortI_perm _).symm.nodup h2
  refine rows_eq (nodup_foldP _ _ h1) (nodup_foldL _ _ _ h2) fun c => ?_
  rw [getT_foldP _ _ hr, getT_foldL _ _ _ h1, getT_rows]
  cases e1 : getT m1 c with
  | none =>
    cases e2 : getT m2 c with
    | none => rfl
    | some q => rfl
  | some p =>
    cases e2 : getT m2 c with
    | none => rfl
    | some q =>
      show (if newB (some p) q.1 = true then some q else some p) = if decide (q.1 ≤ p.1) = true then some p else some q
      unfold newB
      show (if decide (p.1 < q.1) = true then some q else some p) = _
      by_cases h : p.1 < q.1
      · rw [if_pos (decide_eq_true h), if_neg (by
          rw [decide_eq_false (show ¬ q.1 ≤ p.1 by omega)]
          exact Bool.false_ne_true)]
      · rw [if_neg (by
          rw [decide_eq_false h]
          exact Bool.false_ne_true), if_pos (decide_eq_true (show q.1 ≤ p.1 by omega))]
theorem nodup_len : ∀ (l s : List Int), l.Nodup → (∀ c ∈ l, c ∈ s) → l.length ≤ s.length
  | [], s, _, _ => Nat.zero_le _
  | a :: r, s, h, hs => by
    have h2 := List.nodup_cons.mp h
    have ha := hs a List.mem_cons_self
    have := nodup_len r (s.erase a) h2.2 fun c hc => (List.mem_erase_of_ne (show c ≠ a from fun e => h2.1 (by
      rw [← e]
      exact hc))).mpr (hs c (List.mem_cons_of_mem _ hc))
    rw [List.length_erase_of_mem ha] at this
    have hpos : 0 < s.length := List.length_pos_of_mem ha
    rw [List.length_cons]
    omega
theorem keysT_len (m : Tb) : (keysT m).length = m.length := List.length_map _
/-! for c in a dict with int keys, whose turns change the store -/
section
variable {K : Frag} {E : XK} {ρ : Rho} {μ : Mu} {ts : TS} {X : Value → Mu → Prop} {N : Rho → Mu → Prop} {R : W → Mu → Prop}
theorem rm_forK {i j : Nat} {a : Addr} {m : List (Int × W)} (hi : ρ[i]? = some (some (.ref a))) (l : μ a = some (.dk (encI m))) (I : Nat → Rho → Mu → Prop) (h0 : I 0 ρ (mset μ a (.rk (encI m))))
    (hl : ∀ n ρ' μ', I n ρ' μ' → μ' a = some (.rk (encI m)))
    (hs : ∀ n c ρ' μ', (m.map (·.1))[n]? = some c → I n ρ' μ' → RunM K E ts (ρ'.set j (some (.int c))) μ' (I (n + 1)) (fun _ _ => False) (fun _ _ => False))
    (hd : ∀ ρ' μ', I m.length ρ' μ' → N ρ' (mset μ' a (.dk (encI m)))) : RunM K E (tLock (tFor (iKeys (tVar i)) (gName j) ts)) ρ μ N R X := fun D σ H g hN hR hX => by
  obtain ⟨va, s1, s2⟩ := g.1.2 i _ hi
  cases s2
  obtain ⟨kv, h, r⟩ := g.2 a _ l
  have hk : kv.map (·.1) = (m.map (·.1)).map Sum.inl := by
    rw [rwp_keys r]
    unfold encI
    rw [List.map_map, List.map_map]
    rfl
  have hlen : kv.length = m.length := by
    have e := congrArg List.length hk
    simpa using e
  refine ⟨a, .dK kv, h, trivial, fun od => ⟨.ref a, s1, a, od, rfl, .inl ⟨kv, upd_same, ?_⟩⟩⟩
  have tk1 : Tk H (upd H a (.frz od (.dK kv))) := Tk.upd (nt_dk h)
  have g1 : S K (upd H a (.frz od (.dK kv))) σ ρ (mset μ a (.rk (encI m))) := ⟨g.1.tk tk1, g.2.put (nt_dk h) ⟨kv, .inr ⟨od, upd_same⟩, rwpm tk1 r⟩⟩
  refine ⟨fun n mm σ' H' => mm = kv.length - n ∧ n ≤ kv.length ∧ ∃ ρ' μ', I n ρ' μ' ∧ Tk (upd H a (.frz od (.dK kv))) H' ∧ S K H' σ' ρ' μ', ⟨kv.length, by simp, Nat.zero_le _, ρ, _, h0, Tk.refl _, g1⟩, ?_⟩
  rintro n mm σ' H' ⟨rfl, hn, ρ', μ', hI, tk, g2⟩
  have hfa : H' a = some (.frz od (.dK kv)) := tk.2 _ _ _ upd_same
  have hres : Tk H (upd H' a (.dK kv)) := ⟨fun b xs rd => by
    have nb : b ≠ a := fun e => (nt_dk h).1 xs (e ▸ rd)
    have := tk.1 b xs (tk1.1 b xs rd)
    rcases this with rd | ⟨ob, rd⟩
    · exact .inl (by rw [upd_ne nb]; exact rd)
    · exact .inr ⟨ob, by rw [upd_ne nb]; exact rd⟩, fun b o u rd => by
    have nb : b ≠ a := fun e => (nt_dk h).2 o u (e ▸ rd)
    rw [upd_ne nb]
    exact tk.2 b o u (tk1.2 b o u rd)⟩
  by_cases hlt : n < kv.length
  · refine .inr ⟨⟨hfa, hlt⟩, fun σ2 H2 => ∃ ρ2 μ2, I (n + 1) ρ2 μ2 ∧ Tk (upd H a (.frz od (.dK kv))) H2 ∧ S K H2 σ2 ρ2 μ2, fun σ2 H2 w => ⟨kv.length - (n + 1), by omega, rfl, hlt, w⟩, fun x H2 y => ?_⟩
    obtain ⟨rfl, kk, vv, hkv, rfl⟩ := y
    have hkk : (kv.map (·.1))[n]? = some kk := by rw [List.getElem?_map, hkv]; rfl
    rw [hk, List.getElem?_map] at hkk
    cases hz2 : (m.map (·.1))[n]? with
    | none =>
      rw [hz2] at hkk
      cases hkk
    | some z =>
      rw [hz2] at hkk
      have ek : Sum.inl z = kk := Option.some.inj hkk
      subst ek
      exact hs n z ρ' μ' hz2 hI _ _ H2 (g2.put j (.int z)) (fun ρ3 μ3 σ3 H3 p3 e3 g3 => ⟨ρ3, μ3, p3, tk.trans e3, g3⟩) (fun d μ3 v H3 q => q.elim) fun c μ3 H3 q => q.elim
  · have e : n = m.length := by omega
    subst e
    refine .inl ⟨⟨hfa, by omega⟩, hfa, hN ρ' _ σ' _ (hd ρ' μ' hI) hres ?_⟩
    have t0 : T0 H' (upd H' a (.dK kv)) := T0.upd fun xs r => by
      rcases r with r | ⟨o, r⟩
      · rw [hfa] at r
        cases r
      · rw [hfa] at r
        cases r
    obtain ⟨kv2, r2, q2⟩ := g2.2 a _ (hl _ _ _ hI)
    have ekv : kv2 = kv := by
      rcases r2 with r2 | ⟨o, r2⟩
      · rw [hfa] at r2
        cases r2
      · rw [hfa] at r2
        cases r2
        rfl
    subst ekv
    refine ⟨⟨g2.1.1, fun k d hk2 => ?_⟩, g2.2.put0 (fun xs r => ?_) ⟨_, upd_same, rwpm0 t0 q2⟩⟩
    · obtain ⟨v, hv, rv⟩ := g2.1.2 k d hk2
      exact ⟨v, hv, rwm0 t0 rv⟩
    · rcases r with r | ⟨o, r⟩
      · rw [hfa] at r
        cases r
      · rw [hfa] at r
        cases r
/-- d[k] where d is walked -/
theorem ed_dgetR {ta tb : TE} {a : Addr} {kvs : List (Key × W)} {k : Key} {x : W} (ha : EvD K ta ρ μ (.ref a)) (hb : EvD K tb ρ μ (kW k)) (l : μ a = some (.rk kvs)) (hx : valW kvs k = some x) : EvD K (tDGet ta tb) ρ μ x := fun σ H g Q q =>
  ha σ H g _ fun v H1 e1 d1 => hb σ H1 (g.mono e1) _ fun u H2 e2 d2 => by
    cases d1
    rw [kv_of d2]
    obtain ⟨kv, h, r⟩ := g.2.ex (e1.trans e2) a _ l
    obtain ⟨v, hv, rv⟩ := (rwp_val r).2 x hx
    refine ⟨a, v, rfl, .inl ⟨kv, k, h, rfl, hv.symm⟩, q _ H2 (e1.trans e2) rv⟩
end
/-- whose answers are data -/
def okT (m : Tb) : Prop := (keysT m).Nodup ∧ ∀ p ∈ m, ∀ μ2, Good 9 μ2 p.2.2
def stepT (m : Tb) (c n : Int) (u : W) : Tb := if newB (getT m c) n = true then putT m c (n, u) else m
theorem putT_mem {m : Tb} {c : Int} {q : Int × W} {p : Int × Int × W} (h : p ∈ putT m c q) : p ∈ m ∨ p.2 = q := by
  unfold putT at h
  split at h
  · obtain ⟨z, hz, e⟩ := List.mem_map.mp h
    split at e
    · exact .inr (by rw [← e])
    · exact .inl (by rw [← e]; exact hz)
  · rcases List.mem_append.mp h with e | e
    · exact .inl e
    · exact .inr (by rw [List.mem_singleton.mp e])
theorem okT_put {m : Tb} (h : okT m) {c n : Int} {u : W} (hu : ∀ μ2, Good 9 μ2 u) : okT (putT m c (n, u)) := ⟨nodup_put h.1 _ _, fun p hp => by
  rcases putT_mem hp with e | e
  · exact h.2 p e
  · rw [e]
    exact hu⟩
theorem okT_step {m : Tb} (h : okT m) {c n : Int} {u : W} (hu : ∀ μ2, Good 9 μ2 u) : okT (stepT m c n u) := by
  unfold stepT
  split
  · exact okT_put h hu
  · exact h
theorem getT_mem {m : Tb} {c : Int} {q : Int × W} (h : getT m c = some q) : (c, q) ∈ m := by
  have hk : c ∈ keysT m := mem_keys_get.mpr (by
    rw [h]
    exact fun e => by cases e)
  obtain ⟨q2, e, hm⟩ := getT_some hk
  rw [h] at e
  rw [Option.some.inj e]
  exact hm
theorem rowsL_mem {m : Tb} {p : Int × Int × W} (h : p ∈ rowsL m) : p ∈ m := by
  unfold rowsL at h
  obtain ⟨c, hc, rfl⟩ := List.mem_map.mp h
  obtain ⟨q, e, hm⟩ := getT_some ((sortI_perm _).mem_iff.mp hc)
  rw [e]
  exact hm
theorem rows_good {m : Tb} (h : ∀ p ∈ m, ∀ μ2, Good 9 μ2 p.2.2) (μ : Mu) : Good 11 μ (.tup (rowsW m)) := good_tup (n := 10) fun w hw => by
  obtain ⟨p, hp, rfl⟩ := List.mem_map.mp hw
  exact good_tup (n := 9) (gcons good_int (gcons good_int (gcons (h p (rowsL_mem hp) μ) gnil)))
theorem rows_len (m : Tb) : (rowsW m).length = m.length := by
  unfold rowsW rowsL
  rw [List.length_map, List.length_map, (sortI_perm _).length_eq, keysT_len]
theorem step_some (m : Tb) (c n : Int) (u : W) : ∃ q, getT (stepT m c n u) c = some q := by
  unfold stepT
  by_cases h : newB (getT m c) n = true
  · rw [if_pos h, getT_put, if_pos rfl]
    exact ⟨_, rfl⟩
  · rw [if_neg h]
    cases e : getT m c with
    | none =>
      rw [e] at h
      exact absurd rfl h
    | some q => exact ⟨q, rfl⟩
def rowV (g : Int → Int × W → W) (m : Tb) : W → W
  | .int c => g c ((getT m c).getD (0, .non))
  | w => w
theorem keys_encG (g : Int → Int × W → W) (m : Tb) : (m.map fun p => (p.1, g p.1 p.2)).map (·.1) = keysT m := by
  rw [List.map_map]
  rfl
/-- the same W on both sides is equal to itself -/
theorem ed_eqSame {K : Frag} {ρ : Rho} {μ : Mu} {ta tb : TE} {x : W} {n : Nat} (ha : EvD K ta ρ μ x) (hb : EvD K tb ρ μ x) (h : Good n μ x) (hn : n ≤ 64) : EvD K (tOp (rEqD K) ta tb) ρ μ (.bl true) := by
  obtain ⟨d, z, k, q⟩ := h
  have e : PyData.eqv d d = true := SeqAt.eqv_refl d (canLay_ok k)
  have := ed_eq ha hb z z (shaped_ok k q hn) (shaped_ok k q hn)
  rw [e] at this
  exact this
theorem ed_neSame {K : Frag} {ρ : Rho} {μ : Mu} {ta tb : TE} {x : W} {n : Nat} (ha : EvD K ta ρ μ x) (hb : EvD K tb ρ μ x) (h : Good n μ x) (hn : n ≤ 64) : EvD K (tOp (rNeD K) ta tb) ρ μ (.bl false) := by
  obtain ⟨d, z, k, q⟩ := h
  have e : PyData.eqv d d = true := SeqAt.eqv_refl d (canLay_ok k)
  have := ed_ne ha hb z z (shaped_ok k q hn) (shaped_ok k q hn)
  rw [e] at this
  exact this
theorem ew_imp {K : Frag} {E : XK} {ρ : Rho} {μ : Mu} {te : TE} {P P2 : W → Mu → Prop} {X : Value → Mu → Prop} (h : EvW K E te ρ μ P X) (q : ∀ w μ', P w μ' → P2 w μ') : EvW K E te ρ μ P2 X := h.imp q
/-- a and b, b changing the store -/
theorem ew_andS {K : Frag} {E : XK} {ρ : Rho} {μ : Mu} {ta tb : TE} {P : W → Mu → Prop} {X : Value → Mu → Prop} {b : Bool} (ha : EvD K ta ρ μ (.bl b)) (hb : b = true → EvW K E tb ρ μ P X) (hf : b = false → P (.bl false) μ := by intro q; cases q) : EvW K E (tAndV ta tb) ρ μ P X := fun σ H g Q q hX => ha σ H g _ fun v H1 e1 dv => by
  cases dv
  cases b with
  | true => exact ⟨true, rfl, iteT (hb rfl σ H1 (g.mono e1) Q (fun w μ' v H' p e2 g2 d2 => q w μ' v H' p ((Tk.ex e1).trans e2) g2 d2) fun c μ' H' x e2 => hX c μ' H' x ((Tk.ex e1).trans e2))⟩
  | false => exact ⟨false, rfl, iteF (q _ μ _ H1 (hf rfl) (Tk.ex e1) (g.mono e1) (.bl false))⟩
theorem getT_at : ∀ {m : Tb} {c : Int} {q : Int × W}, (keysT m).Nodup → (c, q) ∈ m → getT m c = some q
  | p :: r, c, q, h, hm => by
    have h2 : p.1 ∉ keysT r ∧ (keysT r).Nodup := List.nodup_cons.mp h
    have ec : getT (p :: r) c = if p.1 = c then some p.2 else getT r c := by
      unfold getT
      rw [List.find?_cons]
      by_cases q : p.1 = c
      · rw [decide_eq_true q, if_pos q]
        rfl
      · rw [decide_eq_false q, if_neg q]
    rw [ec]
    rcases List.mem_cons.mp hm with e | e
    · rw [← e, if_pos rfl]
    · rw [if_neg fun q2 => h2.1 (by
        rw [q2]
        exact List.mem_map.mpr ⟨_, e, rfl⟩)]
      exact getT_at h2.2 e
theorem putT_len (m : Tb) (c : Int) (q : Int × W) : (putT m c q).length ≤ m.length + 1 := by
  rw [← keysT_len, keys_put, ← keysT_len]
  split
  · omega
  · rw [List.length_append]
    simp
theorem foldL_len (o : Tb) : ∀ (r b : Tb), (foldL o b r).length ≤ b.length + r.length
  | [], b => by
    show b.length ≤ _
    simp
  | p :: r, b => by
    have := foldL_len o r (if keepB (getT o p.1) p.2.1 = true then putT b p.1 p.2 else b)
    have h2 : (if keepB (getT o p.1) p.2.1 = true then putT b p.1 p.2 else b).length ≤ b.length + 1 := by
      split
      · exact putT_len _ _ _
      · omega
    show (foldL o _ r).length ≤ _
    rw [List.length_cons]
    omega
theorem mk_facts {μ : Mu} {p x e : Addr} {c f : Str} (hp : μ p = none) (he : mset μ p (.ins c x []) e = none) :
    p ≠ e ∧ Grow μ (mset (mset (mset μ p (.ins c x [])) e (.dk [])) p (.ins c x [(f, .ref e)])) ∧ mset (mset (mset μ p (.ins c x [])) e (.dk [])) p (.ins c x [(f, .ref e)]) p = some (.ins c x [(f, .ref e)]) ∧
    mset (mset (mset μ p (.ins c x [])) e (.dk [])) p (.ins c x [(f, .ref e)]) e = some (.dk []) ∧ μ e = none := by
  have ne : p ≠ e := fun q => by
    rw [← q, mset_same] at he
    cases he
  refine ⟨ne, fun b o hb => ?_, mset_same, by rw [mset_ne (Ne.symm ne), mset_same], by rw [mset_ne (Ne.symm ne)] at he; exact he⟩
  have n1 : b ≠ p := fun q => by
    rw [q, hp] at hb
    cases hb
  have hb2 : mset μ p (.ins c x []) b = some o := by rw [mset_ne n1]; exact hb
  have n2 : b ≠ e := fun q => by
    rw [← q, hb2] at he
    cases he
  rw [mset_ne n1, mset_ne n2]
  exact hb2
def five : List Int := [-1, -2, -3, -50, -100]
def okF (m : Tb) : Prop := okT m ∧ ∀ c ∈ keysT m, c ∈ five
theorem okF_len {m : Tb} (h : okF m) : m.length ≤ 5 := by
  have := nodup_len (keysT m) five h.1.1 h.2
  rw [keysT_len] at this
  exact this
theorem okF_step {m : Tb} (h : okF m) {c n : Int} {u : W} (hc : c ∈ five) (hu : ∀ μ2, Good 9 μ2 u) : okF (stepT m c n u) := ⟨okT_step h.1 hu, fun k hk => by
  unfold stepT at hk
  split at hk
  · rcases mem_keys_put hk with e | e
    · exact h.2 k e
    · rw [e]
      exact hc
  · exact h.2 k hk⟩
theorem foldP_mem : ∀ (r t : Tb) (p : Int × Int × W), p ∈ foldP t r → (∃ q ∈ t, q.2 = p.2) ∨ ∃ q ∈ r, q.2 = p.2
  | [], t, p, h => .inl ⟨p, h, rfl⟩
  | z :: r, t, p, h => by
    rcases foldP_mem r _ p h with ⟨q, hq, e⟩ | ⟨q, hq, e⟩
    · split at hq
      · rcases putT_mem hq with k | k
        · exact .inl ⟨q, k, e⟩
        · exact .inr ⟨z, List.mem_cons_self, by rw [← e, k]⟩
      · exact .inl ⟨q, hq, e⟩
    · exact .inr ⟨q, List.mem_cons_of_mem _ hq, e⟩
theorem okF_merge {m1 m2 : Tb} (h1 : okF m1) (h2 : okF m2) : okF (foldP m1 (rowsL m2)) := ⟨⟨nodup_foldP _ _ h1.1.1, fun p hp => by
  rcases foldP_mem _ _ p hp with ⟨q, hq, e⟩ | ⟨q, hq, e⟩
  · rw [← e]
    exact h1.1.2 q hq
  · rw [← e]
    exact h2.1.2 q (rowsL_mem hq)⟩, fun c hc => by
  rcases keys_foldP _ _ c hc with e | e
  · exact h1.2 c e
  · rw [keys_rows] at e
    exact h2.2 c ((sortI_perm _).mem_iff.mp e)⟩
theorem okF_none {m : Tb} (h : okF m) {c : Int} (hc : c ∉ five) : getT m c = none := getT_none fun q => hc (h.2 c q)
theorem merged_rowsW {m1 m2 : Tb} (h1 : okF m1) (h2 : okF m2) : rowsW (foldP m1 (rowsL m2)) = rowsW (foldL m2 m2 m1) := by
  unfold rowsW
  rw [merged_rows h1.1.1 h2.1.1]
/-- the store of the law: two sides, two tables -/
structure Wd (μ : Mu) (ps pt a0 x0 d0 a1 x1 d1 t0 t1 : Addr) (m0 m1 : Tb) : Prop where
  ls : μ ps = some (.ls [.ref a0, .ref a1])
  lt : μ pt = some (.ls [.ref t0, .ref t1])
  o0 : μ a0 = some (.ins "Sessions" x0 [("_last", .ref d0)])
  o1 : μ a1 = some (.ins "Sessions" x1 [("_last", .ref d1)])
  e0 : μ d0 = some (.dk (encG gP m0))
  e1 : μ d1 = some (.dk (encG gP m1))
  f0 : μ t0 = some (.dk (encG gL m0))
  f1 : μ t1 = some (.dk (encG gL m1))
  n01 : d0 ≠ d1
  n00 : d0 ≠ t0
  n0t : d0 ≠ t1
  n1t : d1 ≠ t0
  n11 : d1 ≠ t1
  nt : t0 ≠ t1
theorem Wd.grow {μ μ' : Mu} {ps pt a0 x0 d0 a1 x1 d1 t0 t1 : Addr} {m0 m1 : Tb} (w : Wd μ ps pt a0 x0 d0 a1 x1 d1 t0 t1 m0 m1) (g : Grow μ μ') : Wd μ' ps pt a0 x0 d0 a1 x1 d1 t0 t1 m0 m1 :=
  ⟨g _ _ w.ls, g _ _ w.lt, g _ _ w.o0, g _ _ w.o1, g _ _ w.e0, g _ _ w.e1, g _ _ w.f0, g _ _ w.f1, w.n01, w.n00, w.n0t, w.n1t, w.n11, w.nt⟩
theorem ne_ls {μ : Mu} {a b : Addr} {ws : List W} {k : List (Key × W)} (h : μ a = some (.ls ws)) (q : μ b = some (.dk k)) : a ≠ b := fun e => by
  rw [e, q] at h
  cases h
theorem ne_ins {μ : Mu} {a b : Addr} {c : Str} {x : Addr} {fs : List (Str × W)} {k : List (Key × W)} (h : μ a = some (.ins c x fs)) (q : μ b = some (.dk k)) : a ≠ b := fun e => by
  rw [e, q] at h
  cases h
theorem ne_rl {μ : Mu} {a b : Addr} {ws : List W} {k : List (Key × W)} (h : μ a = some (.rl ws)) (q : μ b = some (.dk k)) : a ≠ b := fun e => by
  rw [e, q] at h
  cases h
theorem Wd.step0 {μ μ' : Mu} {ps pt a0 x0 d0 a1 x1 d1 t0 t1 : Addr} {m0 m1 m : Tb} (w : Wd μ ps pt a0 x0 d0 a1 x1 d1 t0 t1 m0 m1) (hd : μ' d0 = some (.dk (encG gP m))) (ht : μ' t0 = some (.dk (encG gL m))) (hf : ∀ b, b ≠ d0 → b ≠ t0 → μ' b = μ b) : Wd μ' ps pt a0 x0 d0 a1 x1 d1 t0 t1 m m1 :=
  ⟨(hf _ (ne_ls w.ls w.e0) (ne_ls w.ls w.f0)).trans w.ls, (hf _ (ne_ls w.lt w.e0) (ne_ls w.lt w.f0)).trans w.lt, (hf _ (ne_ins w.o0 w.e0) (ne_ins w.o0 w.f0)).trans w.o0, (hf _ (ne_ins w.o1 w.e0) (ne_ins w.o1 w.f0)).trans w.o1,
    hd, (hf _ (Ne.symm w.n01) w.n1t).trans w.e1, ht, (hf _ (Ne.symm w.n0t) (Ne.symm w.nt)).trans w.f1, w.n01, w.n00, w.n0t, w.n1t, w.n11, w.nt⟩
theorem Wd.step1 {μ μ' : Mu} {ps pt a0 x0 d0 a1 x1 d1 t0 t1 : Addr} {m0 m1 m : Tb} (w : Wd μ ps pt a0 x0 d0 a1 x1 d1 t0 t1 m0 m1) (hd : μ' d1 = some (.dk (encG gP m))) (ht : μ' t1 = some (.dk (encG gL m))) (hf : ∀ b, b ≠ d1 → b ≠ t1 → μ' b = μ b) : Wd μ' ps pt a0 x0 d0 a1 x1 d1 t0 t1 m0 m :=
  ⟨(hf _ (ne_ls w.ls w.e1) (ne_ls w.ls w.f1)).trans w.ls, (hf _ (ne_ls w.lt w.e1) (ne_ls w.lt w.f1)).trans w.lt, (hf _ (ne_ins w.o0 w.e1) (ne_ins w.o0 w.f1)).trans w.o0, (hf _ (ne_ins w.o1 w.e1) (ne_ins w.o1 w.f1)).trans w.o1,
    (hf _ w.n01 w.n0t).trans w.e0, hd, (hf _ (Ne.symm w.n1t) w.nt).trans w.f0, ht, w.n01, w.n00, w.n0t, w.n1t, w.n11, w.nt⟩
/-- one of the two sides -/
theorem Wd.side {μ : Mu} {ps pt a0 x0 d0 a1 x1 d1 t0 t1 : Addr} {m0 m1 : Tb} (w : Wd μ ps pt a0 x0 d0 a1 x1 d1 t0 t1 m0 m1) (h0 : okF m0) (h1 : okF m1) (r : Int) :
    ∃ aS xS dS tS mS, [W.ref a0, .ref a1][(r % 2).toNat]? = some (.ref aS) ∧ [W.ref t0, .ref t1][(r % 2).toNat]? = some (.ref tS) ∧ μ aS = some (.ins "Sessions" xS [("_last", .ref dS)]) ∧ μ dS = some (.dk (encG gP mS)) ∧ μ tS = some (.dk (encG gL mS)) ∧ dS ≠ tS ∧ okF mS ∧
      ∀ μ2 μ' m, Grow μ μ2 → μ' dS = some (.dk (encG gP m)) → μ' tS = some (.dk (encG gL m)) → (∀ b, b ≠ dS → b ≠ tS → μ' b = μ2 b) → okF m → ∃ m0' m1', Wd μ' ps pt a0 x0 d0 a1 x1 d1 t0 t1 m0' m1' ∧ okF m0' ∧ okF m1' := by
  have b1 : 0 ≤ r % 2 := Int.emod_nonneg _ (by decide)
  have b2 : r % 2 < 2 := Int.emod_lt_of_pos _ (by decide)
  rcases (show (r % 2).toNat = 0 ∨ (r % 2).toNat = 1 by omega) with e | e
  · rw [e]
    exact ⟨a0, x0, d0, t0, m0, rfl, rfl, w.o0, w.e0, w.f0, w.n00, h0, fun μ2 μ' m g hd ht hf hm => ⟨m, m1, (w.grow g).step0 hd ht hf, hm, h1⟩⟩
  · rw [e]
    exact ⟨a1, x1, d1, t1, m1, rfl, rfl, w.o1, w.e1, w.f1, w.n11, h1, fun μ2 μ' m g hd ht hf hm => ⟨m0, m, (w.grow g).step1 hd ht hf, h0, hm⟩⟩
end Pw

namespace Pw
open PySem L2 Evl
open Pd (sLt)
/-! what is drawn is a key, a value, a range, an operation -/
theorem wst_all {q : Nat → Bool} {ch : Str} (hch : ch.cps.toList.all q = true) (hn : 0 < ch.length) (seed : Int) : ∀ n, (Pd.wst ch seed n).1.cps.toList.all q = true
  | 0 => rfl
  | n + 1 => by
    show ((Pd.wst ch seed n).1 ++ (⟨#[Pd.sign ch (Pd.wst ch seed n).2]⟩ : Str)).cps.toList.all q = true
    have e : ((Pd.wst ch seed n).1 ++ (⟨#[Pd.sign ch (Pd.wst ch seed n).2]⟩ : Str)).cps.toList = (Pd.wst ch seed n).1.cps.toList ++ [Pd.sign ch (Pd.wst ch seed n).2] := by
      show ((Pd.wst ch seed n).1.cps ++ #[Pd.sign ch (Pd.wst ch seed n).2]).toList = _
      rw [Array.toList_append]
    rw [e, List.all_append, wst_all hch hn seed n, Bool.true_and]
    generalize (Pd.wst ch seed n).2 = r
    show (q (Pd.sign ch r) && true) = true
    rw [Bool.and_true]
    unfold Pd.sign
    rw [List.getD_eq_getElem?_getD]
    have hl : ch.cps.toList.length = ch.length := Array.length_toList
    have b1 := Int.emod_nonneg r (show (ch.length : Int) ≠ 0 by omega)
    have b2 := Int.emod_lt_of_pos r (show (0 : Int) < (ch.length : Int) by omega)
    have hi : (r % (ch.length : Int)).toNat < ch.cps.toList.length := by omega
    rw [List.getElem?_eq_getElem hi]
    exact List.all_eq_true.mp hch _ (List.getElem_mem hi)
theorem keyS_key (r : Int) : keyS (Pd.keyF r) = true := by
  unfold Pd.keyF
  split
  · have : ∀ n < 8, keyS (Pd.keys8.getD n "") = true := by decide +kernel
    have b1 := Int.emod_nonneg (r / 4) (show (8 : Int) ≠ 0 by decide)
    have b2 := Int.emod_lt_of_pos (r / 4) (show (0 : Int) < 8 by decide)
    exact this _ (by omega)
  · have b1 := Int.emod_nonneg (r / 4) (show (8 : Int) ≠ 0 by decide)
    have b2 := Int.emod_lt_of_pos (r / 4) (show (0 : Int) < 8 by decide)
    unfold keyS
    have hl : (Pd.word (1 + r / 4 % 8) Pd.abc (r / 32)).length = (1 + r / 4 % 8).toNat := Pd.wst_len _ _ _
    rw [hl, decide_eq_true (by omega), decide_eq_true (by omega), Bool.true_and, Bool.true_and]
    exact wst_all (by decide +kernel) (by decide +kernel) _ _
theorem valB_value (r : Int) : valB (.str (valueF r)) = true := by
  unfold valueF
  split
  · have : ∀ n < 3, valB (.str (vals3.getD n "")) = true := by decide +kernel
    have b1 := Int.emod_nonneg (r / 4) (show (3 : Int) ≠ 0 by decide)
    have b2 := Int.emod_lt_of_pos (r / 4) (show (0 : Int) < 3 by decide)
    exact this _ (by omega)
  · have b1 := Int.emod_nonneg (r / 4) (show (41 : Int) ≠ 0 by decide)
    have b2 := Int.emod_lt_of_pos (r / 4) (show (0 : Int) < 41 by decide)
    have hl : (Pd.word (r / 4 % 41) printable (r / 164)).length = (r / 4 % 41).toNat := Pd.wst_len _ _ _
    show (_ && decide _) = true
    rw [hl, decide_eq_true (by omega), Bool.and_true]
    exact wst_all (by decide +kernel) (by decide +kernel) _ _
theorem boundB_bound (r : Int) : boundB (.str (Pd.boundF r)) = true := by
  show (keyS _ || decide _) = true
  unfold Pd.boundF
  split
  · decide +kernel
  · rw [keyS_key, Bool.true_or]
theorem sLt_total {a b : Str} (h : a ≠ b) (h2 : sLt a b = false) : sLt b a = true := by
  cases e : sLt b a with
  | true => rfl
  | false =>
    refine absurd (leS_anti (a := a) (b := b) ?_ ?_) h
    · show (!sLt b a) = true
      rw [e]
      rfl
    · show (!sLt a b) = true
      rw [h2]
      rfl
theorem bound_pos {a b : Str} (h : boundB (.str b) = true) (hl : sLt a b = true) : keyS b = true := by
  have h2 : (keyS b || decide (b = "")) = true := h
  rcases Bool.or_eq_true_iff.mp h2 with q | q
  · exact q
  · have e : b = "" := of_decide_eq_true q
    subst e
    rw [sLt_nil a] at hl
    cases hl
/-- a low and a high bound of a range, as data -/
structure Rng (a : Str) (hi : Option Str) : Prop where
  low : boundB (.str a) = true
  high : ∀ z, hi = some z → keyS z = true ∧ sLt a z = true
theorem rng_F (r : Int) : Rng (Pd.rangeF r).1 (Pd.rangeF r).2 := by
  unfold Pd.rangeF
  split
  · exact ⟨boundB_bound _, fun z e => by cases e⟩
  · rename_i hn
    have hne : Pd.boundF r ≠ Pd.boundF (r / 1000) := fun e => hn (.inl e)
    by_cases h : sLt (Pd.boundF r) (Pd.boundF (r / 1000)) = true
    · have h2 : sLt (Pd.boundF (r / 1000)) (Pd.boundF r) = false := sLt_asym h
      have e1 : Pd.sMin (Pd.boundF r) (Pd.boundF (r / 1000)) = Pd.boundF r := by
        unfold Pd.sMin
        rw [h2]
        rfl
      have e2 : Pd.sMax (Pd.boundF r) (Pd.boundF (r / 1000)) = Pd.boundF (r / 1000) := by
        unfold Pd.sMax
        rw [if_pos h]
      refine ⟨?_, fun z e => ?_⟩
      · show boundB (.str (Pd.sMin _ _)) = true
        rw [e1]
        exact boundB_bound _
      · cases e
        show keyS (Pd.sMax _ _) = true ∧ sLt (Pd.sMin _ _) (Pd.sMax _ _) = true
        rw [e1, e2]
        exact ⟨bound_pos (boundB_bound _) h, h⟩
    · have h1 : sLt (Pd.boundF r) (Pd.boundF (r / 1000)) = false := Bool.eq_false_iff.mpr h
      have h2 : sLt (Pd.boundF (r / 1000)) (Pd.boundF r) = true := sLt_total hne h1
      have e1 : Pd.sMin (Pd.boundF r) (Pd.boundF (r / 1000)) = Pd.boundF (r / 1000) := by
        unfold Pd.sMin
        rw [if_pos h2]
      have e2 : Pd.sMax (Pd.boundF r) (Pd.boundF (r / 1000)) = Pd.boundF r := by
        unfold Pd.sMax
        rw [h1]
        rfl
      refine ⟨?_, fun z e => ?_⟩
      · show boundB (.str (Pd.sMin _ _)) = true
        rw [e1]
        exact boundB_bound _
      · cases e
        show keyS (Pd.sMax _ _) = true ∧ sLt (Pd.sMin _ _) (Pd.sMax _ _) = true
        rw [e1, e2]
        exact ⟨bound_pos (boundB_bound _) h2, h2⟩
theorem Rng.ok {a : Str} {hi : Option Str} (h : Rng a hi) : rangeB (.str a) (oD hi) = true := by
  unfold rangeB
  rw [h.low, Bool.true_and]
  cases hi with
  | none => rfl
  | some z =>
    obtain ⟨k, l⟩ := h.high z rfl
    show (noneD (.str z) || (keyB (.str z) && sLt a z)) = true
    rw [l, Bool.and_true]
    show (false || keyS z) = true
    rw [k]
    rfl
/-- an operation that the table takes -/
def vOp : Op → Prop
  | .get k | .drop k => keyS k = true
  | .put k v => keyS k = true ∧ valB (.str v) = true
  | .swap k o n => keyS k = true ∧ valB (.str o) = true ∧ valB (.str n) = true
  | .page low lim => boundB (.str low) = true ∧ 1 ≤ lim ∧ lim ≤ 50
def opD : Op → PyData
  | .get k => .tuple [.str "get", .str k]
  | .put k v => .tuple [.str "put", .str k, .str v]
  | .drop k => .tuple [.str "drop", .str k]
  | .swap k o n => .tuple [.str "swap", .str k, .str o, .str n]
  | .page low lim => .tuple [.str "page", .str low, .int lim]
def placeF : Op → Str
  | .get k | .drop k | .put k _ | .swap k _ _ => k
  | .page low _ => low
theorem opD_dw (op : Op) (μ : Mu) : Dw μ (opW op) (opD op) := by
  cases op <;> exact .tup (by first | exact .cons .str (.cons .str .nil) | exact .cons .str (.cons .str (.cons .str .nil)) | exact .cons .str (.cons .str (.cons .str (.cons .str .nil))) | exact .cons .str (.cons .str (.cons .int .nil)))
theorem opD_ok {op : Op} (h : okOp op) : okD (opD op) := by
  have s : ∀ {x : Str}, okS x → okD (.str x) := fun h => by
    unfold okD
    exact h
  have i : ∀ n : Int, okD (.int n) := fun n => by
    unfold okD
    trivial
  have l : ∀ z : Str, (decide (z.length ≤ 1000) && PyData.strOk z) = true → okD (.str z) := fun z h => s (okS_lit h)
  have nil : okDs [] := by
    unfold okDs
    trivial
  have cons : ∀ {d : PyData} {r : List PyData}, okD d → okDs r → okDs (d :: r) := fun h1 h2 => by
    unfold okDs
    exact ⟨h1, h2⟩
  have tup : ∀ {r : List PyData}, okDs r → okD (.tuple r) := fun h => by
    unfold okD
    exact h
  cases op with
  | get k => exact tup (cons (l _ (by decide +kernel)) (cons (s h) nil))
  | drop k => exact tup (cons (l _ (by decide +kernel)) (cons (s h) nil))
  | put k v => exact tup (cons (l _ (by decide +kernel)) (cons (s h.1) (cons (s h.2) nil)))
  | swap k o n => exact tup (cons (l _ (by decide +kernel)) (cons (s h.1) (cons (s h.2.1) (cons (s h.2.2) nil))))
  | page low lim => exact tup (cons (l _ (by decide +kernel)) (cons (s h.1) (cons (i lim) nil)))
theorem opB_of {op : Op} (h : vOp op) : opB (opD op) = true := by
  cases op with
  | get k =>
    show (true && keyS k) = true
    rw [show keyS k = true from h]
    rfl
  | drop k =>
    show (true && keyS k) = true
    rw [show keyS k = true from h]
    rfl
  | put k v =>
    show (true && (keyS k && valB (.str v))) = true
    rw [h.1, h.2]
    rfl
  | swap k o n =>
    show (true && (keyS k && (valB (.str o) && valB (.str n)))) = true
    rw [h.1, h.2.1, h.2.2]
    rfl
  | page low lim =>
    show (true && (boundB (.str low) && (decide (1 ≤ lim) && decide (lim ≤ 50)))) = true
    rw [h.1, decide_eq_true h.2.1, decide_eq_true h.2.2]
    rfl
theorem opW_two (op : Op) : ∃ kd rest, opW op = .tup (.str kd :: .str (placeF op) :: rest) := by
  cases op <;> exact ⟨_, _, rfl⟩
theorem good_pair {m : List (Str × Str)} (h : okM m) {k : Str} (hk : k ∈ m.map (·.1)) (μ : Mu) : Good 1 μ (pairW m k) := by
  obtain ⟨v, hv⟩ := valS_some hk
  have ho := h _ (valS_mem hv)
  show Good 1 μ (.tup [.str k, .str ((valS m k).getD "")])
  rw [hv]
  exact good_tup (n := 0) (gcons (good_str ho.1) (gcons (good_str ho.2) gnil))
theorem good_res {m : List (Str × Str)} (h : okM m) {op : Op} {hi : Option Str} (hh : ∀ z, hi = some z → okS z) (μ : Mu) : Good 9 μ (resW m op (oW hi)) := by
  have one : ∀ k : Str, okS k → Good 9 μ (.tup [.str k]) := fun k hk => (good_tup (n := 0) (gcons (good_str hk) gnil)).le (by decide)
  have two : ∀ k v : Str, okS k → okS v → Good 9 μ (.tup [.str k, .str v]) := fun k v hk hv => (good_tup (n := 0) (gcons (good_str hk) (gcons (good_str hv) gnil))).le (by decide)
  have vo : ∀ {k v}, valS m k = some v → okS v := fun {k v} e => (h _ (valS_mem e)).2
  cases op with
  | get k =>
    cases e : valS m k with
    | none => rw [rg0 e]; exact one "none" (okS_lit (by decide +kernel))
    | some v => rw [rg1 e]; exact two "value" _ (okS_lit (by decide +kernel)) (vo e)
  | put k v => exact one "done" (okS_lit (by decide +kernel))
  | drop k =>
    cases e : valS m k with
    | none => rw [rd0 e]; exact one "none" (okS_lit (by decide +kernel))
    | some v => rw [rd1 e]; exact one "done" (okS_lit (by decide +kernel))
  | swap k o n =>
    cases e : valS m k with
    | none => rw [rs0 e]; exact one "none" (okS_lit (by decide +kernel))
    | some v =>
      by_cases c : v = o
      · rw [rs1 e c]; exact one "done" (okS_lit (by decide +kernel))
      · rw [rs2 e c]; exact two "other" _ (okS_lit (by decide +kernel)) (vo e)
  | page low lim =>
    show Good 9 μ (pageW m low lim (oW hi))
    rw [page_oW]
    refine (good_tup (n := 2) (gcons (good_str (okS_lit (by decide +kernel))) (gcons (good_tup (n := 1) fun w hw => ?_) (gcons (good_oW fun z e => ?_) gnil)))).le (by decide)
    · obtain ⟨k, hk, rfl⟩ := List.mem_map.mp hw
      exact good_pair h (page_mem.mp (List.mem_of_mem_take hk)).1 μ
    · unfold nextO at e
      split at e
      · rename_i c
        have e2 := Option.some.inj e
        have q2 : lim.toNat < (pageK m low).length ∨ ¬ lim.toNat < (pageK m low).length := by omega
        rcases q2 with q2 | q2
        · rw [List.getD_eq_getElem?_getD, List.getElem?_eq_getElem q2] at e2
          have hm := (page_mem.mp (e2 ▸ List.getElem_mem q2 : z ∈ pageK m low)).1
          obtain ⟨v, hv⟩ := valS_some hm
          exact (h _ (valS_mem hv)).1
        · rw [List.getD_eq_getElem?_getD, List.getElem?_eq_none (by omega)] at e2
          rw [← e2]
          exact okS_lit (by decide +kernel)
      · exact hh z e
/-! defs that may raise, by a promise that they do not -/
section
variable {P : Program} {w : World} {K : Frag} {mg : Str → Option Value} {base : Heap}
structure DefN (P : Program) (w : World) (K : Frag) (mg : Str → Option Value) (base : Heap) (k : Nat) (x : Str) (ps : List Str) (sp : Sp) : Prop where
  ex : ∃ (f : Addr) (fd : FuncData), FnOk P w K mg base (L2N.CX P w) k f fd ps sp ∧ mg x = some (.ref f) ∧ PySem.W.keepIn K (.ref f) = true ∧ Binds K fd ps []
theorem defN_mk {k : Nat} {x : Str} {st : Stmt} {f : Addr} {fd : FuncData} {ps : List Str} {sp : Sp} (F : FnP K x st f fd) (g : mg x = some (.ref f)) (b : Binds K fd ps []) (h : FnOk P w K mg base (L2N.CX P w) k f fd ps sp) : DefN P w K mg base k x ps sp := ⟨f, fd, h, g, F.kp, b⟩
theorem fn_pureN {x qual : Str} {st : Stmt} {f : Addr} {fd : FuncData} {N ps : List Str} {k : Nat} {Wf : List W → Mu → W → Prop} (F : FnM K x qual st f fd) (S : FnScope N ps (defScope st)) (len : ∀ ds μ d, Wf ds μ d → ds.length = ps.length)
    (body : ∀ ds μ d, Wf ds μ d → ∀ (cdv : Value) (A : Around) (outer : List PySem.Env) (s : Shared) (H : Hp) (E : XK), Room k (A.deeper (PyProof.Rows.envOfC qual (defScope st) s.heap.objs.size f cdv)) →
      ∃ t, PSs (cxOf (L2N.CX P w) P w K mg base N qual (defScope st) f cdv A outer s H E) (defBody st) t ∧ Run K t (rho0 N.length ds) μ (fun _ => d = .non) (fun e => e = d)) : FnOk P w K mg base (L2N.CX P w) (k + 1) f fd ps (spP K Wf) := by
  refine L2.FunD.ok F S (fun vs H Q E h => ?_) (fun cdv A outer s H vs Q E hr h => ?_)
  · obtain ⟨ds, μ, d, h1, _, h2, _⟩ := h
    rw [dps_len h1]
    exact len ds μ d h2
  · obtain ⟨ds, μ, d, h1, hm, h2, q⟩ := h
    obtain ⟨t, ht, hrun⟩ := body ds μ d h2 cdv A outer s H E hr
    refine ⟨t, ht, hrun _ _ H ⟨dps_start h1, hm⟩ (fun ρ' σ' H' e e1 _ => ?_) fun e v H' q1 e1 dv => ?_⟩
    · subst e
      exact q .non H' e1 .non
    · subst q1
      exact q v H' e1 dv
theorem fnm_mutN {x qual : Str} {st : Stmt} {f : Addr} {fd : FuncData} {N ps : List Str} {k : Nat} {Wf : List W → Mu → (W → Mu → Prop) → (Value → Mu → Prop) → Prop} (F : FnM K x qual st f fd) (S : FnScope N ps (defScope st)) (len : ∀ ds μ Pq X, Wf ds μ Pq X → ds.length = ps.length)
    (body : ∀ ds μ Pq X, Wf ds μ Pq X → ∀ (cdv : Value) (A : Around) (outer : List PySem.Env) (s : Shared) (H : Hp) (E : XK), Room k (A.deeper (PyProof.Rows.envOfC qual (defScope st) s.heap.objs.size f cdv)) →
      ∃ t, PSs (cxOf (L2N.CX P w) P w K mg base N qual (defScope st) f cdv A outer s H E) (defBody st) t ∧ RunM K E t (rho0 N.length ds) μ (fun _ μ' => Pq .non μ') Pq X) : FnOk P w K mg base (L2N.CX P w) (k + 1) f fd ps (spM K Wf) := by
  refine L2.FunD.ok F S (fun vs H Q E h => ?_) (fun cdv A outer s H vs Q E hr h => ?_)
  · obtain ⟨ds, μ, Pq, X, h1, _, h2, _⟩ := h
    rw [dps_len h1]
    exact len ds μ Pq X h2
  · obtain ⟨ds, μ, Pq, X, h1, hm, h2, q, qx⟩ := h
    obtain ⟨t, ht, hrun⟩ := body ds μ Pq X h2 cdv A outer s H E hr
    exact ⟨t, ht, hrun _ _ H ⟨dps_start h1, hm⟩ (fun ρ' μ' σ' H' e e1 g => q .non μ' .non H' e e1 g.2 .non) (fun e μ' v H' q1 e1 m dv => q e μ' v H' q1 e1 m dv) fun c μ' H' x e1 m => qx c μ' H' x e1 m⟩
end
theorem pe_callN {X : Cx} {k : Nat} {x : Str} {ps : List Str} {sp : Sp} {e : Expr} {es : List Expr} {p pos : Pos} {t : TA} (D : DefN X.prog X.w X.K X.mg X.base k x ps sp) (hr : Room k X.A) (hg : Gl X x) (ha : PA X (e :: es) t) (hdb : (x == ("__debug__" : Str)) = false := by decide)
    (he : starEach (e :: es) X.env = (false, eval e X.env) :: starEach es X.env := by rfl) (hpl : (backTo pos (starEach es X.env)).any (·.1) = false := by rfl) : PE X (.Call (.Name x p) (e :: es) [] pos) (tCall sp [] E0 t) := by
  obtain ⟨f, fd, h, g, kp, b⟩ := D.ex
  exact pe_call h hr hg g kp b .nil passLN ha hdb he hpl
/-- C(..) by an __init__ that might raise, and does not -/
theorem pe_mkN {X : Cx} {k : Nat} {x : Str} {ps : List Str} {sp : Sp} {e : Expr} {es : List Expr} {p pos : Pos} {t : TA} (D : KDef X.prog X.w X.K X.mg X.base (L2N.CX X.prog X.w) k x ps sp) (hr : Room (k + 1) X.A) (hg : Gl X x) (ha : PA X (e :: es) t) (hdb : (x == ("__debug__" : Str)) = false := by decide)
    (he : starEach (e :: es) X.env = (false, eval e X.env) :: starEach es X.env := by rfl) (hpl : (backTo pos (starEach es X.env)).any (·.1) = false := by rfl) : PE X (.Call (.Name x p) (e :: es) [] pos) (tMake (He.ga X.K x) sp [] E0 t) := by
  obtain ⟨f, fd, h, M, b⟩ := D.ex
  exact pe_make M h hr hg D.g b .nil passLN ha hdb he hpl
theorem ew_mkN {K : Frag} {E : XK} {ρ : Rho} {μ : Mu} {X : Value → Mu → Prop} {x : Str} {xs : List W} {t : TA} {Wf : List W → Mu → (W → Mu → Prop) → (Value → Mu → Prop) → Prop} {P : W → Mu → Prop} (h : EvS K t ρ μ xs) (hw : ∀ p dx, μ p = none → Wf (.ref p :: xs) (mset μ p (.ins x dx [])) (fun w μ' => w = .non ∧ P (.ref p) μ') (fun _ _ => False)) : EvW K E (tMake (He.ga K x) (spM K Wf) [] E0 t) ρ μ P X := fun σ H g Q q hX =>
  h σ H g _ fun vs H1 e0 d1 => by
  intro p dx hp hd hne
  have g1 := g.mono e0
  have e1 : Ex H1 (upd H1 dx (.own p)) := Ex.new hd
  have hp1 : upd H1 dx (.own p) p = none := by
    rw [upd_ne (Ne.symm hne)]
    exact hp
  have e : Ex H1 (upd (upd H1 dx (.own p)) p (.ins (He.ga K x) dx [])) := e1.trans (Ex.new hp1)
  have hn : μ p = none := g1.2.free hp
  have m : Mem K (upd (upd H1 dx (.own p)) p (.ins (He.ga K x) dx [])) (mset μ p (.ins x dx [])) := (g1.2.ex e1).put (nt_none hp1) ⟨[], upd_same, .nil⟩
  show spM K Wf (.ref p :: (vs ++ [])) _ _ E0
  rw [List.append_nil]
  exact ⟨.ref p :: xs, _, _, _, .cons (.ref p) (dpms e d1), m, hw p dx hn, fun w μ' v H' ⟨hw0, hP⟩ e3 m3 d3 => by
    subst hw0
    cases d3
    exact ⟨rfl, q _ μ' _ H' hP ((Tk.ex (e0.trans e)).trans e3) ⟨g.1.tk ((Tk.ex (e0.trans e)).trans e3), m3⟩ (.ref p)⟩, fun c μ' H' xx => xx.elim⟩
/-- a method that may raise, where it does not, its arguments changing the store -/
theorem ew_methNA {K : Frag} {E : XK} {ρ : Rho} {μ : Mu} {X : Value → Mu → Prop} {x m : Str} {ta : TE} {Wf : List W → Mu → (W → Mu → Prop) → (Str → Mu → Prop) → Prop} {t : TA} {P : W → Mu → Prop} {Pa : List W → Mu → Prop} {a : Addr} (ho : EvD K ta ρ μ (.ref a)) (hl : ∃ dx fs, μ a = some (.ins x dx fs) ∧ fs.lookup m = none) (h : EvA K E t ρ μ Pa X) (hw : ∀ xs μ1, Pa xs μ1 → Wf (.ref a :: xs) μ1 P (fun _ _ => False)) : EvW K E (tMeth (He.ga K x) m (spX K Wf) [] E0 ta t) ρ μ P X := fun σ H g Q q hX =>
  ho σ H g _ fun v H1 e1 d1 => by
    cases d1
    obtain ⟨dx, fs, l, hm⟩ := hl
    obtain ⟨fv, h1, r⟩ := g.2.ex e1 a _ l
    refine ⟨a, dx, fv, rfl, h1, (rwp_look r).1 hm, h σ H1 (g.mono e1) _ (fun xs μ1 vs H2 pa e2 g2 d2 => ?_) fun c μ' H2 x e2 m2 => hX c μ' H2 x ((Tk.ex e1).trans e2) m2⟩
    show spX K Wf (.ref a :: (vs ++ [])) H2 Q E0
    rw [List.append_nil]
    have e := (Tk.ex e1).trans e2
    exact ⟨.ref a :: xs, μ1, P, _, .cons (.ref a) d2, g2.2, hw xs μ1 pa, fun w μ' v H3 p e3 m3 d3 => q w μ' v H3 p (e.trans e3) ⟨g.1.tk (e.trans e3), m3⟩ d3, fun c μ' H3 x => x.elim⟩
end Pw

namespace K25
open PySem L2 Evl Pw
def top (i : Nat) : Stmt := PySem.Challenge.pw_boundstone_k25_joins.main.body.getD i (.Pass ⟨0, 0, 0, 0⟩)
abbrev s__wall : Stmt := top 0
abbrev s_is_key : Stmt := top 10
abbrev s_is_bound : Stmt := top 11
abbrev s_is_range : Stmt := top 12
abbrev s_below : Stmt := top 13
abbrev s_contains : Stmt := top 14
abbrev s_is_printable : Stmt := top 17
abbrev s_is_integer : Stmt := top 18
abbrev s_kind_of : Stmt := top 22
abbrev s_is_value : Stmt := top 23
abbrev s__is_key_alone : Stmt := top 24
abbrev s__is_put : Stmt := top 25
abbrev s__is_swap : Stmt := top 26
abbrev s__is_page : Stmt := top 27
abbrev s_is_operation : Stmt := top 29
abbrev s_place : Stmt := top 30
abbrev s_is_within : Stmt := top 31
abbrev s__get : Stmt := top 32
abbrev s__put : Stmt := top 33
abbrev s__drop : Stmt := top 34
abbrev s__swap : Stmt := top 35
abbrev s__page : Stmt := top 36
abbrev s_apply : Stmt := top 38
abbrev s__filled : Stmt := top 43
abbrev s__law_cell : Stmt := top 45
abbrev s__law_rich : Stmt := top 46
abbrev s__law_word : Stmt := top 47
abbrev s__law_key : Stmt := top 48
abbrev s__law_bound : Stmt := top 49
abbrev s__law_value : Stmt := top 50
abbrev s__law_range : Stmt := top 51
abbrev s__law_filled : Stmt := top 52
abbrev s__law_join : Stmt := top 53
abbrev s__law_merged : Stmt := top 54
abbrev s_law : Stmt := top 55
abbrev s_Sessions___init__ : Stmt := inCls (top 40) 0
abbrev s_Sessions_status : Stmt := inCls (top 40) 1
abbrev s_Sessions_answer : Stmt := inCls (top 40) 2
abbrev s_Sessions_remember : Stmt := inCls (top 40) 3
abbrev s_Sessions_rows : Stmt := inCls (top 40) 4
abbrev s_Sessions_merged : Stmt := inCls (top 40) 5
abbrev s_Sessions_clone : Stmt := inCls (top 40) 6
abbrev s_Shard___init__ : Stmt := inCls (top 42) 0
abbrev s_Shard_has : Stmt := inCls (top 42) 1
abbrev s_Shard_size : Stmt := inCls (top 42) 2
abbrev s_Shard_middle : Stmt := inCls (top 42) 3
abbrev s_Shard_status : Stmt := inCls (top 42) 4
abbrev s_Shard_answer : Stmt := inCls (top 42) 5
abbrev s_Shard_serve : Stmt := inCls (top 42) 6
abbrev s_Shard_split : Stmt := inCls (top 42) 7
abbrev s_Shard_join : Stmt := inCls (top 42) 8
abbrev s_Shard_content : Stmt := inCls (top 42) 9
abbrev s_Shard_clone : Stmt := inCls (top 42) 10

inductive W_is_key : List W → Mu → W → Prop
  | mk {μ : Mu} {x : W} {d : PyData} (z : Dw μ x d) (k : okD d) : W_is_key [x] μ (.bl (keyB d))
inductive W_below : List W → Mu → W → Prop
  | mk {μ : Mu} {a b : Option Str} : W_below [oW a, oW b] μ (.bl (Pd.belowF a b))
inductive W_is_printable : List W → Mu → W → Prop
  | mk {μ : Mu} {x : W} {d : PyData} (z : Dw μ x d) (k : okD d) : W_is_printable [x] μ (.bl (prB d))
inductive W_kind_of : List W → Mu → W → Prop
  | mk {μ : Mu} {x : W} {d : PyData} (z : Dw μ x d) (k : okD d) : W_kind_of [x] μ (.str (kindS d))
inductive W_is_value : List W → Mu → W → Prop
  | mk {μ : Mu} {x : W} {d : PyData} (z : Dw μ x d) (k : okD d) : W_is_value [x] μ (.bl (valB d))
inductive W_is_bound : List W → Mu → W → Prop
  | mk {μ : Mu} {x : W} {d : PyData} (z : Dw μ x d) (k : okD d) : W_is_bound [x] μ (.bl (boundB d))
inductive W_is_range : List W → Mu → W → Prop
  | mk {μ : Mu} {x y : W} {d e : PyData} (z : Dw μ x d) (k : okD d) (z2 : Dw μ y e) (k2 : okD e) : W_is_range [x, y] μ (.bl (rangeB d e))
inductive W_contains : List W → Mu → W → Prop
  | mk {μ : Mu} {a b : Str} {hi : Option Str} : W_contains [.str a, oW hi, .str b] μ (.bl (containsF a hi b))
inductive W_is_integer : List W → Mu → W → Prop
  | mk {μ : Mu} {x : W} {d : PyData} {lo hi : Int} (z : Dw μ x d) : W_is_integer [x, .int lo, .int hi] μ (.bl (intB lo hi d))
inductive W__is_key_alone : List W → Mu → W → Prop
  | mk {μ : Mu} {ws : List W} {ds : List PyData} (z : DwAll μ ws ds) (k : okDs ds) : W__is_key_alone [.tup ws] μ (.bl (keyAloneB ds))
inductive W__is_put : List W → Mu → W → Prop
  | mk {μ : Mu} {ws : List W} {ds : List PyData} (z : DwAll μ ws ds) (k : okDs ds) : W__is_put [.tup ws] μ (.bl (putB ds))
inductive W__is_swap : List W → Mu → W → Prop
  | mk {μ : Mu} {ws : List W} {ds : List PyData} (z : DwAll μ ws ds) (k : okDs ds) : W__is_swap [.tup ws] μ (.bl (swapB ds))
inductive W__is_page : List W → Mu → W → Prop
  | mk {μ : Mu} {ws : List W} {ds : List PyData} (z : DwAll μ ws ds) (k : okDs ds) : W__is_page [.tup ws] μ (.bl (pageOpB ds))
inductive W_is_operation : List W → Mu → W → Prop
  | mk {μ : Mu} {x : W} {d : PyData} (z : Dw μ x d) (k : okD d) : W_is_operation [x] μ (.bl (opB d))
inductive W_place : List W → Mu → W → Prop
  | mk {μ : Mu} {op : Op} (ho : okOp op) (hv : vOp op) : W_place [opW op] μ (.str (placeF op))
inductive W_is_within : List W → Mu → W → Prop
  | mk {μ : Mu} {op : Op} {lo : Str} {hi : Option Str} (ho : okOp op) (hv : vOp op) : W_is_within [opW op, .str lo, oW hi] μ (.bl (containsF lo hi (placeF op)))
inductive W__get : List W → Mu → (W → Mu → Prop) → (Value → Mu → Prop) → Prop
  | mk {μ : Mu} {a : Addr} {m : List (Str × Str)} {k : Str} {high : W} {P : W → Mu → Prop} {X : Value → Mu → Prop} (l : μ a = some (.dk (encS m))) (p : ∀ μ', Upd a (.dk (encS (resM m (.get k)))) μ μ' → P (resW m (.get k) high) μ') : W__get [.ref a, opW (.get k), high] μ P X
inductive W__put : List W → Mu → (W → Mu → Prop) → (Value → Mu → Prop) → Prop
  | mk {μ : Mu} {a : Addr} {m : List (Str × Str)} {k v : Str} {high : W} {P : W → Mu → Prop} {X : Value → Mu → Prop} (l : μ a = some (.dk (encS m))) (hm : m.length ≤ 1000) (p : ∀ μ', Upd a (.dk (encS (resM m (.put k v)))) μ μ' → P (resW m (.put k v) high) μ') : W__put [.ref a, opW (.put k v), high] μ P X
inductive W__drop : List W → Mu → (W → Mu → Prop) → (Value → Mu → Prop) → Prop
  | mk {μ : Mu} {a : Addr} {m : List (Str × Str)} {k : Str} {high : W} {P : W → Mu → Prop} {X : Value → Mu → Prop} (l : μ a = some (.dk (encS m))) (p : ∀ μ', Upd a (.dk (encS (resM m (.drop k)))) μ μ' → P (resW m (.drop k) high) μ') : W__drop [.ref a, opW (.drop k), high] μ P X
inductive W__swap : List W → Mu → (W → Mu → Prop) → (Value → Mu → Prop) → Prop
  | mk {μ : Mu} {a : Addr} {m : List (Str × Str)} {k o n : Str} {high : W} {P : W → Mu → Prop} {X : Value → Mu → Prop} (l : μ a = some (.dk (encS m))) (hm : m.length ≤ 1000) (p : ∀ μ', Upd a (.dk (encS (resM m (.swap k o n)))) μ μ' → P (resW m (.swap k o n) high) μ') : W__swap [.ref a, opW (.swap k o n), high] μ P X
inductive W__page : List W → Mu → (W → Mu → Prop) → (Value → Mu → Prop) → Prop
  | mk {μ : Mu} {a : Addr} {m : List (Str × Str)} {low : Str} {limit : Int} {high : W} {P : W → Mu → Prop} {X : Value → Mu → Prop} (l : μ a = some (.dk (encS m))) (hm : m.length ≤ 1000) (hl : 1 ≤ limit ∧ limit ≤ 1000) (p : ∀ μ', Grow μ μ' → P (pageW m low limit high) μ') : W__page [.ref a, opW (.page low limit), high] μ P X
inductive W_apply : List W → Mu → (W → Mu → Prop) → (Value → Mu → Prop) → Prop
  | mk {μ : Mu} {a : Addr} {m : List (Str × Str)} {op : Op} {high : W} {P : W → Mu → Prop} {X : Value → Mu → Prop} (l : μ a = some (.dk (encS m))) (hm : m.length ≤ 1000) (hk : okOp op) (p : ∀ μ', Upd a (.dk (encS (resM m op))) μ μ' → P (resW m op high) μ') : W_apply [.ref a, opW op, high] μ P X
inductive W__law_cell : List W → Mu → W → Prop
  | mk {μ : Mu} {a : Addr} {ns : List Int} {k : Int} (l : μ a = some (scr ns)) (h : 0 ≤ k) : W__law_cell [.ref a, .int k] μ (.int (Pd.cell ns k))
inductive W__law_rich : List W → Mu → W → Prop
  | mk {μ : Mu} {c k : Int} : W__law_rich [.int c, .int k] μ (.int (Pd.rich c k))
inductive W__law_word : List W → Mu → W → Prop
  | mk {μ : Mu} {n : Int} {ch : Str} {seed : Int} (h : 0 ≤ n ∧ n ≤ 1000 ∧ 0 < ch.length ∧ ch.length ≤ 1000) : W__law_word [.int n, .str ch, .int seed] μ (.str (Pd.word n ch seed))
inductive W__law_key : List W → Mu → W → Prop
  | mk {μ : Mu} {r : Int} : W__law_key [.int r] μ (.str (Pd.keyF r))
inductive W__law_bound : List W → Mu → W → Prop
  | mk {μ : Mu} {r : Int} : W__law_bound [.int r] μ (.str (Pd.boundF r))
inductive W__law_value : List W → Mu → W → Prop
  | mk {μ : Mu} {r : Int} : W__law_value [.int r] μ (.str (valueF r))
inductive W__law_range : List W → Mu → W → Prop
  | mk {μ : Mu} {r : Int} : W__law_range [.int r] μ (.tup [.str (Pd.rangeF r).1, oW (Pd.rangeF r).2])
section
variable {P : Program} {w : World} {K : Frag} {mg : Str → Option Value} {base : Heap}
theorem sc_is_key : FnScope ["value", "character"] ["value"] (defScope s_is_key) := ⟨rfl, rfl, rfl, by decide +kernel, rfl, by decide +kernel, by decide +kernel⟩
theorem ok_is_key {f : Addr} {fd : FuncData} (F : FnP K "is_key" s_is_key f fd) (g : mg "is_key" = some (.ref f))
    (z_len : mg "len" = none) (c_MOST_KEY : ∃ t, mg "MOST_KEY" = some (.int 8 t)) (z_isinstance : mg "isinstance" = none) (z_str : mg "str" = none) : Def P w K mg base 1 "is_key" ["value"] (spP K W_is_key) := by
  refine def_mk F g (F.bindsN fun _ _ _ _ _ _ us hl => match us, hl with | [_], _ => rfl) (fn_pure F sc_is_key ?_ ?_)
  · rintro _ _ _ ⟨⟩
    rfl
  · intro ds μ d W
    cases W
    rename_i x d k z
    intro cdv A outer s H E hr
    refine ⟨_, pss_cons (ps_if (PW.pt (pw_or (pt_not (pt_val (pe_callB call_isi (by rfl) z_isinstance (by decide +kernel) (pa_cons (pv 0) (pa_cons (pe_bltn (v := V.ty "str") (by rfl) z_str (by decide +kernel) rfl) pa_nil))))) (pw_or1 (pt_not (pt_chain op_le op_le pe_int (pe_callB cr_len (by rfl) z_len (by decide +kernel) (pa_cons (pv 0) pa_nil)) (pe_glob (v := V.int 8) rfl c_MOST_KEY.choose_spec ⟨_, rfl⟩)))))) (pss_one (ps_ret pe_bl)) pss_nil)
      (pss_cons (ps_for PassesOwn.never rfl (pi_str (pv 0)) (pg_name (i := 1) sc_is_key.nd rfl (Or.inl rfl)) (pss_one (ps_if (pt_not (pt_chain op_leS op_leS pe_str (pv 1) pe_str)) (pss_one (ps_ret pe_bl)) pss_nil)))
      (pss_one (ps_ret pe_bl))), ?_⟩
    by_cases hs : (Pd.tyN d == "str") = true
    · obtain ⟨y, rfl⟩ := is_str hs
      cases z
      have hk := okD_str k
      refine run_ifs (ec_or (ec_not (ec_val (ed_isStr (ed_var rfl) .str))) fun _ => (ec_not (ec_test (ed_chain ed_int (ed_lenS (es_cons (ed_var rfl) es_nil) (okS_sz hk)) ed_int ch_le ch_le)))) (fun c => ?_) (fun c => ?_)
      · refine run_ret ed_bl ?_
        have c2 : (!(decide ((1 : Int) ≤ (y.length : Int)) && decide ((y.length : Int) ≤ 8))) = true := c
        show W.bl false = W.bl (keyS y)
        unfold keyS
        rw [nt c2]
        rfl
      · have c2 : (!(decide ((1 : Int) ≤ (y.length : Int)) && decide ((y.length : Int) ≤ 8))) = false := c
        refine run_nexts (run_allS inAZ (ed_var rfl) (fun ch => ec_not (ec_test (ed_chain ed_str (ed_var rfl) ed_str ch_leS ch_leS))) (fun q => ?_) fun q ρ' _ => run_ret ed_bl ?_)
        · show W.bl false = W.bl (keyS y)
          unfold keyS
          rw [q, Bool.and_false]
        · show W.bl true = W.bl (keyS y)
          unfold keyS
          rw [q, nn c2]
          rfl
    · have hs' := Bool.eq_false_iff.mpr hs
      refine run_ifs (ec_or (b := true) (ec_not (ec_val (ed_isStr (ed_var rfl) z))) fun h => ?_) (fun c => ?_) (fun c => ?_)
      · rw [hs'] at h
        cases h
      · refine run_ret ed_bl ?_
        rw [nstr_key hs']
      · rw [Bool.or_true] at c
        cases c

theorem sc_below : FnScope ["one", "other"] ["one", "other"] (defScope s_below) := ⟨rfl, rfl, rfl, by decide +kernel, rfl, by decide +kernel, by decide +kernel⟩
theorem ok_below {f : Addr} {fd : FuncData} (F : FnP K "below" s_below f fd) (g : mg "below" = some (.ref f))
     : Def P w K mg base 1 "below" ["one", "other"] (spP K W_below) := by
  refine def_mk F g (F.bindsN fun _ _ _ _ _ _ us hl => match us, hl with | [_, _], _ => rfl) (fn_pure F sc_below ?_ ?_)
  · rintro _ _ _ ⟨⟩
    rfl
  · intro ds μ d W
    cases W
    rename_i a b
    intro cdv A outer s H E hr
    refine ⟨_, pss_cons (ps_if (pt_cmpR op_isNo (pv 0) pe_non (nomark _)) (pss_one (ps_ret pe_bl)) pss_nil)
      (pss_one (ps_ret (pe_or (pe_cmpR op_isNo (pv 1) pe_non (nomark _)) (pe_one (pe_cmpR op_ltS (pv 0) (pv 1) (nomark _)))))), ?_⟩
    refine run_ifs (ec_test (ed_isN (ed_var rfl))) (fun c => ?_) (fun c => ?_)
    · refine run_ret ed_bl ?_
      cases a with
      | none => rfl
      | some x => cases c
    · refine run_nexts ?_
      cases a with
      | none => cases c
      | some x =>
        cases b with
        | none => exact run_ret (ed_or (b := false) (ed_isN (ed_var rfl)) fun h => by cases h) rfl
        | some y => exact run_ret (ed_or (ed_isN (ed_var rfl)) fun _ => ed_ltS (ed_var rfl) (ed_var rfl)) rfl

theorem sc_is_printable : FnScope ["value", "character"] ["value"] (defScope s_is_printable) := ⟨rfl, rfl, rfl, by decide +kernel, rfl, by decide +kernel, by decide +kernel⟩
theorem ok_is_printable {f : Addr} {fd : FuncData} (F : FnP K "is_printable" s_is_printable f fd) (g : mg "is_printable" = some (.ref f))
    (z_isinstance : mg "isinstance" = none) (z_str : mg "str" = none) (z_ord : mg "ord" = none) (c_BARRED : ∃ t, mg "BARRED" = some (.int 37 t)) : Def P w K mg base 1 "is_printable" ["value"] (spP K W_is_printable) := by
  refine def_mk F g (F.bindsN fun _ _ _ _ _ _ us hl => match us, hl with | [_], _ => rfl) (fn_pure F sc_is_printable ?_ ?_)
  · rintro _ _ _ ⟨⟩
    rfl
  · intro ds μ d W
    cases W
    rename_i x d k z
    intro cdv A outer s H E hr
    refine ⟨_, pss_cons (ps_if (pt_not (pt_val (pe_callB call_isi (by rfl) z_isinstance (by decide +kernel) (pa_cons (pv 0) (pa_cons (pe_bltn (v := V.ty "str") (by rfl) z_str (by decide +kernel) rfl) pa_nil))))) (pss_one (ps_ret pe_bl)) pss_nil)
      (pss_cons (ps_for PassesOwn.never rfl (pi_str (pv 0)) (pg_name (i := 1) sc_is_printable.nd rfl (Or.inl rfl)) (pss_one (ps_if (PW.pt (pw_or (pt_not (pt_chain op_leS op_leS pe_str (pv 1) pe_str)) (pw_or1 (pt_cmpR op_eq (pe_callB cr_ord (by rfl) z_ord (by decide +kernel) (pa_cons (pv 1) pa_nil)) (pe_glob (v := V.int 37) rfl c_BARRED.choose_spec ⟨_, rfl⟩) (nomark _))))) (pss_one (ps_ret pe_bl)) pss_nil)))
      (pss_one (ps_ret pe_bl))), ?_⟩
    by_cases hs : (Pd.tyN d == "str") = true
    · obtain ⟨y, rfl⟩ := is_str hs
      cases z
      refine run_ifs (ec_not (ec_val (ed_isStr (ed_var rfl) .str))) (fun c => by cases c) (fun c => ?_)
      refine run_nexts (run_allS inPr (ed_var rfl) (fun ch => ?_) (fun q => ?_) fun q ρ' _ => run_ret ed_bl ?_)
      · refine (ec_or (ec_not (ec_test (ed_chain ed_str (ed_var rfl) ed_str ch_leS ch_leS))) fun _ => (ec_test (ed_eqI (ed_ord (es_cons (ed_var rfl) es_nil)) ed_int))).is ?_
        show (!(!Pd.sLt (one ch) " " && !Pd.sLt "~" (one ch)) || decide ((ch : Int) = 37)) = !inPr ch
        unfold inPr
        exact (show ∀ a b : Bool, (!a || b) = !(a && !b) by decide) _ _
      · show W.bl false = W.bl (y.cps.toList.all inPr)
        rw [q]
      · show W.bl true = W.bl (y.cps.toList.all inPr)
        rw [q]
    · have hs' := Bool.eq_false_iff.mpr hs
      refine run_ifs (ec_not (ec_val (ed_isStr (ed_var rfl) z))) (fun c => ?_) (fun c => ?_)
      · refine run_ret ed_bl ?_
        rw [nstr_pr hs']
      · rw [hs'] at c
        cases c

theorem sc_kind_of : FnScope ["value"] ["value"] (defScope s_kind_of) := ⟨rfl, rfl, rfl, by decide +kernel, rfl, by decide +kernel, by decide +kernel⟩
theorem ok_kind_of {f : Addr} {fd : FuncData} (F : FnP K "kind_of" s_kind_of f fd) (g : mg "kind_of" = some (.ref f))
    (z_isinstance : mg "isinstance" = none) (z_str : mg "str" = none) (z_len : mg "len" = none) (z_tuple : mg "tuple" = none) : Def P w K mg base 1 "kind_of" ["value"] (spP K W_kind_of) := by
  refine def_mk F g (F.bindsN fun _ _ _ _ _ _ us hl => match us, hl with | [_], _ => rfl) (fn_pure F sc_kind_of ?_ ?_)
  · rintro _ _ _ ⟨⟩
    rfl
  · intro ds μ d W
    cases W
    rename_i x d k z
    intro cdv A outer s H E hr
    refine ⟨_, pss_cons (ps_if (PW.pt (pw_and (pt_val (pe_callB call_isi (by rfl) z_isinstance (by decide +kernel) (pa_cons (pv 0) (pa_cons (pe_bltn (v := V.ty "tuple") (by rfl) z_tuple (by decide +kernel) rfl) pa_nil)))) (pw_and (pt_cmpR op_gt (pe_callB cr_len (by rfl) z_len (by decide +kernel) (pa_cons (pv 0) pa_nil)) pe_int (nomark _)) (pw_and1 (pt_val (pe_callB call_isi (by rfl) z_isinstance (by decide +kernel) (pa_cons (pe_ix ix_tup (pv 0) pe_int (fun _ _ => rfl)) (pa_cons (pe_bltn (v := V.ty "str") (by rfl) z_str (by decide +kernel) rfl) pa_nil)))))))) (pss_one (ps_ret (pe_ix ix_tup (pv 0) pe_int (fun _ _ => rfl)))) pss_nil)
      (pss_one (ps_ret pe_str)), ?_⟩
    by_cases hs : (Pd.tyN d == "tuple") = true
    · obtain ⟨ds, rfl⟩ := is_tuple hs
      cases z with
      | @tup ws _ zs =>
      cases zs with
      | nil =>
        refine run_ifs (ec_and (ec_val (ed_isTuple (ed_var rfl) (.tup .nil))) fun _ => (ec_and (b := false) (ec_test (ed_gt (ed_lenT (es_cons (ed_var rfl) es_nil)) ed_int)) fun h => by cases h)) (fun c => by cases c) (fun c => run_nexts (run_ret ed_str rfl))
      | @cons w0 wr d0 dr z0 zr =>
        refine run_ifs (ec_and (ec_val (ed_isTuple (ed_var rfl) (.tup (.cons z0 zr)))) fun _ => (ec_and (ec_test (ed_gt (ed_lenT (es_cons (ed_var rfl) es_nil)) ed_int)) fun _ => (ec_val (ed_isStr (ed_ixT (ed_var rfl) ed_int (by decide) rfl) z0)))) (fun c => ?_) (fun c => ?_)
        · have c2 := (Bool.and_eq_true_iff.mp (Bool.and_eq_true_iff.mp c).2).2
          obtain ⟨y, rfl⟩ := is_str c2
          cases z0
          exact run_ret (ed_ixT (ed_var rfl) ed_int (by decide) rfl) rfl
        · refine run_nexts (run_ret ed_str ?_)
          cases d0 with
          | str y =>
            have q : (decide ((0 : Int) < ((w0 :: wr).length : Int))) = true := decide_eq_true (by rw [List.length_cons]; omega)
            rw [q] at c
            cases c
          | _ => rfl
    · have hs' := Bool.eq_false_iff.mpr hs
      refine run_ifs (ec_and (b := false) (ec_val (ed_isTuple (ed_var rfl) z)) fun h => ?_) (fun c => ?_) (fun c => ?_)
      · rw [hs'] at h
        cases h
      · rw [Bool.and_false] at c
        cases c
      · refine run_nexts (run_ret ed_str ?_)
        rw [ntup_kind hs']

theorem sc_is_value : FnScope ["value"] ["value"] (defScope s_is_value) := ⟨rfl, rfl, rfl, by decide +kernel, rfl, by decide +kernel, by decide +kernel⟩
theorem ok_is_value {f : Addr} {fd : FuncData} (F : FnP K "is_value" s_is_value f fd) (g : mg "is_value" = some (.ref f))
    (z_len : mg "len" = none) (c_MOST_VALUE : ∃ t, mg "MOST_VALUE" = some (.int 40 t)) (D_is_printable : Def P w K mg base 1 "is_printable" ["value"] (spP K W_is_printable)) : Def P w K mg base 2 "is_value" ["value"] (spP K W_is_value) := by
  refine def_mk F g (F.bindsN fun _ _ _ _ _ _ us hl => match us, hl with | [_], _ => rfl) (fn_pure F sc_is_value ?_ ?_)
  · rintro _ _ _ ⟨⟩
    rfl
  · intro ds μ d W
    cases W
    rename_i x d k z
    intro cdv A outer s H E hr
    refine ⟨_, pss_one (ps_ret (pe_and (pe_callD D_is_printable (hr.mono (by decide)) rfl (pa_cons (pv 0) pa_nil)) (pe_one (pe_cmpR op_le (pe_callB cr_len (by rfl) z_len (by decide +kernel) (pa_cons (pv 0) pa_nil)) (pe_glob (v := V.int 40) rfl c_MOST_VALUE.choose_spec ⟨_, rfl⟩) (nomark _))))), ?_⟩
    by_cases hs : (Pd.tyN d == "str") = true
    · obtain ⟨y, rfl⟩ := is_str hs
      cases z
      exact run_ret (ed_and (ed_call (es_cons (ed_var rfl) es_nil) (W_is_printable.mk .str k)) fun _ => (ed_le (ed_lenS (es_cons (ed_var rfl) es_nil) (okS_sz (okD_str k))) ed_int)) rfl
    · have hs' := Bool.eq_false_iff.mpr hs
      refine run_ret (ed_and (b := false) (ed_call (es_cons (ed_var rfl) es_nil) (W_is_printable.mk z k)) fun h => ?_) ?_
      · rw [nstr_pr hs'] at h
        cases h
      · rw [nstr_val hs', Bool.and_false]

theorem sc_is_bound : FnScope ["value"] ["value"] (defScope s_is_bound) := ⟨rfl, rfl, rfl, by decide +kernel, rfl, by decide +kernel, by decide +kernel⟩
theorem ok_is_bound {f : Addr} {fd : FuncData} (F : FnP K "is_bound" s_is_bound f fd) (g : mg "is_bound" = some (.ref f))
    (z_isinstance : mg "isinstance" = none) (z_str : mg "str" = none) (D_is_key : Def P w K mg base 1 "is_key" ["value"] (spP K W_is_key)) : Def P w K mg base 2 "is_bound" ["value"] (spP K W_is_bound) := by
  refine def_mk F g (F.bindsN fun _ _ _ _ _ _ us hl => match us, hl with | [_], _ => rfl) (fn_pure F sc_is_bound ?_ ?_)
  · rintro _ _ _ ⟨⟩
    rfl
  · intro ds μ d W
    cases W
    rename_i x d k z
    intro cdv A outer s H E hr
    refine ⟨_, pss_one (ps_ret (pe_or (pe_callD D_is_key (hr.mono (by decide)) rfl (pa_cons (pv 0) pa_nil)) (pe_one (pe_and (pe_callB call_isi (by rfl) z_isinstance (by decide +kernel) (pa_cons (pv 0) (pa_cons (pe_bltn (v := V.ty "str") (by rfl) z_str (by decide +kernel) rfl) pa_nil))) (pe_one (pe_cmpR op_eq (pv 0) pe_str (nomark _))))))), ?_⟩
    by_cases hs : (Pd.tyN d == "str") = true
    · obtain ⟨y, rfl⟩ := is_str hs
      cases z
      exact run_ret (ed_or (ed_call (es_cons (ed_var rfl) es_nil) (W_is_key.mk .str k)) fun _ => ed_and (ed_isStr (ed_var rfl) .str) fun _ => ed_eqS (ed_var rfl) ed_str) rfl
    · have hs' := Bool.eq_false_iff.mpr hs
      refine run_ret (ed_or (ed_call (es_cons (ed_var rfl) es_nil) (W_is_key.mk z k)) fun _ => ed_and (b := false) (ed_isStr (ed_var rfl) z) fun h => absurd (hs'.symm.trans h) Bool.false_ne_true) ?_
      rw [hs', nstr_key hs', nstr_bound hs']
      rfl

theorem sc_is_range : FnScope ["low", "high"] ["low", "high"] (defScope s_is_range) := ⟨rfl, rfl, rfl, by decide +kernel, rfl, by decide +kernel, by decide +kernel⟩
theorem ok_is_range {f : Addr} {fd : FuncData} (F : FnP K "is_range" s_is_range f fd) (g : mg "is_range" = some (.ref f))
    (D_is_bound : Def P w K mg base 2 "is_bound" ["value"] (spP K W_is_bound)) (D_is_key : Def P w K mg base 1 "is_key" ["value"] (spP K W_is_key)) : Def P w K mg base 3 "is_range" ["low", "high"] (spP K W_is_range) := by
  refine def_mk F g (F.bindsN fun _ _ _ _ _ _ us hl => match us, hl with | [_, _], _ => rfl) (fn_pure F sc_is_range ?_ ?_)
  · rintro _ _ _ ⟨⟩
    rfl
  · intro ds μ d W
    cases W
    rename_i x y d e k k2 z z2
    intro cdv A outer s H E hr
    refine ⟨_, pss_cons (ps_if (pt_not (pt_val (pe_callD D_is_bound (hr.mono (by decide)) rfl (pa_cons (pv 0) pa_nil)))) (pss_one (ps_ret pe_bl)) pss_nil)
      (pss_one (ps_ret (pe_or (pe_cmpR op_isNo (pv 1) pe_non (nomark _)) (pe_one (pe_and (pe_callD D_is_key (hr.mono (by decide)) rfl (pa_cons (pv 1) pa_nil)) (pe_one (pe_cmpR op_ltS (pv 0) (pv 1) (nomark _)))))))), ?_⟩
    refine run_ifs (ec_not (ec_val (ed_call (es_cons (ed_var rfl) es_nil) (W_is_bound.mk z k)))) (fun c => ?_) (fun c => run_nexts ?_)
    · refine run_retS ed_bl ?_
      unfold rangeB
      rw [nt c]
      rfl
    · have hb : boundB d = true := nn c
      cases d with
      | str a =>
        cases z
        by_cases hk : keyB e = true
        · cases e with
          | str b =>
            cases z2
            refine run_ret (ed_or (ed_isN (ed_var rfl)) fun _ => ed_and (ed_call (es_cons (ed_var rfl) es_nil) (W_is_key.mk .str k2)) fun _ => ed_ltS (ed_var rfl) (ed_var rfl)) ?_
            unfold rangeB
            rw [hb]
            rfl
          | _ => cases hk
        · have hk' := Bool.eq_false_iff.mpr hk
          refine run_ret (ed_or (ed_isN (ed_var rfl)) fun _ => ed_and (b := false) (ed_call (es_cons (ed_var rfl) es_nil) (W_is_key.mk z2 k2)) fun h => absurd h hk) ?_
          unfold rangeB
          rw [hb, hk', isNone_dw z2]
          rfl
      | _ => cases hb

theorem sc_contains : FnScope ["low", "high", "bound"] ["low", "high", "bound"] (defScope s_contains) := ⟨rfl, rfl, rfl, by decide +kernel, rfl, by decide +kernel, by decide +kernel⟩
theorem ok_contains {f : Addr} {fd : FuncData} (F : FnP K "contains" s_contains f fd) (g : mg "contains" = some (.ref f))
    (D_below : Def P w K mg base 1 "below" ["one", "other"] (spP K W_below)) : Def P w K mg base 2 "contains" ["low", "high", "bound"] (spP K W_contains) := by
  refine def_mk F g (F.bindsN fun _ _ _ _ _ _ us hl => match us, hl with | [_, _, _], _ => rfl) (fn_pure F sc_contains ?_ ?_)
  · rintro _ _ _ ⟨⟩
    rfl
  · intro ds μ d W
    cases W
    rename_i a b hi
    intro cdv A outer s H E hr
    refine ⟨_, pss_one (ps_ret (pe_and (pe_cmpR op_leS (pv 0) (pv 2) (nomark _)) (pe_one (pe_callD D_below (hr.mono (by decide)) rfl (pa_cons (pv 2) (pa_cons (pv 1) pa_nil)))))), ?_⟩
    exact run_ret (ed_and (ed_leS (ed_var rfl) (ed_var rfl)) fun _ => ed_call (es_cons (ed_var rfl) (es_cons (ed_var rfl) es_nil)) (W_below.mk (a := some b))) rfl

theorem sc_is_integer : FnScope ["value", "least", "greatest"] ["value", "least", "greatest"] (defScope s_is_integer) := ⟨rfl, rfl, rfl, by decide +kernel, rfl, by decide +kernel, by decide +kernel⟩
theorem ok_is_integer {f : Addr} {fd : FuncData} (F : FnP K "is_integer" s_is_integer f fd) (g : mg "is_integer" = some (.ref f))
    (z_isinstance : mg "isinstance" = none) (z_bool : mg "bool" = none) (z_int : mg "int" = none) : Def P w K mg base 1 "is_integer" ["value", "least", "greatest"] (spP K W_is_integer) := by
  refine def_mk F g (F.bindsN fun _ _ _ _ _ _ us hl => match us, hl with | [_, _, _], _ => rfl) (fn_pure F sc_is_integer ?_ ?_)
  · rintro _ _ _ ⟨⟩
    rfl
  · intro ds μ d W
    cases W
    rename_i x d lo hi z
    intro cdv A outer s H E hr
    refine ⟨_, pss_cons (ps_if (PW.pt (pw_or (pt_not (pt_val (pe_callB call_isi (by rfl) z_isinstance (by decide +kernel) (pa_cons (pv 0) (pa_cons (pe_bltn (v := V.ty "int") (by rfl) z_int (by decide +kernel) rfl) pa_nil))))) (pw_or1 (pt_val (pe_callB call_isi (by rfl) z_isinstance (by decide +kernel) (pa_cons (pv 0) (pa_cons (pe_bltn (v := V.ty "bool") (by rfl) z_bool (by decide +kernel) rfl) pa_nil))))))) (pss_one (ps_ret pe_bl)) pss_nil)
      (pss_one (ps_ret (pe_chain op_le op_le (pv 1) (pv 0) (pv 2)))), ?_⟩
    cases d with
    | int i =>
      cases z
      exact run_ifs (ec_or (ec_not (ec_val (ed_isInt (ed_var rfl) .int))) fun _ => ec_val (ed_isBool (ed_var rfl) .int)) (fun c => absurd (show (!("int" == "int" || "int" == "bool") || ("int" == "bool")) = true from c) (by decide +kernel)) (fun _ => run_nexts (run_ret (ed_chain (ed_var rfl) (ed_var rfl) (ed_var rfl) ch_le ch_le) rfl))
    | none => exact run_ifs (ec_or (ec_not (ec_val (ed_isInt (ed_var rfl) z))) fun _ => ec_val (ed_isBool (ed_var rfl) z)) (fun c => run_retS ed_bl rfl) (fun c => absurd (show (!("NoneType" == "int" || "NoneType" == "bool") || ("NoneType" == "bool")) = false from c) (by decide +kernel))
    | bool b => exact run_ifs (ec_or (ec_not (ec_val (ed_isInt (ed_var rfl) z))) fun _ => ec_val (ed_isBool (ed_var rfl) z)) (fun c => run_retS ed_bl rfl) (fun c => absurd (show (!("bool" == "int" || "bool" == "bool") || ("bool" == "bool")) = false from c) (by decide +kernel))
    | str y => exact run_ifs (ec_or (ec_not (ec_val (ed_isInt (ed_var rfl) z))) fun _ => ec_val (ed_isBool (ed_var rfl) z)) (fun c => run_retS ed_bl rfl) (fun c => absurd (show (!("str" == "int" || "str" == "bool") || ("str" == "bool")) = false from c) (by decide +kernel))
    | list y => exact run_ifs (ec_or (ec_not (ec_val (ed_isInt (ed_var rfl) z))) fun _ => ec_val (ed_isBool (ed_var rfl) z)) (fun c => run_retS ed_bl rfl) (fun c => absurd (show (!("list" == "int" || "list" == "bool") || ("list" == "bool")) = false from c) (by decide +kernel))
    | tuple y => exact run_ifs (ec_or (ec_not (ec_val (ed_isInt (ed_var rfl) z))) fun _ => ec_val (ed_isBool (ed_var rfl) z)) (fun c => run_retS ed_bl rfl) (fun c => absurd (show (!("tuple" == "int" || "tuple" == "bool") || ("tuple" == "bool")) = false from c) (by decide +kernel))
    | dict y => exact absurd (dw_notD z) (fun h => h)

theorem sc__is_key_alone : FnScope ["op"] ["op"] (defScope s__is_key_alone) := ⟨rfl, rfl, rfl, by decide +kernel, rfl, by decide +kernel, by decide +kernel⟩
theorem ok__is_key_alone {f : Addr} {fd : FuncData} (F : FnP K "_is_key_alone" s__is_key_alone f fd) (g : mg "_is_key_alone" = some (.ref f))
    (D_is_key : Def P w K mg base 1 "is_key" ["value"] (spP K W_is_key)) (z_len : mg "len" = none) : Def P w K mg base 2 "_is_key_alone" ["op"] (spP K W__is_key_alone) := by
  refine def_mk F g (F.bindsN fun _ _ _ _ _ _ us hl => match us, hl with | [_], _ => rfl) (fn_pure F sc__is_key_alone ?_ ?_)
  · rintro _ _ _ ⟨⟩
    rfl
  · intro ds μ d W
    cases W
    rename_i ws ds k z
    intro cdv A outer s H E hr
    refine ⟨_, pss_one (ps_ret (pe_and (pe_cmpR op_eq (pe_callB cr_len (by rfl) z_len (by decide +kernel) (pa_cons (pv 0) pa_nil)) pe_int (nomark _)) (pe_one (pe_callD D_is_key (hr.mono (by decide)) rfl (pa_cons (pe_ix ix_tup (pv 0) pe_int (fun _ _ => rfl)) pa_nil))))), ?_⟩
    refine run_ret (ed_and (ed_eqI (ed_lenT (es_cons (ed_var rfl) es_nil)) ed_int) fun h => (ed_call (es_cons (ed_at 1 (ed_var rfl) ed_int h) es_nil) (W_is_key.mk (dw_nth 1 z) (ok_nth 1 k)))) ?_
    unfold keyAloneB
    rw [dw_len z]

theorem sc__is_put : FnScope ["op"] ["op"] (defScope s__is_put) := ⟨rfl, rfl, rfl, by decide +kernel, rfl, by decide +kernel, by decide +kernel⟩
theorem ok__is_put {f : Addr} {fd : FuncData} (F : FnP K "_is_put" s__is_put f fd) (g : mg "_is_put" = some (.ref f))
    (D_is_value : Def P w K mg base 2 "is_value" ["value"] (spP K W_is_value)) (D_is_key : Def P w K mg base 1 "is_key" ["value"] (spP K W_is_key)) (z_len : mg "len" = none) : Def P w K mg base 3 "_is_put" ["op"] (spP K W__is_put) := by
  refine def_mk F g (F.bindsN fun _ _ _ _ _ _ us hl => match us, hl with | [_], _ => rfl) (fn_pure F sc__is_put ?_ ?_)
  · rintro _ _ _ ⟨⟩
    rfl
  · intro ds μ d W
    cases W
    rename_i ws ds k z
    intro cdv A outer s H E hr
    refine ⟨_, pss_one (ps_ret (pe_and (pe_cmpR op_eq (pe_callB cr_len (by rfl) z_len (by decide +kernel) (pa_cons (pv 0) pa_nil)) pe_int (nomark _)) (pe_and (pe_callD D_is_key (hr.mono (by decide)) rfl (pa_cons (pe_ix ix_tup (pv 0) pe_int (fun _ _ => rfl)) pa_nil)) (pe_one (pe_callD D_is_value (hr.mono (by decide)) rfl (pa_cons (pe_ix ix_tup (pv 0) pe_int (fun _ _ => rfl)) pa_nil)))))), ?_⟩
    refine run_ret (ed_and (ed_eqI (ed_lenT (es_cons (ed_var rfl) es_nil)) ed_int) fun h => (ed_and (ed_call (es_cons (ed_at 1 (ed_var rfl) ed_int h) es_nil) (W_is_key.mk (dw_nth 1 z) (ok_nth 1 k))) fun _ => (ed_call (es_cons (ed_at 2 (ed_var rfl) ed_int h) es_nil) (W_is_value.mk (dw_nth 2 z) (ok_nth 2 k))))) ?_
    unfold putB
    rw [dw_len z]

theorem sc__is_swap : FnScope ["op"] ["op"] (defScope s__is_swap) := ⟨rfl, rfl, rfl, by decide +kernel, rfl, by decide +kernel, by decide +kernel⟩
theorem ok__is_swap {f : Addr} {fd : FuncData} (F : FnP K "_is_swap" s__is_swap f fd) (g : mg "_is_swap" = some (.ref f))
    (D_is_value : Def P w K mg base 2 "is_value" ["value"] (spP K W_is_value)) (D_is_key : Def P w K mg base 1 "is_key" ["value"] (spP K W_is_key)) (z_len : mg "len" = none) : Def P w K mg base 3 "_is_swap" ["op"] (spP K W__is_swap) := by
  refine def_mk F g (F.bindsN fun _ _ _ _ _ _ us hl => match us, hl with | [_], _ => rfl) (fn_pure F sc__is_swap ?_ ?_)
  · rintro _ _ _ ⟨⟩
    rfl
  · intro ds μ d W
    cases W
    rename_i ws ds k z
    intro cdv A outer s H E hr
    refine ⟨_, pss_one (ps_ret (pe_and (pe_cmpR op_eq (pe_callB cr_len (by rfl) z_len (by decide +kernel) (pa_cons (pv 0) pa_nil)) pe_int (nomark _)) (pe_and (pe_callD D_is_key (hr.mono (by decide)) rfl (pa_cons (pe_ix ix_tup (pv 0) pe_int (fun _ _ => rfl)) pa_nil)) (pe_and (pe_callD D_is_value (hr.mono (by decide)) rfl (pa_cons (pe_ix ix_tup (pv 0) pe_int (fun _ _ => rfl)) pa_nil)) (pe_one (pe_callD D_is_value (hr.mono (by decide)) rfl (pa_cons (pe_ix ix_tup (pv 0) pe_int (fun _ _ => rfl)) pa_nil))))))), ?_⟩
    refine run_ret (ed_and (ed_eqI (ed_lenT (es_cons (ed_var rfl) es_nil)) ed_int) fun h => (ed_and (ed_call (es_cons (ed_at 1 (ed_var rfl) ed_int h) es_nil) (W_is_key.mk (dw_nth 1 z) (ok_nth 1 k))) fun _ => (ed_and (ed_call (es_cons (ed_at 2 (ed_var rfl) ed_int h) es_nil) (W_is_value.mk (dw_nth 2 z) (ok_nth 2 k))) fun _ => (ed_call (es_cons (ed_at 3 (ed_var rfl) ed_int h) es_nil) (W_is_value.mk (dw_nth 3 z) (ok_nth 3 k)))))) ?_
    unfold swapB
    rw [dw_len z]

theorem sc__is_page : FnScope ["op"] ["op"] (defScope s__is_page) := ⟨rfl, rfl, rfl, by decide +kernel, rfl, by decide +kernel, by decide +kernel⟩
theorem ok__is_page {f : Addr} {fd : FuncData} (F : FnP K "_is_page" s__is_page f fd) (g : mg "_is_page" = some (.ref f))
    (D_is_integer : Def P w K mg base 1 "is_integer" ["value", "least", "greatest"] (spP K W_is_integer)) (c_MOST_PAGE : ∃ t, mg "MOST_PAGE" = some (.int 50 t)) (D_is_bound : Def P w K mg base 2 "is_bound" ["value"] (spP K W_is_bound)) (z_len : mg "len" = none) : Def P w K mg base 3 "_is_page" ["op"] (spP K W__is_page) := by
  refine def_mk F g (F.bindsN fun _ _ _ _ _ _ us hl => match us, hl with | [_], _ => rfl) (fn_pure F sc__is_page ?_ ?_)
  · rintro _ _ _ ⟨⟩
    rfl
  · intro ds μ d W
    cases W
    rename_i ws ds k z
    intro cdv A outer s H E hr
    refine ⟨_, pss_one (ps_ret (pe_and (pe_cmpR op_eq (pe_callB cr_len (by rfl) z_len (by decide +kernel) (pa_cons (pv 0) pa_nil)) pe_int (nomark _)) (pe_and (pe_callD D_is_bound (hr.mono (by decide)) rfl (pa_cons (pe_ix ix_tup (pv 0) pe_int (fun _ _ => rfl)) pa_nil)) (pe_one (pe_callD D_is_integer (hr.mono (by decide)) rfl (pa_cons (pe_ix ix_tup (pv 0) pe_int (fun _ _ => rfl)) (pa_cons pe_int (pa_cons (pe_glob (v := V.int 50) rfl c_MOST_PAGE.choose_spec ⟨_, rfl⟩) pa_nil)))))))), ?_⟩
    refine run_ret (ed_and (ed_eqI (ed_lenT (es_cons (ed_var rfl) es_nil)) ed_int) fun h => (ed_and (ed_call (es_cons (ed_at 1 (ed_var rfl) ed_int h) es_nil) (W_is_bound.mk (dw_nth 1 z) (ok_nth 1 k))) fun _ => (ed_call (es_cons (ed_at 2 (ed_var rfl) ed_int h) (es_cons ed_int (es_cons ed_int es_nil))) (W_is_integer.mk (dw_nth 2 z))))) ?_
    unfold pageOpB
    rw [dw_len z]

theorem sc_is_operation : FnScope ["value", "kind", "check"] ["value"] (defScope s_is_operation) := ⟨rfl, rfl, rfl, by decide +kernel, rfl, by decide +kernel, by decide +kernel⟩
theorem ok_is_operation {f : Addr} {fd : FuncData} (F : FnP K "is_operation" s_is_operation f fd) (g : mg "is_operation" = some (.ref f))
    (t_OPERATIONS : TabOf K w mg "OPERATIONS" [("get", "_is_key_alone"), ("put", "_is_put"), ("drop", "_is_key_alone"), ("swap", "_is_swap"), ("page", "_is_page")]) (D_kind_of : Def P w K mg base 1 "kind_of" ["value"] (spP K W_kind_of)) (D__is_key_alone : Def P w K mg base 2 "_is_key_alone" ["op"] (spP K W__is_key_alone)) (D__is_put : Def P w K mg base 3 "_is_put" ["op"] (spP K W__is_put)) (D__is_swap : Def P w K mg base 3 "_is_swap" ["op"] (spP K W__is_swap)) (D__is_page : Def P w K mg base 3 "_is_page" ["op"] (spP K W__is_page)) : Def P w K mg base 4 "is_operation" ["value"] (spP K W_is_operation) := by
  refine def_mk F g (F.bindsN fun _ _ _ _ _ _ us hl => match us, hl with | [_], _ => rfl) (fn_pure F sc_is_operation ?_ ?_)
  · rintro _ _ _ ⟨⟩
    rfl
  · intro ds μ d W
    cases W
    rename_i x d k z
    intro cdv A outer s H E hr
    obtain ⟨aA, kvs, gA, T, hkeys, hvals⟩ := t_OPERATIONS.ex
    have keyIs : kvs.map (·.1) = (["get", "put", "drop", "swap", "page"] : List Str) := hkeys
    by_cases hin : kindS d ∈ (["get", "put", "drop", "swap", "page"] : List Str)
    · have go : ∀ (n : Nat) (y : Str) (Wf : List W → Mu → W → Prop), n ≤ 3 → Def P w K mg base n y ["op"] (spP K Wf) → (kindS d, y) ∈ ([("get", "_is_key_alone"), ("put", "_is_put"), ("drop", "_is_key_alone"), ("swap", "_is_swap"), ("page", "_is_page")] : List (Str × Str)) → Wf [x] μ (.bl (opB d)) →
          ∃ t, PSs (cxOf CX0 P w K mg base ["value", "kind", "check"] "is_operation" (defScope s_is_operation) f cdv A outer s H E).nox (defBody s_is_operation) t ∧ Run K t (rho0 3 [x]) μ (fun _ => W.bl (opB d) = .non) (fun e => e = W.bl (opB d)) := by
        intro n y Wf hn D hp hw
        obtain ⟨f1, fd1, h1, g1, kp1, b1⟩ := D.ex
        obtain ⟨f2, g2, hkv⟩ := hvals _ hp
        have ef : f1 = f2 := by
          have q := g1.symm.trans g2
          cases q
          rfl
        subst ef
        refine ⟨_, pss_cons (ps_set (i := 1) sc_is_operation.nd rfl (Or.inl rfl) (pe_callD D_kind_of (hr.mono (by decide)) rfl (pa_cons (pv 0) pa_nil)))
          (pss_cons (ps_if (pt_cmpR (op_notInK T) (pv 1) (pe_glob (v := V.ref aA) rfl gA rfl) (by rfl)) (pss_one (ps_ret pe_bl)) pss_nil)
          (pss_cons (ps_set (i := 2) sc_is_operation.nd rfl (Or.inl rfl) (pe_ix ix_kdict (pe_glob (v := V.ref aA) rfl gA rfl) (pv 1) (fun _ _ => rfl)))
          (pss_one (ps_ret (pe_callL (i := 2) (E := E0) h1 (hr.mono hn) rfl (Or.inl rfl) kp1 b1 .nil pass0 (pa_cons (pv 0) pa_nil)))))), ?_⟩
        refine run_set (ed_call (es_cons (ed_var rfl) es_nil) (W_kind_of.mk z k)) ?_
        refine run_ifs (ec_test (ed_notInK T (ed_var rfl))) (fun cc => ?_) (fun cc => run_nexts ?_)
        · rw [keyIs, decide_eq_true hin] at cc
          cases cc
        · exact run_disp T hkv (ed_var rfl) (Nat.lt_of_lt_of_le (by decide : 2 < 3) (Nat.le_of_eq rfl)) (es_cons (ed_var rfl) es_nil) hw rfl
      have hin2 := hin
      simp only [List.mem_cons, List.not_mem_nil, or_false] at hin2
      rcases hin2 with hk | hk | hk | hk | hk
      · obtain ⟨r, rfl⟩ := kind_tup hk (by decide +kernel)
        cases z with
        | tup zs =>
          have q := W__is_key_alone.mk zs (okD_tup k)
          have e : keyAloneB (.str "get" :: r) = opB (.tuple (.str "get" :: r)) := by
            unfold opB
            rw [hk]
            rfl
          rw [e] at q
          exact go 2 "_is_key_alone" W__is_key_alone (by decide) D__is_key_alone (by rw [hk]; simp) q
      · obtain ⟨r, rfl⟩ := kind_tup hk (by decide +kernel)
        cases z with
        | tup zs =>
          have q := W__is_put.mk zs (okD_tup k)
          have e : putB (.str "put" :: r) = opB (.tuple (.str "put" :: r)) := by
            unfold opB
            rw [hk]
            rfl
          rw [e] at q
          exact go 3 "_is_put" W__is_put (by decide) D__is_put (by rw [hk]; simp) q
      · obtain ⟨r, rfl⟩ := kind_tup hk (by decide +kernel)
        cases z with
        | tup zs =>
          have q := W__is_key_alone.mk zs (okD_tup k)
          have e : keyAloneB (.str "drop" :: r) = opB (.tuple (.str "drop" :: r)) := by
            unfold opB
            rw [hk]
            rfl
          rw [e] at q
          exact go 2 "_is_key_alone" W__is_key_alone (by decide) D__is_key_alone (by rw [hk]; simp) q
      · obtain ⟨r, rfl⟩ := kind_tup hk (by decide +kernel)
        cases z with
        | tup zs =>
          have q := W__is_swap.mk zs (okD_tup k)
          have e : swapB (.str "swap" :: r) = opB (.tuple (.str "swap" :: r)) := by
            unfold opB
            rw [hk]
            rfl
          rw [e] at q
          exact go 3 "_is_swap" W__is_swap (by decide) D__is_swap (by rw [hk]; simp) q
      · obtain ⟨r, rfl⟩ := kind_tup hk (by decide +kernel)
        cases z with
        | tup zs =>
          have q := W__is_page.mk zs (okD_tup k)
          have e : pageOpB (.str "page" :: r) = opB (.tuple (.str "page" :: r)) := by
            unfold opB
            rw [hk]
            rfl
          rw [e] at q
          exact go 3 "_is_page" W__is_page (by decide) D__is_page (by rw [hk]; simp) q
    · refine ⟨_, pss_cons (ps_set (i := 1) sc_is_operation.nd rfl (Or.inl rfl) (pe_callD D_kind_of (hr.mono (by decide)) rfl (pa_cons (pv 0) pa_nil)))
        (pss_cons (ps_if (pt_cmpR (op_notInK T) (pv 1) (pe_glob (v := V.ref aA) rfl gA rfl) (by rfl)) (pss_one (ps_ret pe_bl)) pss_nil) pss_never), ?_⟩
      refine run_set (ed_call (es_cons (ed_var rfl) es_nil) (W_kind_of.mk z k)) ?_
      refine run_ifs (ec_test (ed_notInK T (ed_var rfl))) (fun cc => ?_) (fun cc => ?_)
      · refine run_ret ed_bl ?_
        have e : opB d = false := by
          simp only [List.mem_cons, List.not_mem_nil, or_false, not_or] at hin
          obtain ⟨h1, h2, h3, h4, h5⟩ := hin
          unfold opB
          rw [if_neg (fun q => q.elim h1 h3), if_neg h2, if_neg h4, if_neg h5]
        rw [e]
      · rw [keyIs, decide_eq_false hin] at cc
        cases cc

theorem sc_place : FnScope ["op"] ["op"] (defScope s_place) := ⟨rfl, rfl, rfl, by decide +kernel, rfl, by decide +kernel, by decide +kernel⟩
theorem ok_place {f : Addr} {fd : FuncData} (F : FnP K "place" s_place f fd) (g : mg "place" = some (.ref f))
    (D_is_operation : Def P w K mg base 4 "is_operation" ["value"] (spP K W_is_operation)) (x_BadOperation : ExcOf K mg "BadOperation" (He.ga K "BadOperation")) : DefN P w K mg base 5 "place" ["op"] (spP K W_place) := by
  refine defN_mk F g (F.bindsN fun _ _ _ _ _ _ us hl => match us, hl with | [_], _ => rfl) (fn_pureN F sc_place ?_ ?_)
  · rintro _ _ _ ⟨⟩
    rfl
  · intro ds μ d W
    cases W
    rename_i op ho hv
    intro cdv A outer s H E hr
    refine ⟨_, pss_cons (ps_if (pt_not (pt_val (pe_callD D_is_operation (hr.mono (by decide)) rfl (pa_cons (pv 0) pa_nil)))) (pss_one (ps_ownN x_BadOperation rfl (L2N.takes_of rfl rfl rfl rfl) rfl)) pss_nil)
      (pss_one (ps_ret (pe_ix ix_tup (pv 0) pe_int (fun _ _ => rfl)))), ?_⟩
    refine run_ifs (ec_not (ec_val (ed_call (es_cons (ed_var rfl) es_nil) (W_is_operation.mk (opD_dw op μ) (opD_ok ho))))) (fun q => ?_) (fun q => run_nexts ?_)
    · have q2 : (!opB (opD op)) = true := q
      rw [opB_of hv] at q2
      cases q2
    obtain ⟨kd, rest, e⟩ := opW_two op
    exact run_ret (ed_ixT (xs := .str kd :: .str (placeF op) :: rest) (e ▸ ed_var rfl) ed_int (by decide) rfl) rfl

theorem sc_is_within : FnScope ["op", "low", "high"] ["op", "low", "high"] (defScope s_is_within) := ⟨rfl, rfl, rfl, by decide +kernel, rfl, by decide +kernel, by decide +kernel⟩
theorem ok_is_within {f : Addr} {fd : FuncData} (F : FnP K "is_within" s_is_within f fd) (g : mg "is_within" = some (.ref f))
    (D_contains : Def P w K mg base 2 "contains" ["low", "high", "bound"] (spP K W_contains)) (D_place : DefN P w K mg base 5 "place" ["op"] (spP K W_place)) : Def P w K mg base 6 "is_within" ["op", "low", "high"] (spP K W_is_within) := by
  refine def_mk F g (F.bindsN fun _ _ _ _ _ _ us hl => match us, hl with | [_, _, _], _ => rfl) (fn_pure F sc_is_within ?_ ?_)
  · rintro _ _ _ ⟨⟩
    rfl
  · intro ds μ d W
    cases W
    rename_i op lo hi ho hv
    intro cdv A outer s H E hr
    refine ⟨_, pss_one (ps_ret (pe_callD D_contains (hr.mono (by decide)) rfl (pa_cons (pv 1) (pa_cons (pv 2) (pa_cons (pe_callN D_place (hr.mono (by decide)) rfl (pa_cons (pv 0) pa_nil)) pa_nil))))), ?_⟩
    exact run_ret (ed_call (es_cons (ed_var rfl) (es_cons (ed_var rfl) (es_cons (ed_call (es_cons (ed_var rfl) es_nil) (W_place.mk ho hv)) es_nil))) W_contains.mk) rfl

theorem sc__get : FnScope ["items", "op", "high"] ["items", "op", "high"] (defScope s__get) := ⟨rfl, rfl, rfl, by decide +kernel, rfl, by decide +kernel, by decide +kernel⟩
theorem ok__get {f : Addr} {fd : FuncData} (F : FnP K "_get" s__get f fd) (g : mg "_get" = some (.ref f))
    (u_NONE : TupOf K mg "NONE" ["none"]) : Def P w K mg base 1 "_get" ["items", "op", "high"] (spM K W__get) := by
  refine def_mk F g (F.bindsN fun _ _ _ _ _ _ us hl => match us, hl with | [_, _, _], _ => rfl) (fn_mut F sc__get ?_ ?_)
  · rintro _ _ _ _ ⟨⟩
    rfl
  · intro ds μ Pq X W
    cases W
    rename_i a m k high l p
    intro cdv A outer s H E hr
    refine ⟨_, pss_cons (ps_if (pt_cmp (pc_dnotin (hu_of hr) (pe_ix ix_tup (pv 1) pe_int (fun _ _ => rfl)) (pv 0))) (pss_one (ps_ret (pe_glob (v := V.ref u_NONE.ex.choose) rfl u_NONE.ex.choose_spec.1 rfl))) pss_nil)
      (pss_one (ps_ret (pe_tup (pa_cons pe_str (pa_cons (pe_dget (hu_of hr) (pv 0) (pe_ix ix_tup (pv 1) pe_int (fun _ _ => rfl)) (fun _ _ => rfl)) pa_nil))))), ?_⟩
    refine rm_ifs (ec_val (ed_dnotin (k := Sum.inr k) (ed_ixT (xs := [.str "get", .str k]) (ed_var rfl) ed_int (by decide) rfl) (ed_var rfl) l)) (fun c => ?_) (fun c => rm_nexts ?_)
    · rw [encS_val] at c
      cases e : valS m k with
      | some v =>
        rw [e] at c
        cases c
      | none =>
        refine rm_retS (ed_gtup u_NONE) ?_
        have z := p μ (upd_refl l)
        rw [rg0 e] at z
        exact z
    · rw [encS_val] at c
      cases e : valS m k with
      | none =>
        rw [e] at c
        cases c
      | some v =>
        refine rm_ret (ed_tup (es_cons ed_str (es_cons (ed_dget (k := Sum.inr k) (x := .str v) (ed_var rfl) (ed_ixT (xs := [.str "get", .str k]) (ed_var rfl) ed_int (by decide) rfl) l (by rw [encS_val, e]; rfl)) es_nil)) (Nat.le_of_ble_eq_true rfl)) ?_
        have z := p μ (upd_refl l)
        rw [rg1 e] at z
        exact z

theorem sc__put : FnScope ["items", "op", "high"] ["items", "op", "high"] (defScope s__put) := ⟨rfl, rfl, rfl, by decide +kernel, rfl, by decide +kernel, by decide +kernel⟩
theorem ok__put {f : Addr} {fd : FuncData} (F : FnP K "_put" s__put f fd) (g : mg "_put" = some (.ref f))
    (u_DONE : TupOf K mg "DONE" ["done"]) : Def P w K mg base 1 "_put" ["items", "op", "high"] (spM K W__put) := by
  refine def_mk F g (F.bindsN fun _ _ _ _ _ _ us hl => match us, hl with | [_, _, _], _ => rfl) (fn_mut F sc__put ?_ ?_)
  · rintro _ _ _ _ ⟨⟩
    rfl
  · intro ds μ Pq X W
    cases W
    rename_i a m k v high hm l p
    intro cdv A outer s H E hr
    refine ⟨_, pss_cons (ps_dput (hu_of hr) (pv 0) (pe_ix ix_tup (pv 1) pe_int (fun _ _ => rfl)) (pe_ix ix_tup (pv 1) pe_int (fun _ _ => rfl)) rfl)
      (pss_one (ps_ret (pe_glob (v := V.ref u_DONE.ex.choose) rfl u_DONE.ex.choose_spec.1 rfl))), ?_⟩
    refine rm_dput (k := Sum.inr k) (x := .str v) (kvs := encS m) (ed_ixT (xs := [.str "put", .str k, .str v]) (ed_var rfl) ed_int (by decide) rfl) (ed_var rfl) (ed_ixT (xs := [.str "put", .str k, .str v]) (ed_var rfl) ed_int (by decide) rfl) l ?_ ?_
    · unfold encS
      rw [List.length_map]
      omega
    · rw [encS_put]
      exact rm_ret (ed_gtup u_DONE) (p _ Upd.set)

theorem sc__drop : FnScope ["items", "op", "high"] ["items", "op", "high"] (defScope s__drop) := ⟨rfl, rfl, rfl, by decide +kernel, rfl, by decide +kernel, by decide +kernel⟩
theorem ok__drop {f : Addr} {fd : FuncData} (F : FnP K "_drop" s__drop f fd) (g : mg "_drop" = some (.ref f))
    (u_NONE : TupOf K mg "NONE" ["none"]) (u_DONE : TupOf K mg "DONE" ["done"]) : Def P w K mg base 1 "_drop" ["items", "op", "high"] (spM K W__drop) := by
  refine def_mk F g (F.bindsN fun _ _ _ _ _ _ us hl => match us, hl with | [_, _, _], _ => rfl) (fn_mut F sc__drop ?_ ?_)
  · rintro _ _ _ _ ⟨⟩
    rfl
  · intro ds μ Pq X W
    cases W
    rename_i a m k high l p
    intro cdv A outer s H E hr
    refine ⟨_, pss_cons (ps_if (pt_cmp (pc_dnotin (hu_of hr) (pe_ix ix_tup (pv 1) pe_int (fun _ _ => rfl)) (pv 0))) (pss_one (ps_ret (pe_glob (v := V.ref u_NONE.ex.choose) rfl u_NONE.ex.choose_spec.1 rfl))) pss_nil)
      (pss_cons (ps_ddel (pv 0) (pe_ix ix_tup (pv 1) pe_int (fun _ _ => rfl)))
      (pss_one (ps_ret (pe_glob (v := V.ref u_DONE.ex.choose) rfl u_DONE.ex.choose_spec.1 rfl)))), ?_⟩
    refine rm_ifs (ec_val (ed_dnotin (k := Sum.inr k) (ed_ixT (xs := [.str "drop", .str k]) (ed_var rfl) ed_int (by decide) rfl) (ed_var rfl) l)) (fun c => ?_) (fun c => rm_nexts ?_)
    · rw [encS_val] at c
      cases e : valS m k with
      | some v =>
        rw [e] at c
        cases c
      | none =>
        refine rm_retS (ed_gtup u_NONE) ?_
        have em : resM m (.drop k) = m := valS_none e
        rw [em, rd0 e] at p
        exact p μ (upd_refl l)
    · rw [encS_val] at c
      cases e : valS m k with
      | none =>
        rw [e] at c
        cases c
      | some v =>
        refine rm_ddel (k := Sum.inr k) (kvs := encS m) (ed_var rfl) (ed_ixT (xs := [.str "drop", .str k]) (ed_var rfl) ed_int (by decide) rfl) l (by rw [encS_val, e]; rfl) ?_
        rw [encS_drop]
        rw [rd1 e] at p
        exact rm_ret (ed_gtup u_DONE) (p _ Upd.set)

theorem sc__swap : FnScope ["items", "op", "high", "_", "key", "old", "new"] ["items", "op", "high"] (defScope s__swap) := ⟨rfl, rfl, rfl, by decide +kernel, rfl, by decide +kernel, by decide +kernel⟩
theorem ok__swap {f : Addr} {fd : FuncData} (F : FnP K "_swap" s__swap f fd) (g : mg "_swap" = some (.ref f))
    (u_NONE : TupOf K mg "NONE" ["none"]) (u_DONE : TupOf K mg "DONE" ["done"]) : Def P w K mg base 1 "_swap" ["items", "op", "high"] (spM K W__swap) := by
  refine def_mk F g (F.bindsN fun _ _ _ _ _ _ us hl => match us, hl with | [_, _, _], _ => rfl) (fn_mut F sc__swap ?_ ?_)
  · rintro _ _ _ _ ⟨⟩
    rfl
  · intro ds μ Pq X W
    cases W
    rename_i a m k o n high hm l p
    intro cdv A outer s H E hr
    refine ⟨_, pss_cons (ps_asg (pv 1) (pg_tup (by rfl) (pgs_cons (pg_name (i := 3) sc__swap.nd rfl (Or.inl rfl)) (pgs_cons (pg_name (i := 4) sc__swap.nd rfl (Or.inl rfl)) (pgs_cons (pg_name (i := 5) sc__swap.nd rfl (Or.inl rfl)) (pgs_cons (pg_name (i := 6) sc__swap.nd rfl (Or.inl rfl)) pgs_nil))))))
      (pss_cons (ps_if (pt_cmp (pc_dnotin (hu_of hr) (pv 4) (pv 0))) (pss_one (ps_ret (pe_glob (v := V.ref u_NONE.ex.choose) rfl u_NONE.ex.choose_spec.1 rfl))) pss_nil)
      (pss_cons (ps_if (pt_cmpR op_ne (pe_dget (hu_of hr) (pv 0) (pv 4) (fun _ _ => rfl)) (pv 5) (nomark _)) (pss_one (ps_ret (pe_tup (pa_cons pe_str (pa_cons (pe_dget (hu_of hr) (pv 0) (pv 4) (fun _ _ => rfl)) pa_nil))))) pss_nil)
      (pss_cons (ps_dput (hu_of hr) (pv 0) (pv 4) (pv 6) rfl)
      (pss_one (ps_ret (pe_glob (v := V.ref u_DONE.ex.choose) rfl u_DONE.ex.choose_spec.1 rfl)))))), ?_⟩
    refine rm_quad (x := .str "swap") (y := .str k) (z := .str o) (s := .str n) (ed_var rfl) ?_
    refine rm_ifs (ec_val (ed_dnotin (k := Sum.inr k) (ed_var rfl) (ed_var rfl) l)) (fun c => ?_) (fun c => rm_nexts ?_)
    · rw [encS_val] at c
      cases e : valS m k with
      | some v =>
        rw [e] at c
        cases c
      | none =>
        refine rm_retS (ed_gtup u_NONE) ?_
        rw [ms0 e, rs0 e] at p
        exact p μ (upd_refl l)
    · rw [encS_val] at c
      cases e : valS m k with
      | none =>
        rw [e] at c
        cases c
      | some v =>
        have ev : valW (encS m) (Sum.inr k) = some (.str v) := by rw [encS_val, e]; rfl
        refine rm_ifs (ec_test (ed_neS (ed_dget (k := Sum.inr k) (ed_var rfl) (ed_var rfl) l ev) (ed_var rfl))) (fun c2 => ?_) (fun c2 => rm_nexts ?_)
        · have c3 : ¬ v = o := fun q => by
            rw [decide_eq_true q] at c2
            cases c2
          rw [ms2 e c3, rs2 e c3] at p
          exact rm_retS (ed_tup (es_cons ed_str (es_cons (ed_dget (k := Sum.inr k) (ed_var rfl) (ed_var rfl) l ev) es_nil)) (Nat.le_of_ble_eq_true rfl)) (p μ (upd_refl l))
        · have c3 : v = o := by
            by_cases q : v = o
            · exact q
            · rw [decide_eq_false q] at c2
              cases c2
          rw [ms1 e c3, rs1 e c3] at p
          refine rm_dput (k := Sum.inr k) (x := .str n) (kvs := encS m) (ed_var rfl) (ed_var rfl) (ed_var rfl) l ?_ ?_
          · unfold encS
            rw [List.length_map]
            omega
          · rw [encS_put]
            exact rm_ret (ed_gtup u_DONE) (p _ Upd.set)

theorem sc__page : FnScope ["items", "op", "high", "keys", "pairs", "_", "low", "limit", "key"] ["items", "op", "high"] (defScope s__page) := ⟨rfl, rfl, rfl, by decide +kernel, rfl, by decide +kernel, by decide +kernel⟩
theorem ok__page {f : Addr} {fd : FuncData} (F : FnP K "_page" s__page f fd) (g : mg "_page" = some (.ref f))
    (z_sorted : mg "sorted" = none) (z_tuple : mg "tuple" = none) (z_len : mg "len" = none) : Def P w K mg base 1 "_page" ["items", "op", "high"] (spM K W__page) := by
  refine def_mk F g (F.bindsN fun _ _ _ _ _ _ us hl => match us, hl with | [_, _, _], _ => rfl) (fn_mut F sc__page ?_ ?_)
  · rintro _ _ _ _ ⟨⟩
    rfl
  · intro ds μ Pq X W
    cases W
    rename_i a m low limit high hm hl l p
    intro cdv A outer s H E hr
    refine ⟨_, pss_cons (ps_asg (pv 1) (pg_tup (by rfl) (pgs_cons (pg_name (i := 5) sc__page.nd rfl (Or.inl rfl)) (pgs_cons (pg_name (i := 6) sc__page.nd rfl (Or.inr rfl)) (pgs_cons (pg_name (i := 7) sc__page.nd rfl (Or.inl rfl)) pgs_nil)))))
      (pss_cons (ps_set (i := 3) sc__page.nd rfl (Or.inl rfl) (pe_callB cr_srtSA (by rfl) z_sorted (by decide +kernel) (pa_cons (pe_lock (pe_lc (own := [("key", 8)]) (g := gName 8) (by rfl) sc__page.nd (pi_keys (pv 0)) (blkOk_by (own := [("key", 8)]) (N := ["items", "op", "high", "keys", "pairs", "_", "low", "limit", "key"]) (sc := defScope s__page) (by decide +kernel)) (fun _ _ _ _ _ => pg_name (i := 8) sc__page.nd rfl (Or.inl rfl)) (fun _ _ _ _ _ => pts_one (pt_cmpR op_leS (pv 6) (pv 8) (nomark _))) (fun _ _ _ _ _ => (pv 8)))) pa_nil)))
      (pss_cons (ps_set (i := 4) sc__page.nd rfl (Or.inl rfl) (pe_callTy cr_tupL (by rfl) z_tuple (by decide +kernel) (pa_cons (pe_lc (own := [("key", 8)]) (g := gName 8) (tt := tYes) (by rfl) sc__page.nd (pi_list (pe_slice sl_list (pv 3) po_none (po_some (pv 7)))) (blkOk_by (own := [("key", 8)]) (N := ["items", "op", "high", "keys", "pairs", "_", "low", "limit", "key"]) (sc := defScope s__page) (by decide +kernel)) (fun _ _ _ _ _ => pg_name (i := 8) sc__page.nd rfl (Or.inl rfl)) (fun _ _ _ _ _ => pts_nil) (fun _ _ _ _ _ => (pe_tup (pa_cons (pv 8) (pa_cons (pe_dget (hu_of hr) (pv 0) (pv 8) (fun _ _ => rfl)) pa_nil))))) pa_nil)))
      (pss_cons (ps_if (pt_cmpR op_gt (pe_callB cr_len (by rfl) z_len (by decide +kernel) (pa_cons (pv 3) pa_nil)) (pv 7) (nomark _)) (pss_one (ps_ret (pe_tup (pa_cons pe_str (pa_cons (pv 4) (pa_cons (pe_ix ix_list (pv 3) (pv 7) (fun _ _ => rfl)) pa_nil)))))) pss_nil)
      (pss_one (ps_ret (pe_tup (pa_cons pe_str (pa_cons (pv 4) (pa_cons (pv 2) pa_nil))))))))), ?_⟩
    have hK : (m.map fun p => (p.1, W.str p.2)).map (·.1) = m.map (·.1) := keysS m
    have hlen : (pageK m low).length ≤ m.length := by
      show (sortS _).length ≤ _
      rw [(sortS_perm _).length_eq]
      refine Nat.le_trans (List.length_filter_le _ _) ?_
      rw [List.length_map]
      exact Nat.le_refl _
    refine rm_triple (x := .str "page") (y := .str low) (z := .int limit) (ed_var rfl) ?_
    refine rm_setW (P := fun w μ' => ∃ p, μ p = none ∧ w = .ref p ∧ μ' = mset μ p (.ls ((pageK m low).map W.str))) (ew_ofL (el_srtSA (ks := (m.map (·.1)).filter fun k => !Pd.sLt k low) ((el_lcD (sd := m.map fun p => (p.1, W.str p.2)) (fun k => !Pd.sLt k low) rfl (by rw [← encS_K]; exact l) ?_ (Nat.le_of_ble_eq_true rfl) (fun x hx μ' => ec_test (ed_leS (ed_var rfl) (ed_var rfl)))).is ?_))) fun w μ2 hP => ?_
    · rw [List.length_map]
      omega
    · rw [hK]
    · obtain ⟨q, hq, rfl, rfl⟩ := hP
      have hqa : a ≠ q := fun e => by
        rw [e, hq] at l
        cases l
      have l2 : mset μ q (.ls ((pageK m low).map W.str)) a = some (.dk (encS m)) := by
        rw [mset_ne hqa]
        exact l
      have il : isL (mset μ q (.ls ((pageK m low).map W.str))) q ((pageK m low).map W.str) := .inl mset_same
      refine rm_set (ed_tupL ((el_lc (fun _ => true) (pairO m) (el_slice (ed_var rfl) il to_none (to_some (ed_var rfl))) ?_ (fun x _ => ec_yes) (fun x hx _ => ?_)).is (us := ((pageK m low).take limit.toNat).map (pairW m)) ?_)) ?_
      · rw [List.length_take, List.length_drop, List.length_map]
        omega
      · obtain ⟨k, hk, rfl⟩ := List.mem_map.mp (List.mem_of_mem_drop (List.mem_of_mem_take hx))
        obtain ⟨v, hv⟩ := valS_some (page_mem.mp hk).1
        refine ed_tup (es_cons (ed_var rfl) (es_cons (ed_dget (k := Sum.inr k) (ed_var rfl) (ed_var rfl) l2 ?_) es_nil)) (Nat.le_of_ble_eq_true rfl)
        rw [encS_val, hv]
        rfl
      · rw [List.filter_eq_self.mpr (fun _ _ => rfl), List.length_map]
        show (List.take (HT.sIx _ _ (some limit) - 0) (List.drop 0 _)).map _ = _
        rw [List.drop_zero, Nat.sub_zero, ← List.map_take, List.map_map]
        have e : HT.sIx (pageK m low).length (pageK m low).length (some limit) = min limit.toNat (pageK m low).length := by
          show (if limit < 0 then _ else min limit.toNat (pageK m low).length) = _
          rw [if_neg (by omega)]
        rw [e]
        have e2 : (pageK m low).take (min limit.toNat (pageK m low).length) = (pageK m low).take limit.toNat := by
          rw [List.take_eq_take_iff]
          omega
        rw [e2]
        apply List.map_congr_left
        intro k _
        rfl
      · refine rm_ifs (ec_test (ed_gt (ed_lenL (es_cons (ed_var rfl) es_nil) il) (ed_var rfl))) (fun c => ?_) (fun c => rm_nexts ?_)
        · have c2 : limit < ((pageK m low).length : Int) := by
            have := of_decide_eq_true c
            rwa [List.length_map] at this
          refine rm_retS (ed_tup (es_cons ed_str (es_cons (ed_var rfl) (es_cons (ed_ixL (x := .str ((pageK m low).getD limit.toNat "")) (ed_var rfl) (ed_var rfl) il (by omega) ?_) es_nil))) (Nat.le_of_ble_eq_true rfl)) ?_
          · have q : limit.toNat < (pageK m low).length := by omega
            rw [List.getElem?_map, List.getD_eq_getElem?_getD, List.getElem?_eq_getElem q]
            rfl
          · have z := p _ (Grow.new (o := .ls ((pageK m low).map W.str)) hq)
            unfold pageW at z
            rw [if_pos c2] at z
            exact z
        · have c2 : ¬ limit < ((pageK m low).length : Int) := by
            have := of_decide_eq_false c
            rwa [List.length_map] at this
          refine rm_ret (ed_tup (es_cons ed_str (es_cons (ed_var rfl) (es_cons (ed_var rfl) es_nil))) (Nat.le_of_ble_eq_true rfl)) ?_
          have z := p _ (Grow.new (o := .ls ((pageK m low).map W.str)) hq)
          unfold pageW at z
          rw [if_neg c2] at z
          exact z

theorem sc_apply : FnScope ["items", "op", "high", "action"] ["items", "op", "high"] (defScope s_apply) := ⟨rfl, rfl, rfl, by decide +kernel, rfl, by decide +kernel, by decide +kernel⟩
theorem ok_apply {f : Addr} {fd : FuncData} (F : FnP K "apply" s_apply f fd) (g : mg "apply" = some (.ref f))
    (t_ACTIONS : TabOf K w mg "ACTIONS" [("get", "_get"), ("put", "_put"), ("drop", "_drop"), ("swap", "_swap"), ("page", "_page")]) (D__get : Def P w K mg base 1 "_get" ["items", "op", "high"] (spM K W__get)) (D__put : Def P w K mg base 1 "_put" ["items", "op", "high"] (spM K W__put)) (D__drop : Def P w K mg base 1 "_drop" ["items", "op", "high"] (spM K W__drop)) (D__swap : Def P w K mg base 1 "_swap" ["items", "op", "high"] (spM K W__swap)) (D__page : Def P w K mg base 1 "_page" ["items", "op", "high"] (spM K W__page)) : Def P w K mg base 2 "apply" ["items", "op", "high"] (spM K W_apply) := by
  refine def_mk F g (F.bindsN fun _ _ _ _ _ _ us hl => match us, hl with | [_, _, _], _ => rfl) (fn_mut F sc_apply ?_ ?_)
  · rintro _ _ _ _ ⟨⟩
    rfl
  · intro ds μ Pq X W
    cases W
    rename_i a m op high hm hk l p
    intro cdv A outer s H E hr
    obtain ⟨aA, kvs, gA, T, hkeys, hvals⟩ := t_ACTIONS.ex
    have go : ∀ (z y : Str) (op : Op) (r : List W) (Wf : List W → Mu → (W → Mu → Prop) → (Value → Mu → Prop) → Prop), Def P w K mg base 1 y ["items", "op", "high"] (spM K Wf) → (z, y) ∈ ([("get", "_get"), ("put", "_put"), ("drop", "_drop"), ("swap", "_swap"), ("page", "_page")] : List (Str × Str)) → opW op = .tup (.str z :: r) → Wf [.ref a, opW op, high] μ Pq X →
        ∃ t, PSs (cxOf CX0 P w K mg base ["items", "op", "high", "action"] "apply" (defScope s_apply) f cdv A outer s H E).nox (defBody s_apply) t ∧ RunM K E t (rho0 4 [.ref a, opW op, high]) μ (fun _ μ' => Pq .non μ') Pq X := by
      intro z y op r Wf D hp eo hw
      obtain ⟨f1, fd1, h1, g1, kp1, b1⟩ := D.ex
      obtain ⟨f2, g2, hkv⟩ := hvals _ hp
      have ef : f1 = f2 := by
        have q := g1.symm.trans g2
        cases q
        rfl
      subst ef
      refine ⟨_, pss_cons (ps_set (i := 3) sc_apply.nd rfl (Or.inl rfl) (pe_ix ix_kdict (pe_glob (v := V.ref aA) rfl gA rfl) (pe_ix ix_tup (pv 1) pe_int (fun _ _ => rfl)) (fun _ _ => rfl)))
        (pss_one (ps_ret (pe_callL (i := 3) (E := E) h1 (hr.mono (by decide)) rfl (Or.inl rfl) kp1 b1 .nil (fun _ _ _ _ _ _ _ h => h.elim) (pa_cons (pv 0) (pa_cons (pv 1) (pa_cons (pv 2) pa_nil)))))), ?_⟩
      exact rm_disp T hkv (ed_ixT (xs := .str z :: r) (eo ▸ ed_var rfl) ed_int (by decide) rfl) (Nat.lt_of_lt_of_le (by decide : 3 < 4) (Nat.le_of_eq rfl)) (es_cons (ed_var rfl) (es_cons (ed_var rfl) (es_cons (ed_var rfl) es_nil))) hw
    cases op with
    | get k => exact go "get" "_get" (.get k) _ W__get D__get (by simp) rfl (W__get.mk l p)
    | put k v => exact go "put" "_put" (.put k v) _ W__put D__put (by simp) rfl (W__put.mk l hm p)
    | drop k => exact go "drop" "_drop" (.drop k) _ W__drop D__drop (by simp) rfl (W__drop.mk l p)
    | swap k o n => exact go "swap" "_swap" (.swap k o n) _ W__swap D__swap (by simp) rfl (W__swap.mk l hm p)
    | page low lim => exact go "page" "_page" (.page low lim) _ W__page D__page (by simp) rfl (W__page.mk l hm hk.2 fun μ' gr => p μ' (upd_grow l gr))

theorem sc__law_cell : FnScope ["script", "k"] ["script", "k"] (defScope s__law_cell) := ⟨rfl, rfl, rfl, by decide +kernel, rfl, by decide +kernel, by decide +kernel⟩
theorem ok__law_cell {f : Addr} {fd : FuncData} (F : FnP K "_law_cell" s__law_cell f fd) (g : mg "_law_cell" = some (.ref f))
    (z_len : mg "len" = none) (z_int : mg "int" = none) : Def P w K mg base 1 "_law_cell" ["script", "k"] (spP K W__law_cell) := by
  refine def_mk F g (F.bindsN fun _ _ _ _ _ _ us hl => match us, hl with | [_, _], _ => rfl) (fn_pure F sc__law_cell ?_ ?_)
  · rintro _ _ _ ⟨⟩
    rfl
  · intro ds μ d W
    cases W
    rename_i a ns k h l
    intro cdv A outer s H E hr
    refine ⟨_, pss_cons (ps_if (pt_cmpR op_lt (pv 1) (pe_callB cr_len (by rfl) z_len (by decide +kernel) (pa_cons (pv 0) pa_nil)) (nomark _)) (pss_one (ps_ret (pe_callTy cr_int1 (by rfl) z_int (by decide +kernel) (pa_cons (pe_ix ix_list (pv 0) (pv 1) (fun _ _ => rfl)) pa_nil)))) pss_nil)
      (pss_one (ps_ret pe_int)), ?_⟩
    have il : isL μ a (ns.map W.int) := .inr l
    refine run_ifs (ec_test (ed_lt (ed_var rfl) (ed_lenL (es_cons (ed_var rfl) es_nil) il))) (fun c => ?_) (fun c => ?_)
    · have c' : k < ((ns.map W.int).length : Int) := of_decide_eq_true c
      rw [List.length_map] at c'
      refine run_ret (ed_toint (es_cons (ed_ixL (x := .int (ns.getD k.toNat 0)) (ed_var rfl) (ed_var rfl) il h ?_) es_nil)) ?_
      · rw [List.getElem?_map, List.getD_eq_getElem?_getD]
        have q : k.toNat < ns.length := by omega
        rw [List.getElem?_eq_getElem q]
        rfl
      · unfold Pd.cell
        rw [if_pos c']
    · have c' := of_decide_eq_false c
      rw [List.length_map] at c'
      refine run_nexts (run_ret ed_int ?_)
      unfold Pd.cell
      rw [if_neg c']

theorem sc__law_rich : FnScope ["cell", "k", "mixed"] ["cell", "k"] (defScope s__law_rich) := ⟨rfl, rfl, rfl, by decide +kernel, rfl, by decide +kernel, by decide +kernel⟩
theorem ok__law_rich {f : Addr} {fd : FuncData} (F : FnP K "_law_rich" s__law_rich f fd) (g : mg "_law_rich" = some (.ref f))
    (z_int : mg "int" = none) : Def P w K mg base 1 "_law_rich" ["cell", "k"] (spP K W__law_rich) := by
  refine def_mk F g (F.bindsN fun _ _ _ _ _ _ us hl => match us, hl with | [_, _], _ => rfl) (fn_pure F sc__law_rich ?_ ?_)
  · rintro _ _ _ ⟨⟩
    rfl
  · intro ds μ d W
    cases W
    rename_i c k
    intro cdv A outer s H E hr
    refine ⟨_, pss_cons (ps_if (pt_cmpR op_ge (pv 0) (pe_op op_pow pe_int pe_int) (nomark _)) (pss_one (ps_ret (pe_callTy cr_int1 (by rfl) z_int (by decide +kernel) (pa_cons (pv 0) pa_nil)))) pss_nil)
      (pss_cons (ps_set (i := 2) sc__law_rich.nd rfl (Or.inl rfl) (pe_op op_mod (pe_callTy cr_int1 (by rfl) z_int (by decide +kernel) (pa_cons (pe_op op_add (pe_op op_add (pe_op op_mul (pv 0) pe_int) (pe_op op_mul (pv 1) pe_int)) pe_int) pa_nil)) pe_int))
      (pss_one (ps_ret (pe_op op_add (pe_op op_mul (pv 2) pe_int) (pe_op op_mod (pe_callTy cr_int1 (by rfl) z_int (by decide +kernel) (pa_cons (pe_op op_add (pe_op op_mul (pv 2) pe_int) (pv 0)) pa_nil)) pe_int))))), ?_⟩
    refine run_ifs (ec_test (ed_ge (ed_var rfl) (ed_pow ed_int ed_int ⟨by decide, by decide, by decide⟩))) (fun q => ?_) (fun q => ?_)
    · refine run_ret (ed_toint (es_cons (ed_var rfl) es_nil)) ?_
      unfold Pd.rich
      rw [if_pos (of_decide_eq_true q)]
    · refine run_nexts ?_
      refine run_set (ed_mod (ed_toint (es_cons (ed_add (ed_add (ed_mul (ed_var rfl) ed_int (.inr ⟨by decide, by decide⟩)) (ed_mul (ed_var rfl) ed_int (.inr ⟨by decide, by decide⟩))) ed_int) es_nil)) ed_int (by decide)) ?_
      refine run_ret (ed_add (ed_mul (ed_var rfl) ed_int (.inr ⟨by decide, by decide⟩)) (ed_mod (ed_toint (es_cons (ed_add (ed_mul (ed_var rfl) ed_int (.inr ⟨by decide, by decide⟩)) (ed_var rfl)) es_nil)) ed_int (by decide))) ?_
      unfold Pd.rich
      rw [if_neg (of_decide_eq_false q)]

theorem sc__law_word : FnScope ["size", "chars", "seed", "word", "rest", "k"] ["size", "chars", "seed"] (defScope s__law_word) := ⟨rfl, rfl, rfl, by decide +kernel, rfl, by decide +kernel, by decide +kernel⟩
theorem ok__law_word {f : Addr} {fd : FuncData} (F : FnP K "_law_word" s__law_word f fd) (g : mg "_law_word" = some (.ref f))
    (z_int : mg "int" = none) (z_range : mg "range" = none) (z_len : mg "len" = none) : Def P w K mg base 1 "_law_word" ["size", "chars", "seed"] (spP K W__law_word) := by
  refine def_mk F g (F.bindsN fun _ _ _ _ _ _ us hl => match us, hl with | [_, _, _], _ => rfl) (fn_pure F sc__law_word ?_ ?_)
  · rintro _ _ _ ⟨⟩
    rfl
  · intro ds μ d W
    cases W
    rename_i n ch seed h
    intro cdv A outer s H E hr
    refine ⟨_, pss_cons (ps_set (i := 3) sc__law_word.nd rfl (Or.inl rfl) pe_str)
      (pss_cons (ps_set (i := 4) sc__law_word.nd rfl (Or.inl rfl) (pe_callTy cr_int1 (by rfl) z_int (by decide +kernel) (pa_cons (pv 2) pa_nil)))
      (pss_cons (ps_for PassesOwn.never rfl (pi_range1 rfl z_range (pa_cons (pv 0) pa_nil)) (pg_name (i := 5) sc__law_word.nd rfl (Or.inl rfl)) (pss_cons (ps_set (i := 3) sc__law_word.nd rfl (Or.inl rfl) (pe_op op_addS (pv 3) (pe_ix ix_str (pv 1) (pe_op op_mod (pe_callTy cr_int1 (by rfl) z_int (by decide +kernel) (pa_cons (pv 4) pa_nil)) (pe_callB cr_len (by rfl) z_len (by decide +kernel) (pa_cons (pv 1) pa_nil))) (fun _ _ => rfl))))
      (pss_one (ps_set (i := 4) sc__law_word.nd rfl (Or.inl rfl) (pe_op op_fdiv (pv 4) (pe_callB cr_len (by rfl) z_len (by decide +kernel) (pa_cons (pv 1) pa_nil)))))))
      (pss_one (ps_ret (pv 3))))), ?_⟩
    obtain ⟨h0, h1, h2, h3⟩ := h
    refine run_set ed_str ?_
    refine run_set (ed_toint (es_cons (ed_var rfl) es_nil)) ?_
    refine run_range (es_cons (ed_var rfl) es_nil) ⟨by omega, by omega⟩ (fun i ρ => ∃ kk : Option W, ρ = [some (.int n), some (.str ch), some (.int seed), some (.str (Pd.wst ch seed i).1), some (.int (Pd.wst ch seed i).2), kk]) ⟨_, rfl⟩ (fun i ρ hi hI => ?_) (fun ρ hI => ?_)
    · obtain ⟨kk, rfl⟩ := hI
      have hl : ch.length ≤ sizeLine := sz_of (by omega)
      have hj : 0 ≤ (Pd.wst ch seed i).2 % (ch.length : Int) := Int.emod_nonneg _ (by omega)
      have hj2 : (Pd.wst ch seed i).2 % (ch.length : Int) < (ch.length : Int) := Int.emod_lt_of_pos _ (by omega)
      refine run_set (ed_addS (ed_var rfl) (ed_ixS (c := Pd.sign ch (Pd.wst ch seed i).2) (ed_var rfl) (ed_mod (ed_toint (es_cons (ed_var rfl) es_nil)) (ed_lenS (es_cons (ed_var rfl) es_nil) hl) (by omega)) hl hj ?_) ?_) ?_
      · unfold Pd.sign
        have q : ((Pd.wst ch seed i).2 % (ch.length : Int)).toNat < ch.cps.toList.length := by
          have e : ch.cps.toList.length = ch.length := Array.length_toList
          omega
        rw [List.getElem?_eq_getElem q, List.getD_eq_getElem?_getD, List.getElem?_eq_getElem q]
        rfl
      · rw [Pd.wst_len]
        show i + 1 ≤ sizeLine
        exact sz_of (by omega)
      · exact run_asg (ed_div (ed_var rfl) (ed_lenS (es_cons (ed_var rfl) es_nil) hl) ⟨by omega, by omega⟩) ⟨_, rfl⟩
    · obtain ⟨kk, rfl⟩ := hI
      exact run_ret (ed_var rfl) rfl

theorem sc__law_key : FnScope ["rich"] ["rich"] (defScope s__law_key) := ⟨rfl, rfl, rfl, by decide +kernel, rfl, by decide +kernel, by decide +kernel⟩
theorem ok__law_key {f : Addr} {fd : FuncData} (F : FnP K "_law_key" s__law_key f fd) (g : mg "_law_key" = some (.ref f))
    (z_int : mg "int" = none) (D__law_word : Def P w K mg base 1 "_law_word" ["size", "chars", "seed"] (spP K W__law_word)) : Def P w K mg base 2 "_law_key" ["rich"] (spP K W__law_key) := by
  refine def_mk F g (F.bindsN fun _ _ _ _ _ _ us hl => match us, hl with | [_], _ => rfl) (fn_pure F sc__law_key ?_ ?_)
  · rintro _ _ _ ⟨⟩
    rfl
  · intro ds μ d W
    cases W
    rename_i r
    intro cdv A outer s H E hr
    refine ⟨_, pss_cons (ps_if (pt_cmpR op_lt (pe_op op_mod (pe_callTy cr_int1 (by rfl) z_int (by decide +kernel) (pa_cons (pv 0) pa_nil)) pe_int) pe_int (nomark _)) (pss_one (ps_ret (pe_ix ix_list (pe_lst (pa_cons pe_str (pa_cons pe_str (pa_cons pe_str (pa_cons pe_str (pa_cons pe_str (pa_cons pe_str (pa_cons pe_str (pa_cons pe_str pa_nil))))))))) (pe_op op_mod (pe_op op_fdiv (pv 0) pe_int) pe_int) (fun _ _ => rfl)))) pss_nil)
      (pss_one (ps_ret (pe_callD D__law_word (hr.mono (by decide)) rfl (pa_cons (pe_op op_add pe_int (pe_op op_mod (pe_op op_fdiv (pv 0) pe_int) pe_int)) (pa_cons pe_str (pa_cons (pe_op op_fdiv (pv 0) pe_int) pa_nil)))))), ?_⟩
    refine run_ifs (ec_test (ed_lt (ed_mod (ed_toint (es_cons (ed_var rfl) es_nil)) ed_int (by decide)) ed_int)) (fun c => ?_) (fun c => ?_)
    · have b1 : 0 ≤ r / 4 % 8 := Int.emod_nonneg _ (by decide)
      have b2 : r / 4 % 8 < 8 := Int.emod_lt_of_pos _ (by decide)
      refine run_ret (ed_pick (xs := Pd.keys8.map W.str) (x := .str (Pd.keys8.getD (r / 4 % 8).toNat "")) (es_cons ed_str (es_cons ed_str (es_cons ed_str (es_cons ed_str (es_cons ed_str (es_cons ed_str (es_cons ed_str (es_cons ed_str es_nil)))))))) (ed_mod (ed_div (ed_var rfl) ed_int ⟨by decide, by decide⟩) ed_int (by decide)) (Nat.le_of_ble_eq_true rfl) b1 ?_) ?_
      · have q : (r / 4 % 8).toNat < Pd.keys8.length := by
          show (r / 4 % 8).toNat < 8
          omega
        rw [List.getElem?_map, List.getD_eq_getElem?_getD, List.getElem?_eq_getElem q]
        rfl
      · unfold Pd.keyF
        rw [if_pos (of_decide_eq_true c)]
    · have b1 : 0 ≤ r / 4 % 8 := Int.emod_nonneg _ (by decide)
      have b2 : r / 4 % 8 < 8 := Int.emod_lt_of_pos _ (by decide)
      refine run_nexts ?_
      refine run_ret (ed_call (es_cons (ed_add ed_int (ed_mod (ed_div (ed_var rfl) ed_int ⟨by decide, by decide⟩) ed_int (by decide))) (es_cons ed_str (es_cons (ed_div (ed_var rfl) ed_int ⟨by decide, by decide⟩) es_nil))) (W__law_word.mk (ch := Pd.abc) ⟨by omega, by omega, by decide, by decide⟩)) ?_
      unfold Pd.keyF
      rw [if_neg (of_decide_eq_false c)]

theorem sc__law_bound : FnScope ["rich"] ["rich"] (defScope s__law_bound) := ⟨rfl, rfl, rfl, by decide +kernel, rfl, by decide +kernel, by decide +kernel⟩
theorem ok__law_bound {f : Addr} {fd : FuncData} (F : FnP K "_law_bound" s__law_bound f fd) (g : mg "_law_bound" = some (.ref f))
    (z_int : mg "int" = none) (D__law_key : Def P w K mg base 2 "_law_key" ["rich"] (spP K W__law_key)) : Def P w K mg base 3 "_law_bound" ["rich"] (spP K W__law_bound) := by
  refine def_mk F g (F.bindsN fun _ _ _ _ _ _ us hl => match us, hl with | [_], _ => rfl) (fn_pure F sc__law_bound ?_ ?_)
  · rintro _ _ _ ⟨⟩
    rfl
  · intro ds μ d W
    cases W
    rename_i r
    intro cdv A outer s H E hr
    refine ⟨_, pss_cons (ps_if (pt_cmpR op_eq (pe_op op_mod (pe_callTy cr_int1 (by rfl) z_int (by decide +kernel) (pa_cons (pv 0) pa_nil)) pe_int) pe_int (nomark _)) (pss_one (ps_ret pe_str)) pss_nil)
      (pss_one (ps_ret (pe_callD D__law_key (hr.mono (by decide)) rfl (pa_cons (pe_op op_fdiv (pv 0) pe_int) pa_nil)))), ?_⟩
    refine run_ifs (ec_test (ed_eqI (ed_mod (ed_toint (es_cons (ed_var rfl) es_nil)) ed_int (by decide)) ed_int)) (fun c => ?_) (fun c => ?_)
    · refine run_retS ed_str ?_
      unfold Pd.boundF
      rw [if_pos (of_decide_eq_true c)]
    · refine run_nexts ?_
      refine run_ret (ed_call (es_cons (ed_div (ed_var rfl) ed_int ⟨by decide, by decide⟩) es_nil) (W__law_key.mk)) ?_
      unfold Pd.boundF
      rw [if_neg (of_decide_eq_false c)]

theorem sc__law_value : FnScope ["rich", "chars"] ["rich"] (defScope s__law_value) := ⟨rfl, rfl, rfl, by decide +kernel, rfl, by decide +kernel, by decide +kernel⟩
theorem ok__law_value {f : Addr} {fd : FuncData} (F : FnP K "_law_value" s__law_value f fd) (g : mg "_law_value" = some (.ref f))
    (z_int : mg "int" = none) (D__law_word : Def P w K mg base 1 "_law_word" ["size", "chars", "seed"] (spP K W__law_word)) : Def P w K mg base 2 "_law_value" ["rich"] (spP K W__law_value) := by
  refine def_mk F g (F.bindsN fun _ _ _ _ _ _ us hl => match us, hl with | [_], _ => rfl) (fn_pure F sc__law_value ?_ ?_)
  · rintro _ _ _ ⟨⟩
    rfl
  · intro ds μ d W
    cases W
    rename_i r
    intro cdv A outer s H E hr
    refine ⟨_, pss_cons (ps_if (pt_cmpR op_lt (pe_op op_mod (pe_callTy cr_int1 (by rfl) z_int (by decide +kernel) (pa_cons (pv 0) pa_nil)) pe_int) pe_int (nomark _)) (pss_one (ps_ret (pe_ix ix_list (pe_lst (pa_cons pe_str (pa_cons pe_str (pa_cons pe_str pa_nil)))) (pe_op op_mod (pe_op op_fdiv (pv 0) pe_int) pe_int) (fun _ _ => rfl)))) pss_nil)
      (pss_cons (ps_set (i := 1) sc__law_value.nd rfl (Or.inl rfl) pe_str)
      (pss_one (ps_ret (pe_callD D__law_word (hr.mono (by decide)) rfl (pa_cons (pe_op op_mod (pe_op op_fdiv (pv 0) pe_int) pe_int) (pa_cons (pv 1) (pa_cons (pe_op op_fdiv (pv 0) pe_int) pa_nil))))))), ?_⟩
    refine run_ifs (ec_test (ed_lt (ed_mod (ed_toint (es_cons (ed_var rfl) es_nil)) ed_int (by decide)) ed_int)) (fun c => ?_) (fun c => ?_)
    · have b1 : 0 ≤ r / 4 % 3 := Int.emod_nonneg _ (by decide)
      have b2 : r / 4 % 3 < 3 := Int.emod_lt_of_pos _ (by decide)
      refine run_ret (ed_pick (xs := vals3.map W.str) (x := .str (vals3.getD (r / 4 % 3).toNat "")) (es_cons ed_str (es_cons ed_str (es_cons ed_str es_nil))) (ed_mod (ed_div (ed_var rfl) ed_int ⟨by decide, by decide⟩) ed_int (by decide)) (Nat.le_of_ble_eq_true rfl) b1 ?_) ?_
      · have q : (r / 4 % 3).toNat < vals3.length := by
          show (r / 4 % 3).toNat < 3
          omega
        rw [List.getElem?_map, List.getD_eq_getElem?_getD, List.getElem?_eq_getElem q]
        rfl
      · unfold valueF
        rw [if_pos (of_decide_eq_true c)]
    · have b1 : 0 ≤ r / 4 % 41 := Int.emod_nonneg _ (by decide)
      have b2 : r / 4 % 41 < 41 := Int.emod_lt_of_pos _ (by decide)
      refine run_nexts ?_
      refine run_set ed_str ?_
      refine run_ret (ed_call (es_cons (ed_mod (ed_div (ed_var rfl) ed_int ⟨by decide, by decide⟩) ed_int (by decide)) (es_cons (ed_var rfl) (es_cons (ed_div (ed_var rfl) ed_int ⟨by decide, by decide⟩) es_nil))) (W__law_word.mk (ch := printable) ⟨by omega, by omega, by decide, by decide⟩)) ?_
      unfold valueF
      rw [if_neg (of_decide_eq_false c)]

theorem sc__law_range : FnScope ["rich", "one", "other"] ["rich"] (defScope s__law_range) := ⟨rfl, rfl, rfl, by decide +kernel, rfl, by decide +kernel, by decide +kernel⟩
theorem ok__law_range {f : Addr} {fd : FuncData} (F : FnP K "_law_range" s__law_range f fd) (g : mg "_law_range" = some (.ref f))
    (D__law_bound : Def P w K mg base 3 "_law_bound" ["rich"] (spP K W__law_bound)) (z_max : mg "max" = none) (z_min : mg "min" = none) : Def P w K mg base 4 "_law_range" ["rich"] (spP K W__law_range) := by
  refine def_mk F g (F.bindsN fun _ _ _ _ _ _ us hl => match us, hl with | [_], _ => rfl) (fn_pure F sc__law_range ?_ ?_)
  · rintro _ _ _ ⟨⟩
    rfl
  · intro ds μ d W
    cases W
    rename_i r
    intro cdv A outer s H E hr
    refine ⟨_, pss_cons (ps_set (i := 1) sc__law_range.nd rfl (Or.inl rfl) (pe_callD D__law_bound (hr.mono (by decide)) rfl (pa_cons (pv 0) pa_nil)))
      (pss_cons (ps_set (i := 2) sc__law_range.nd rfl (Or.inl rfl) (pe_callD D__law_bound (hr.mono (by decide)) rfl (pa_cons (pe_op op_fdiv (pv 0) pe_int) pa_nil)))
      (pss_cons (ps_if (PW.pt (pw_or (pt_cmpR op_eq (pv 1) (pv 2) (nomark _)) (pw_or1 (pt_cmpR op_eq (pe_op op_mod (pe_op op_fdiv (pv 0) pe_int) pe_int) pe_int (nomark _))))) (pss_one (ps_ret (pe_tup (pa_cons (pv 1) (pa_cons pe_non pa_nil))))) pss_nil)
      (pss_one (ps_ret (pe_tup (pa_cons (pe_callB (Pd.cr_minS rfl) (by rfl) z_min (by decide +kernel) (pa_cons (pv 1) (pa_cons (pv 2) pa_nil))) (pa_cons (pe_callB (Pd.cr_maxS rfl) (by rfl) z_max (by decide +kernel) (pa_cons (pv 1) (pa_cons (pv 2) pa_nil))) pa_nil))))))), ?_⟩
    refine run_set (ed_call (es_cons (ed_var rfl) es_nil) W__law_bound.mk) ?_
    refine run_set (ed_call (es_cons (ed_div (ed_var rfl) ed_int ⟨by decide, by decide⟩) es_nil) W__law_bound.mk) ?_
    refine run_ifs (ec_or (ec_test (ed_eqS (ed_var rfl) (ed_var rfl))) fun _ => ec_test (ed_eqI (ed_mod (ed_div (ed_var rfl) ed_int ⟨by decide, by decide⟩) ed_int (by decide)) ed_int)) (fun c => ?_) (fun c => run_nexts ?_)
    · have c2 : Pd.boundF r = Pd.boundF (r / 1000) ∨ r / 7 % 5 = 0 := by
        rcases Bool.or_eq_true_iff.mp c with q | q
        · exact .inl (of_decide_eq_true q)
        · exact .inr (of_decide_eq_true q)
      refine run_retS (ed_tup (es_cons (ed_var rfl) (es_cons ed_non es_nil)) (Nat.le_of_ble_eq_true rfl)) ?_
      unfold Pd.rangeF
      rw [if_pos c2]
      rfl
    · have c2 : ¬ (Pd.boundF r = Pd.boundF (r / 1000) ∨ r / 7 % 5 = 0) := fun q => by
        rcases q with q | q
        · rw [decide_eq_true q, Bool.true_or] at c
          cases c
        · rw [decide_eq_true q, Bool.or_true] at c
          cases c
      refine run_ret (ed_tup (es_cons (ed_minS (es_cons (ed_var rfl) (es_cons (ed_var rfl) es_nil))) (es_cons (ed_maxS (es_cons (ed_var rfl) (es_cons (ed_var rfl) es_nil))) es_nil)) (Nat.le_of_ble_eq_true rfl)) ?_
      unfold Pd.rangeF
      rw [if_neg c2]
      rfl
end
end K25

namespace Pw
open PySem L2 Evl
/-! an object of the class Shard in the store: its range, its epoch, its items, its sessions -/
structure Bd (lo : Str) (hi : Option Str) (ep : Int) : Prop where
  rng : Rng lo hi
  ko : okS lo
  kh : ∀ z, hi = some z → okS z
  e1 : 1 ≤ ep
  e2 : ep ≤ 1000000000000
abbrev shF (lo : Str) (hi : Option Str) (ep : Int) (it so : Addr) : List (Str × W) := [("low", .str lo), ("high", oW hi), ("epoch", .int ep), ("_items", .ref it), ("_sessions", .ref so)]
structure Sh (μ : Mu) (a dx : Addr) (lo : Str) (hi : Option Str) (ep : Int) (it so sx la : Addr) (m : List (Str × Str)) (tb : Tb) : Prop where
  o : μ a = some (.ins "Shard" dx (shF lo hi ep it so))
  i : μ it = some (.dk (encS m))
  s : μ so = some (.ins "Sessions" sx [("_last", .ref la)])
  t : μ la = some (.dk (encG gP tb))
  n : it ≠ la
section
variable {μ μ' : Mu} {a dx : Addr} {lo : Str} {hi : Option Str} {ep : Int} {it so sx la : Addr} {m m' : List (Str × Str)} {tb tb' : Tb}
theorem Sh.grow (S : Sh μ a dx lo hi ep it so sx la m tb) (g : Grow μ μ') : Sh μ' a dx lo hi ep it so sx la m tb := ⟨g _ _ S.o, g _ _ S.i, g _ _ S.s, g _ _ S.t, S.n⟩
theorem Sh.keep (S : Sh μ a dx lo hi ep it so sx la m tb) (g : ∀ b o, μ b = some o → b = a ∨ b = it ∨ b = so ∨ b = la → μ' b = some o) : Sh μ' a dx lo hi ep it so sx la m tb := ⟨g _ _ S.o (.inl rfl), g _ _ S.i (.inr (.inl rfl)), g _ _ S.s (.inr (.inr (.inl rfl))), g _ _ S.t (.inr (.inr (.inr rfl))), S.n⟩
theorem Sh.step (S : Sh μ a dx lo hi ep it so sx la m tb) (h1 : μ' it = some (.dk (encS m'))) (h2 : μ' la = some (.dk (encG gP tb'))) (g : ∀ b o, b ≠ it → b ≠ la → μ b = some o → μ' b = some o) : Sh μ' a dx lo hi ep it so sx la m' tb' :=
  ⟨g _ _ (ne_ins S.o S.i) (ne_ins S.o S.t) S.o, h1, g _ _ (ne_ins S.s S.i) (ne_ins S.s S.t) S.s, h2, S.n⟩
end
def pairsW (m : List (Str × Str)) : List W := (sortS (m.map (·.1))).map (pairW m)
theorem encS_len (m : List (Str × Str)) : (encS m).length = m.length := List.length_map _
theorem okD_s {x : Str} (h : okS x) : okD (.str x) := by
  unfold okD
  exact h
theorem okD_o {hi : Option Str} (h : ∀ z, hi = some z → okS z) : okD (oD hi) := by
  cases hi with
  | none =>
    show okD .none
    unfold okD
    trivial
  | some z => exact okD_s (h z rfl)
theorem content_good {m : List (Str × Str)} {tb : Tb} (h : okM m) (ht : ∀ p ∈ tb, ∀ μ2, Good 9 μ2 p.2.2) (μ : Mu) : Good 12 μ (.tup [.tup (pairsW m), .tup (rowsW tb)]) :=
  good_tup (gcons ((good_tup (n := 1) fun w hw => by
    obtain ⟨k, hk, rfl⟩ := List.mem_map.mp hw
    exact good_pair h ((sortS_perm _).mem_iff.mp hk) μ).le (by decide)) (gcons (rows_good ht μ) gnil))
theorem rowP_good {m : List (Str × Str)} {op : Op} {hi : Option Str} {s : Str} (hs : okS s) (h : okM m) (hh : ∀ z, hi = some z → okS z) (μ : Mu) : Good 10 μ (.tup [.str s, resW m op (oW hi)]) := good_tup (gcons (good_str hs) (gcons (good_res h hh μ) gnil))
section
variable {K : Frag} {E : XK} {ρ : Rho} {μ : Mu} {te tl ta tb tc td ty tx tv : TE} {t : TA} {t1 t2 ts : TS} {X : Value → Mu → Prop} {N : Rho → Mu → Prop} {R : W → Mu → Prop}
/-- o.f = e; more -/
theorem rm_fldS {f x : Str} {w : W} {a dx : Addr} {fs : List (Str × W)} (hv : EvD K tv ρ μ w) (ho : EvD K ta ρ μ (.ref a)) (l : μ a = some (.ins x dx fs)) (c : Cls K (He.ga K x)) (n : NoAttr K (He.ga K x) f) (hl : fs.length < 1000) (k : RunM K E t2 ρ (mset μ a (.ins x dx (putFW f w fs))) N R X) :
    RunM K E (tSeq (sFld K ta tv f) t2) ρ μ N R X :=
  rm_seq (M := fun ρ' μ' => ρ' = ρ ∧ μ' = mset μ a (.ins x dx (putFW f w fs))) (rm_fldG (P1 := fun w' μ1 => w' = w ∧ μ1 = μ) (ew_pure hv ⟨rfl, rfl⟩) fun w' μ1 h => by
    obtain ⟨rfl, rfl⟩ := h
    exact ⟨a, x, dx, fs, ho, l, c, n, hl, rfl, rfl⟩) fun ρ' μ' h => by
    obtain ⟨rfl, rfl⟩ := h
    exact k
/-- try: return o.m(..) except T: suite -/
theorem rm_tryRM {x m : Str} {a dx : Addr} {fs : List (Str × W)} {xs : List W} {Wf : List W → Mu → (W → Mu → Prop) → (Str → Mu → Prop) → Prop} {T : Value} {P : W → Mu → Prop} {Xn : Str → Mu → Prop} {Wout : WX} (ho : EvD K ta ρ μ (.ref a)) (l : μ a = some (.ins x dx fs)) (hm : fs.lookup m = none) (h : EvS K t ρ μ xs) (hw : Wf (.ref a :: xs) μ P Xn)
    (hn : ∀ w μ', P w μ' → R w μ') (hx : ∀ y μ', Xn y μ' → PySem.W.exmOne K (.ref (He.ga K y)) T = some true ∧ RunM K E ts ρ μ' N R X) :
    RunM K E (fun D σ H => tRet (tMethE (He.ga K x) m (spX K Wf) (WE (wOnly K T (fun _ _ _ => ts) Wout D)) ta t) D σ H) ρ μ N R X := fun D σ H g hN hR hX =>
  ho σ H g _ fun v H1 e1 d1 => by
    cases d1
    obtain ⟨fv, h1, r⟩ := g.2.ex e1 a _ l
    refine ⟨a, dx, fv, rfl, h1, (rwp_look r).1 hm, h σ H1 (g.mono e1) _ fun vs H2 e2 d2 => ?_⟩
    have e := e1.trans e2
    refine ⟨.ref a :: xs, μ, P, Xn, .cons (.ref a) d2, g.2.ex e, hw, fun w μ' v H3 p e3 m3 d3 => hR w μ' v H3 (hn w μ' p) ((Tk.ex e).trans e3) m3 d3, fun y μ' H3 q e3 m3 => ?_⟩
    obtain ⟨he, hrun⟩ := hx y μ' q
    have tk := (Tk.ex e).trans e3
    exact ⟨true, he, fun _ _ _ => hrun D σ H3 ⟨g.1.tk tk, m3⟩ (fun ρ' μ2 σ' H' n e4 g4 => hN ρ' μ2 σ' H' n (tk.trans e4) g4) (fun w μ2 v H' rr e4 => hR w μ2 v H' rr (tk.trans e4)) fun c μ2 H' xx e4 => hX c μ2 H' xx (tk.trans e4), fun q => Bool.noConfusion q⟩
end
end Pw

namespace Pw
open PySem L2 Evl
def kindF : Op → Str
  | .get _ => "get"
  | .put _ _ => "put"
  | .drop _ => "drop"
  | .swap _ _ _ => "swap"
  | .page _ _ => "page"
def restF : Op → List W
  | .get _ | .drop _ => []
  | .put _ v => [.str v]
  | .swap _ o n => [.str o, .str n]
  | .page _ l => [.int l]
def setK (k : Str) : Op → Op
  | .get _ => .get k
  | .drop _ => .drop k
  | .put _ v => .put k v
  | .swap _ o n => .swap k o n
  | .page _ l => .page k l
theorem opW_eq (op : Op) : opW op = .tup (.str (kindF op) :: .str (placeF op) :: restF op) := by cases op <;> rfl
theorem opW_set (k : Str) (op : Op) : opW (setK k op) = .tup ([.str (kindF op), .str k] ++ restF op) := by cases op <;> rfl
theorem cut_op (op : Op) : cutW (.str (kindF op) :: .str (placeF op) :: restF op) (some 2) none = restF op := by cases op <;> rfl
theorem rest_len (op : Op) : (restF op).length ≤ 2 := by cases op <;> exact Nat.le_of_ble_eq_true rfl
theorem okOp_set {op : Op} {k : Str} (h : okOp op) (hk : okS k) : okOp (setK k op) := by
  cases op with
  | get _ => exact hk
  | drop _ => exact hk
  | put _ v => exact ⟨hk, h.2⟩
  | swap _ o n => exact ⟨hk, h.2⟩
  | page _ l => exact ⟨hk, h.2⟩
theorem vOp_set {op : Op} {k : Str} (h : vOp op) (h1 : kindF op = "page" → boundB (.str k) = true) (h2 : kindF op ≠ "page" → keyS k = true) : vOp (setK k op) := by
  cases op with
  | get _ => exact h2 (show ("get" : Str) ≠ "page" by decide +kernel)
  | drop _ => exact h2 (show ("drop" : Str) ≠ "page" by decide +kernel)
  | put _ v => exact ⟨h2 (show ("put" : Str) ≠ "page" by decide +kernel), h.2⟩
  | swap _ o n => exact ⟨h2 (show ("swap" : Str) ≠ "page" by decide +kernel), h.2⟩
  | page _ l => exact ⟨h1 rfl, h.2⟩
theorem okS_range (r : Int) : okS (Pd.rangeF r).1 ∧ ∀ z, (Pd.rangeF r).2 = some z → okS z := by
  unfold Pd.rangeF
  split
  · exact ⟨okS_bound _, fun z e => by cases e⟩
  · refine ⟨?_, fun z e => ?_⟩
    · show okS (Pd.sMin _ _)
      unfold Pd.sMin
      split
      · exact okS_bound _
      · exact okS_bound _
    · cases e
      show okS (Pd.sMax _ _)
      unfold Pd.sMax
      split
      · exact okS_bound _
      · exact okS_bound _
/-- what is due for a request: the answer, the items and the table behind it -/
inductive Due (lo : Str) (hi : Option Str) (m : List (Str × Str)) (tb : Tb) (c n : Int) (op : Op) : W → List (Str × Str) → Tb → Prop
  | out (h : containsF lo hi (placeF op) = false) : Due lo hi m tb c n op (.tup [.str "outside"]) m tb
  | stale (h : containsF lo hi (placeF op) = true) (e : statF (getT tb c) n = "stale") : Due lo hi m tb c n op (.tup [.str "stale"]) m tb
  | again (h : containsF lo hi (placeF op) = true) (q : Int × W) (e : getT tb c = some q) (e2 : n = q.1) : Due lo hi m tb c n op (.tup [.str "again", q.2]) m tb
  | new (h : containsF lo hi (placeF op) = true) (e : newB (getT tb c) n = true) : Due lo hi m tb c n op (.tup [.str "new", resW m op (oW hi)]) (resM m op) (putT tb c (n, resW m op (oW hi)))
section
variable {lo : Str} {hi : Option Str} {m m1 m2 : List (Str × Str)} {tb t1 t2 : Tb} {c n : Int} {op : Op} {w1 w2 : W}
theorem stat_same {q : Int × W} : statF (some q) q.1 = "again" := by rw [stat_some, if_pos rfl]
theorem new_same {q : Int × W} : newB (some q) q.1 = false := by
  rw [← stat_new, stat_same]
  decide +kernel
theorem stale_new {o : Option (Int × W)} {n : Int} (h : statF o n = "stale") : newB o n = false := by
  rw [← stat_new, h]
  decide +kernel
theorem Due.one (a : Due lo hi m tb c n op w1 m1 t1) (b : Due lo hi m tb c n op w2 m2 t2) : w1 = w2 ∧ m1 = m2 ∧ t1 = t2 := by
  cases a with
  | out h =>
    cases b with
    | out => exact ⟨rfl, rfl, rfl⟩
    | stale h2 => exact absurd (h.symm.trans h2) (by decide)
    | again h2 => exact absurd (h.symm.trans h2) (by decide)
    | new h2 => exact absurd (h.symm.trans h2) (by decide)
  | stale h e =>
    cases b with
    | out h2 => exact absurd (h2.symm.trans h) (by decide)
    | stale => exact ⟨rfl, rfl, rfl⟩
    | again h2 q e1 e2 =>
      rw [e1, e2, stat_same] at e
      exact absurd e (by decide +kernel)
    | new h2 e2 => exact absurd (e2.symm.trans (stale_new e)) (by decide)
  | again h q e1 e2 =>
    cases b with
    | out h2 => exact absurd (h2.symm.trans h) (by decide)
    | stale h2 e =>
      rw [e1, e2, stat_same] at e
      exact absurd e (by decide +kernel)
    | again h2 q2 e3 e4 =>
      have : q = q2 := Option.some.inj (e1.symm.trans e3)
      subst this
      exact ⟨rfl, rfl, rfl⟩
    | new h2 e =>
      rw [e1, e2, new_same] at e
      cases e
  | new h e =>
    cases b with
    | out h2 => exact absurd (h2.symm.trans h) (by decide)
    | stale h2 e2 => exact absurd (e.symm.trans (stale_new e2)) (by decide)
    | again h2 q e1 e2 =>
      rw [e1, e2, new_same] at e
      cases e
    | new => exact ⟨rfl, rfl, rfl⟩
theorem Due.ok (a : Due lo hi m tb c n op w1 m1 t1) (ho : okOp op) (hh : ∀ z, hi = some z → okS z) (hm : okM m) (ht : okT tb) : okM m1 ∧ okT t1 ∧ m1.length ≤ m.length + 1 ∧ t1.length ≤ tb.length + 1 ∧ ∀ μ, Good 10 μ w1 := by
  have one : ∀ (x : Str) (μ : Mu), (decide (x.length ≤ 1000) && PyData.strOk x) = true → Good 10 μ (.tup [.str x]) := fun x μ h => (good_tup (n := 0) (gcons (good_str (okS_lit h)) gnil)).le (by decide)
  cases a with
  | out h => exact ⟨hm, ht, by omega, by omega, fun μ => one _ μ (by decide +kernel)⟩
  | stale h e => exact ⟨hm, ht, by omega, by omega, fun μ => one _ μ (by decide +kernel)⟩
  | again h q e e2 => exact ⟨hm, ht, by omega, by omega, fun μ => good_tup (gcons (good_str (okS_lit (by decide +kernel))) (gcons (ht.2 _ (getT_mem e) μ) gnil))⟩
  | new h e => exact ⟨resM_ok hm ho, okT_put ht fun μ => good_res hm hh μ, resM_len _ _, putT_len _ _ _, fun μ => rowP_good (okS_lit (by decide +kernel)) hm hh μ⟩
end
def agB (o : Option (Int × W)) (n : Int) : Bool := match o with
  | none => false
  | some q => decide (n = q.1)
def stB (o : Option (Int × W)) (n : Int) : Bool := match o with
  | none => false
  | some q => decide (n < q.1)
theorem ag_some {o : Option (Int × W)} {n : Int} (h : agB o n = true) : ∃ q, o = some q ∧ n = q.1 := by
  cases o with
  | none => cases h
  | some q => exact ⟨q, rfl, of_decide_eq_true h⟩
theorem st_stale {o : Option (Int × W)} {n : Int} (h : stB o n = true) : statF o n = "stale" := by
  cases o with
  | none => cases h
  | some q =>
    have h2 : n < q.1 := of_decide_eq_true h
    rw [stat_some, if_neg (by omega), if_neg (by omega)]
theorem no_new {o : Option (Int × W)} {n : Int} (h1 : agB o n = false) (h2 : stB o n = false) : newB o n = true := by
  cases o with
  | none => rfl
  | some q =>
    have a1 : ¬ n = q.1 := of_decide_eq_false h1
    have a2 : ¬ n < q.1 := of_decide_eq_false h2
    rw [← stat_new, stat_some, if_neg a1, if_pos (by omega)]
    decide +kernel
/-- the law's world: the shard, its own items and table -/
structure Wh (μ : Mu) (s dx : Addr) (lo : Str) (hi : Option Str) (ep : Int) (it so sx la i t : Addr) (m : List (Str × Str)) (tb : Tb) : Prop where
  sh : Sh μ s dx lo hi ep it so sx la m tb
  li : μ i = some (.dk (encS m))
  lt : μ t = some (.dk (encG gL tb))
  n1 : it ≠ i
  n2 : it ≠ t
  n3 : la ≠ i
  n4 : la ≠ t
  n5 : i ≠ t
theorem Wh.grow {μ μ' : Mu} {s dx : Addr} {lo : Str} {hi : Option Str} {ep : Int} {it so sx la i t : Addr} {m : List (Str × Str)} {tb : Tb} (w : Wh μ s dx lo hi ep it so sx la i t m tb) (g : Grow μ μ') : Wh μ' s dx lo hi ep it so sx la i t m tb :=
  ⟨w.sh.grow g, g _ _ w.li, g _ _ w.lt, w.n1, w.n2, w.n3, w.n4, w.n5⟩
/-- a copy of the shard, apart from it -/
structure Cp (μ : Mu) (lo : Str) (hi : Option Str) (ep : Int) (it la i t : Addr) (m : List (Str × Str)) (tb : Tb) (p : Addr) : Prop where
  ex : ∃ dx it' so' sx' la', Sh μ p dx lo hi ep it' so' sx' la' m tb ∧ (it' ≠ it ∧ it' ≠ la ∧ it' ≠ i ∧ it' ≠ t) ∧ (la' ≠ it ∧ la' ≠ la ∧ la' ≠ i ∧ la' ≠ t)
theorem Cp.keep {μ μ' : Mu} {lo : Str} {hi : Option Str} {ep : Int} {it la i t p : Addr} {m : List (Str × Str)} {tb : Tb} (w : Cp μ lo hi ep it la i t m tb p) {k1 k2 k3 k4 : List (Key × W)} (d1 : μ it = some (.dk k1)) (d2 : μ la = some (.dk k2)) (d3 : μ i = some (.dk k3)) (d4 : μ t = some (.dk k4)) (g : ∀ b o, b ≠ it → b ≠ la → b ≠ i → b ≠ t → μ b = some o → μ' b = some o) : Cp μ' lo hi ep it la i t m tb p := by
  obtain ⟨dx, it', so', sx', la', S, a, b⟩ := w.ex
  exact ⟨dx, it', so', sx', la', ⟨g _ _ (ne_ins S.o d1) (ne_ins S.o d2) (ne_ins S.o d3) (ne_ins S.o d4) S.o, g _ _ a.1 a.2.1 a.2.2.1 a.2.2.2 S.i, g _ _ (ne_ins S.s d1) (ne_ins S.s d2) (ne_ins S.s d3) (ne_ins S.s d4) S.s, g _ _ b.1 b.2.1 b.2.2.1 b.2.2.2 S.t, S.n⟩, a, b⟩
theorem Cp.grow {μ μ' : Mu} {lo : Str} {hi : Option Str} {ep : Int} {it la i t p : Addr} {m : List (Str × Str)} {tb : Tb} (w : Cp μ lo hi ep it la i t m tb p) (g : Grow μ μ') : Cp μ' lo hi ep it la i t m tb p := by
  obtain ⟨dx, it', so', sx', la', S, a, b⟩ := w.ex
  exact ⟨dx, it', so', sx', la', S.grow g, a, b⟩
end Pw

namespace Pw
open PySem L2 Evl
/-! a dict of a dict: {k: v(k) for k in d if f(k)} -/
theorem putS_new {m : List (Str × Str)} {k v : Str} (h : k ∉ m.map (·.1)) : putS m k v = m ++ [(k, v)] := by
  unfold putS
  rw [if_neg]
  intro q
  obtain ⟨p, hp, e⟩ := List.any_eq_true.mp q
  exact h (List.mem_map.mpr ⟨p, hp, of_decide_eq_true e⟩)
theorem valS_at : ∀ {m : List (Str × Str)} {k v : Str}, (m.map (·.1)).Nodup → (k, v) ∈ m → valS m k = some v
  | [], _, _, _, h => by cases h
  | (k0, v0) :: r, k, v, nd, h => by
    have nd2 : k0 ∉ r.map (·.1) ∧ (r.map (·.1)).Nodup := List.nodup_cons.mp nd
    unfold valS
    by_cases e : k0 = k
    · subst e
      rw [List.find?_cons_of_pos (p := fun p : Str × Str => decide (p.1 = k0)) (decide_eq_true rfl)]
      rcases List.mem_cons.mp h with q | q
      · cases q
        rfl
      · exact absurd (List.mem_map.mpr ⟨_, q, rfl⟩) nd2.1
    · rw [List.find?_cons_of_neg (by simp [e])]
      rcases List.mem_cons.mp h with q | q
      · cases q
        exact absurd rfl e
      · exact valS_at nd2.2 q
section
variable {K : Frag} {E : XK} {ρ : Rho} {μ : Mu} {td tv : TE} {tt : TT} {X : Value → Mu → Prop}
theorem ew_dcK {a : Addr} {j : Nat} {m : List (Str × Str)} (f : Str → Bool) (hj : j < ρ.length) (l : μ a = some (.dk (encS m))) (nd : (m.map (·.1)).Nodup) (hz : m.length ≤ 40000)
    (hd : ∀ μx, (∀ b o, b ≠ a → μ b = some o → μx b = some o) → EvD K td ρ μx (.ref a))
    (ht : ∀ k μx, (∀ b o, b ≠ a → μ b = some o → μx b = some o) → EvC K tt ((ρ.set j none).set j (some (.str k))) μx (f k))
    (hv : ∀ k x μx, valS m k = some x → (∀ b o, b ≠ a → μ b = some o → μx b = some o) → μx a = some (.rk (encS m)) → EvD K tv ((ρ.set j none).set j (some (.str k))) μx (.str x)) :
    EvW K E (tLockE (tDc (iKeys td) (gName j) tt (tVar j) tv [j])) ρ μ (fun w μ' => ∃ p, μ p = none ∧ w = .ref p ∧ μ' = mset μ p (.dk (encS (m.filter fun p => f p.1)))) X := fun σ H g Q q _ => by
  obtain ⟨kv, h, r⟩ := g.2 a _ l
  have hk : kv.map (·.1) = (m.map (·.1)).map Sum.inr := by
    rw [rwp_keys r]
    unfold encS
    rw [List.map_map, List.map_map]
    rfl
  have hlen : kv.length = m.length := by
    have e := congrArg List.length hk
    simpa using e
  refine ⟨a, .dK kv, h, trivial, fun od => ?_⟩
  have tk1 : Tk H (upd H a (.frz od (.dK kv))) := Tk.upd (nt_dk h)
  have g1 : S K (upd H a (.frz od (.dK kv))) σ ρ (mset μ a (.rk (encS m))) := ⟨g.1.tk tk1, g.2.put (nt_dk h) ⟨kv, .inr ⟨od, upd_same⟩, rwpm tk1 r⟩⟩
  refine hd _ (fun b o nb hb => by rw [mset_ne nb]; exact hb) σ _ g1 _ fun x H2 e2 d2 => ?_
  cases d2
  refine ⟨a, od, rfl, .inl ⟨kv, e2 _ _ upd_same, fun D hD => ?_⟩⟩
  have g2 := g1.mono e2
  have hDa : D ≠ a := fun e => by
    rw [e, e2 _ _ upd_same] at hD
    cases hD
  have hDm : μ D = none := by
    have := g2.2.free hD
    rw [mset_ne hDa] at this
    exact this
  have fr : ∀ o, ∀ b u, b ≠ a → μ b = some u → mset (mset μ a (.rk (encS m))) D o b = some u := fun o b u nb hb => by
    have nD : b ≠ D := fun e => by
      rw [e, hDm] at hb
      cases hb
    rw [mset_ne nD, mset_ne nb]
    exact hb
  refine ⟨fun n mm H' => mm = kv.length - n ∧ n ≤ kv.length ∧ Tk (upd H a (.frz od (.dK kv))) H' ∧ S K H' σ ρ (mset (mset μ a (.rk (encS m))) D (.dk (encS ((m.take n).filter fun p => f p.1)))), ⟨kv.length, by simp, Nat.zero_le _, (Tk.ex e2).trans (Tk.ex (Ex.new hD)), ⟨g2.1.tk (Tk.ex (Ex.new hD)), g2.2.put (nt_none hD) ⟨[], upd_same, .nil⟩⟩⟩, ?_⟩
  rintro n mm H' ⟨rfl, hn, tk, g3⟩
  have hfa : H' a = some (.frz od (.dK kv)) := tk.2 _ _ _ upd_same
  by_cases hlt : n < kv.length
  · refine .inr ⟨⟨hfa, hlt⟩, fun H2' => Tk (upd H a (.frz od (.dK kv))) H2' ∧ S K H2' σ ρ (mset (mset μ a (.rk (encS m))) D (.dk (encS ((m.take (n + 1)).filter fun p => f p.1)))), fun H2' w => ⟨kv.length - (n + 1), by omega, rfl, hlt, w⟩, fun x H3 y => ?_⟩
    obtain ⟨rfl, kk, vv, hkv, rfl⟩ := y
    have hkk : (kv.map (·.1))[n]? = some kk := by rw [List.getElem?_map, hkv]; rfl
    rw [hk, List.getElem?_map, List.getElem?_map] at hkk
    cases hz2 : m[n]? with
    | none =>
      rw [hz2] at hkk
      cases hkk
    | some zz =>
    obtain ⟨z, xv⟩ := zz
    rw [hz2] at hkk
    have ek : Sum.inr z = kk := Option.some.inj hkk
    subst ek
    have hval : valS m z = some xv := valS_at nd (List.mem_of_getElem? hz2)
    have gg : S K H3 ((wipe σ [j]).set j (some (.str z))) ((ρ.set j none).set j (some (.str z))) (mset (mset μ a (.rk (encS m))) D (.dk (encS ((m.take n).filter fun p => f p.1)))) := ⟨(g3.1.hide (v := none) j).put j (.str z), g3.2⟩
    refine ⟨wipe1 σ j (some (.str z)), ht z _ (fr _) _ _ gg _ fun H4 e4 => ?_⟩
    have ws1 : m.take (n + 1) = m.take n ++ [(z, xv)] := by rw [List.take_add_one, hz2]; rfl
    cases hf : f z with
    | true =>
      have hsl : ((wipe σ [j]).set j (some (V.str z)))[j]? = some (some (.str z)) := by
        rw [List.getElem?_set, if_pos rfl, if_pos (by rw [wipe_length, g.1.1]; exact hj)]
      refine iteT ⟨.str z, hsl, hv z xv _ hval (fr _) (by rw [mset_ne (Ne.symm hDa)]; exact mset_same) _ _ (gg.mono e4) _ fun y H5 e5 d5 => ?_⟩
      have e := e4.trans e5
      obtain ⟨kva, hD5, rD⟩ := (g3.2.ex e) D _ mset_same
      have tk5 := Tk.upd (o := .dK (putK kva (Sum.inr z) y)) (nt_dk hD5)
      have acc1 : ((m.take (n + 1)).filter fun p => f p.1) = putS ((m.take n).filter fun p => f p.1) z xv := by
        have hn2 : z ∉ ((m.take n).filter fun p => f p.1).map (·.1) := fun hm => by
          obtain ⟨p, hp, e1⟩ := List.mem_map.mp hm
          have hp2 := (List.mem_filter.mp hp).1
          have nd2 : ((m.take n ++ m.drop n).map (·.1)).Nodup := by
            rw [List.take_append_drop]
            exact nd
          rw [List.map_append] at nd2
          have hd2 := (List.nodup_append.mp nd2).2.2
          have hlt2 : n < m.length := by omega
          have hz3 : (z, xv) ∈ m.drop n := by
            rw [List.drop_eq_getElem_cons hlt2]
            rw [List.getElem?_eq_getElem hlt2] at hz2
            rw [Option.some.inj hz2]
            exact List.mem_cons_self ..
          exact hd2 _ (List.mem_map.mpr ⟨p, hp2, e1⟩) _ (List.mem_map.mpr ⟨_, hz3, rfl⟩) rfl
        rw [putS_new hn2, ws1, List.filter_append]
        have e5 : (List.filter (fun p : Str × Str => f p.1) [(z, xv)]) = [(z, xv)] := by rw [List.filter_cons]; simp [hf]
        rw [e5]
      have hle : ((m.take n).filter fun p => f p.1).length ≤ 40000 := Nat.le_trans (List.length_filter_le _ _) (by rw [List.length_take]; omega)
      refine ⟨kva, Sum.inr z, rfl, hD5, sz_lt (by rw [rwp_len rD, encS_len]; omega), tk.trans ((Tk.ex e).trans tk5), g3.1.tk ((Tk.ex e).trans tk5), ?_⟩
      have mm5 := (g3.2.ex e).put (o := .dk (putW (encS ((m.take n).filter fun p => f p.1)) (Sum.inr z) (.str xv))) (nt_dk hD5) ⟨_, upd_same, rwp_put (rwm tk5 d5) (rwpm tk5 rD)⟩
      rw [acc1, ← encS_put]
      have em : mset (mset (mset μ a (.rk (encS m))) D (.dk (encS ((m.take n).filter fun p => f p.1)))) D (.dk (putW (encS ((m.take n).filter fun p => f p.1)) (Sum.inr z) (.str xv))) = mset (mset μ a (.rk (encS m))) D (.dk (putW (encS ((m.take n).filter fun p => f p.1)) (Sum.inr z) (.str xv))) := by
        funext b
        by_cases e1 : b = D
        · rw [e1, mset_same, mset_same]
        · rw [mset_ne e1, mset_ne e1, mset_ne e1]
      rw [← em]
      exact mm5
    | false =>
      refine iteF ⟨tk.trans (Tk.ex e4), ?_⟩
      rw [ws1, List.filter_append]
      have e5 : (List.filter (fun p : Str × Str => f p.1) [(z, xv)]) = [] := by rw [List.filter_cons]; simp [hf]
      rw [e5, List.append_nil]
      exact g3.mono e4
  · have e : n = m.length := by omega
    subst e
    rw [List.take_length] at g3
    have hres : Tk H (upd H' a (.dK kv)) := ⟨fun b xs rd => by
      have nb : b ≠ a := fun e => (nt_dk h).1 xs (e ▸ rd)
      have := tk.1 b xs (tk1.1 b xs rd)
      rcases this with rd | ⟨ob, rd⟩
      · exact .inl (by rw [upd_ne nb]; exact rd)
      · exact .inr ⟨ob, by rw [upd_ne nb]; exact rd⟩, fun b o u rd => by
      have nb : b ≠ a := fun e => (nt_dk h).2 o u (e ▸ rd)
      rw [upd_ne nb]
      exact tk.2 b o u (tk1.2 b o u rd)⟩
    have t0 : T0 H' (upd H' a (.dK kv)) := T0.upd fun xs r => by
      rcases r with r | ⟨o, r⟩
      · rw [hfa] at r
        cases r
      · rw [hfa] at r
        cases r
    obtain ⟨kv2, r2, q2⟩ := g3.2 a (.rk (encS m)) (by rw [mset_ne (Ne.symm hDa)]; exact mset_same)
    have ekv : kv2 = kv := by
      rcases r2 with r2 | ⟨o, r2⟩
      · rw [hfa] at r2
        cases r2
      · rw [hfa] at r2
        cases r2
        rfl
    subst ekv
    have em : mset (mset (mset μ a (.rk (encS m))) D (.dk (encS (m.filter fun p => f p.1)))) a (.dk (encS m)) = mset μ D (.dk (encS (m.filter fun p => f p.1))) := by
      funext b
      by_cases e1 : b = a
      · rw [e1, mset_same, mset_ne (Ne.symm hDa)]
        exact l.symm
      · rw [mset_ne e1]
        by_cases e3 : b = D
        · rw [e3, mset_same, mset_same]
        · rw [mset_ne e3, mset_ne e1, mset_ne e3]
    refine .inl ⟨⟨hfa, by omega⟩, hfa, q (.ref D) _ (.ref D) _ ⟨D, hDm, rfl, rfl⟩ hres ⟨⟨g3.1.1, fun k d hk2 => ?_⟩, ?_⟩ (.ref D)⟩
    · obtain ⟨v, hv2, rv⟩ := g3.1.2 k d hk2
      exact ⟨v, hv2, rwm0 t0 rv⟩
    · rw [← em]
      exact g3.2.put0 (fun xs r => by
        rcases r with r | ⟨o, r⟩
        · rw [hfa] at r
          cases r
        · rw [hfa] at r
          cases r) ⟨_, upd_same, rwpm0 t0 q2⟩
end
/-- for over range(i, n) -/
theorem rm_range2 {K : Frag} {E : XK} {ρ : Rho} {μ : Mu} {ta : TA} {tb t2 : TS} {N : Rho → Mu → Prop} {R : W → Mu → Prop} {X : Value → Mu → Prop} {j : Nat} {lo n : Int} (h : EvS K ta ρ μ [.int lo, .int n]) (hn : -(2 ^ 62) ≤ lo ∧ lo < 2 ^ 62 ∧ -(2 ^ 62) ≤ n ∧ n < 2 ^ 62) (I : Nat → Rho → Mu → Prop) (h0 : I 0 ρ μ)
    (hs : ∀ (i : Nat) ρ' μ', (lo + i : Int) < n → I i ρ' μ' → RunM K E tb (ρ'.set j (some (.int (lo + (i : Int))))) μ' (I (i + 1)) R X) (hd : ∀ ρ' μ', I (n - lo).toNat ρ' μ' → RunM K E t2 ρ' μ' N R X) : RunM K E (tSeq (tFor (iRng2 ta) (gName j) tb) t2) ρ μ N R X := fun D σ H g hN hR hX =>
  h σ H g _ fun vs H1 e1 d1 => by
    match vs, d1 with
    | [_, _], .cons dv1 (.cons dv2 .nil) =>
    cases dv1
    cases dv2
    refine ⟨lo, n, rfl, hn, for_range (lo := lo) (n := (n - lo).toNat) (fun i σ' H' => ∃ ρ' μ', I i ρ' μ' ∧ Tk H H' ∧ S K H' σ' ρ' μ') ⟨ρ, μ, h0, Tk.ex e1, g.mono e1⟩ (fun i σ' H' hi w => ?_) fun σ' H' w => ?_⟩
    · obtain ⟨ρ', μ', p, e2, g2⟩ := w
      have q := hs i ρ' μ' (by omega) p
      exact q _ _ H' (g2.put j (.int _)) (fun ρ3 μ3 σ3 H3 p3 e3 g3 => ⟨ρ3, μ3, p3, e2.trans e3, g3⟩) (fun d μ3 v H3 r e3 => hR d μ3 v H3 r (e2.trans e3)) fun c μ3 H3 x e3 => hX c μ3 H3 x (e2.trans e3)
    · obtain ⟨ρ', μ', p, e2, g2⟩ := w
      exact hd ρ' μ' p D σ' H' g2 (fun ρ3 μ3 σ3 H3 p3 e3 => hN ρ3 μ3 σ3 H3 p3 (e2.trans e3)) (fun d μ3 v H3 r e3 => hR d μ3 v H3 r (e2.trans e3)) fun c μ3 H3 x e3 => hX c μ3 H3 x (e2.trans e3)
end Pw

namespace Pw
open PySem L2 Evl
open Pd (sLt)
section
variable {K : Frag} {ρ : Rho} {μ : Mu} {te tv : TE} {t : TT}
/-- [v(x) for x in a tuple if f(x)] -/
theorem el_lcTF {ws : List W} {j : Nat} (f : W → Bool) (v : W → W) (h : EvD K te ρ μ (.tup ws)) (hz : ws.length ≤ 40000) (ht : ∀ x, x ∈ ws → EvC K t ((ρ.set j none).set j (some x)) μ (f x)) (he : ∀ x, x ∈ ws → EvD K tv ((ρ.set j none).set j (some x)) μ (v x)) :
    EvL K (tLc (iTup K te) (gName j) t tv [j]) ρ μ ((ws.filter f).map v) := fun σ H g Q q =>
  h σ H g _ fun v1 H1 e1 d1 => by
    cases d1 with
    | tup hq r1 =>
      rename_i a us
      refine ⟨a, rfl, ⟨_, hq⟩, fun D hD => ?_⟩
      have hl := dps_len r1
      refine lc_tup (xs := us) (fun i H' => Ex H1 H' ∧ ∃ acc, H' D = some (.lst acc) ∧ acc.length ≤ i ∧ RwAll K H' acc (((ws.take i).filter f).map v)) ⟨Ex.new hD, [], upd_same, Nat.le_refl _, .nil⟩ (fun i H' _ w => tk_t (Tk.ex w.1) hq) (fun i x H' hx w => ?_) (fun H' w => ?_)
      · obtain ⟨ex, acc, hacc, hlen, r⟩ := w
        obtain ⟨y, hy, dy⟩ := dps_to i r1 hx
        have hi : i < us.length := (List.getElem?_eq_some_iff.mp hx).1
        have gg : S K H' ((wipe σ [j]).set j (some x)) ((ρ.set j none).set j (some y)) μ := ((g.mono (e1.trans ex)).hide (v := none) j).put j (dpm ex dy)
        refine ⟨wipe1 σ j (some x), ht y (List.mem_of_getElem? hy) _ _ gg _ fun H3 e3 => ?_⟩
        have ws1 : ws.take (i + 1) = ws.take i ++ [y] := by rw [List.take_add_one, hy]; rfl
        cases hf : f y with
        | true =>
          refine iteT (he y (List.mem_of_getElem? hy) _ H3 (gg.mono e3) _ fun u H4 e4 d4 => ?_)
          refine ⟨acc, e4 _ _ (e3 _ _ hacc), sz_lt (by omega), ?_, acc ++ [u], upd_same, by rw [List.length_append]; simp; omega, ?_⟩
          · exact Ex.mut ((ex.trans e3).trans e4) hD
          · have tk : Tk H4 (upd H4 D (.lst (acc ++ [u]))) := Tk.upd (nt_lst (e4 _ _ (e3 _ _ hacc)))
            rw [ws1, List.filter_append, List.map_append]
            have e5 : (List.filter f [y]) = [y] := by rw [List.filter_cons, hf]; rfl
            rw [e5]
            exact dps_app (rwms tk (dpms (e3.trans e4) r)) (.cons (rwm tk d4) .nil)
        | false =>
          refine iteF ⟨ex.trans e3, acc, e3 _ _ hacc, by omega, ?_⟩
          rw [ws1, List.filter_append, List.map_append]
          have e5 : (List.filter f [y]) = [] := by rw [List.filter_cons, hf]; rfl
          rw [e5, List.map_nil, List.append_nil]
          exact dpms e3 r
      · obtain ⟨ex, acc, hacc, hlen, r⟩ := w
        rw [hl, List.take_length] at r
        exact q D acc H' (e1.trans ex) (fresh_back e1 hD) hacc r
end
/-! where a shard can be split -/
def fitS (lo : Str) (hi : Option Str) (y : Str) : Bool := keyS y && sLt lo y && Pd.belowF (some y) hi
def fitD (lo : Str) (hi : Option Str) : PyData → Bool
  | .str y => fitS lo hi y
  | _ => false
theorem fit_key {lo : Str} {hi : Option Str} {d : PyData} (h : keyB d = false) : fitD lo hi d = false := by
  cases d with
  | str y =>
    have h2 : keyS y = false := h
    show (keyS y && sLt lo y && Pd.belowF (some y) hi) = false
    rw [h2]
    rfl
  | _ => rfl
theorem key_strD {d : PyData} (h : keyB d = true) : ∃ y, d = .str y := by
  cases d with
  | str y => exact ⟨y, rfl⟩
  | _ => cases h
structure Fit (lo : Str) (hi : Option Str) (y : Str) : Prop where
  k : keyS y = true
  l : sLt lo y = true
  b : Pd.belowF (some y) hi = true
theorem fit_of {lo : Str} {hi : Option Str} {y : Str} (h : fitS lo hi y = true) : Fit lo hi y := by
  obtain ⟨h1, h3⟩ := Bool.and_eq_true_iff.mp h
  obtain ⟨h1, h2⟩ := Bool.and_eq_true_iff.mp h1
  exact ⟨h1, h2, h3⟩
theorem Fit.inn {lo : Str} {hi : Option Str} {y : Str} (h : Fit lo hi y) : containsF lo hi y = true := by
  show ((!sLt y lo) && Pd.belowF (some y) hi) = true
  rw [sLt_asym h.l, h.b]
  rfl
theorem Fit.left {lo : Str} {hi : Option Str} {y : Str} {ep : Int} (h : Fit lo hi y) (B : Bd lo hi ep) (ky : okS y) (he : ep + 1 ≤ 1000000000000) : Bd lo (some y) (ep + 1) :=
  ⟨⟨B.rng.low, fun z e => by cases e; exact ⟨h.k, h.l⟩⟩, B.ko, fun z e => by cases e; exact ky, by have := B.e1; omega, he⟩
theorem Fit.right {lo : Str} {hi : Option Str} {y : Str} {ep : Int} (h : Fit lo hi y) (B : Bd lo hi ep) (ky : okS y) (he : ep + 1 ≤ 1000000000000) : Bd y hi (ep + 1) :=
  ⟨⟨by show (keyS y || decide (y = "")) = true; rw [h.k]; rfl, fun z e => by
    subst e
    exact ⟨(B.rng.high z rfl).1, h.b⟩⟩, ky, B.kh, by have := B.e1; omega, he⟩
structure Halves (μ μ' : Mu) (lo y : Str) (hi : Option Str) (ep : Int) (m : List (Str × Str)) (tb : Tb) (a1 a2 : Addr) : Prop where
  g : Grow μ μ'
  ex : ∃ dx1 it1 so1 sx1 la1 dx2 it2 so2 sx2 la2, (μ it1 = none ∧ μ la1 = none ∧ μ it2 = none ∧ μ la2 = none) ∧ (it1 ≠ it2 ∧ it1 ≠ la2 ∧ la1 ≠ it2 ∧ la1 ≠ la2) ∧ Sh μ' a1 dx1 lo (some y) (ep + 1) it1 so1 sx1 la1 (m.filter fun p => sLt p.1 y) tb ∧ Sh μ' a2 dx2 y hi (ep + 1) it2 so2 sx2 la2 (m.filter fun p => !sLt p.1 y) tb
/-- the pairs of a part -/
theorem pairs_filter {m : List (Str × Str)} (nd : (m.map (·.1)).Nodup) (f : Str → Bool) : pairsW (m.filter fun p => f p.1) = ((sortS (m.map (·.1))).filter f).map (pairW m) := by
  have e1 : (m.filter fun p => f p.1).map (·.1) = (m.map (·.1)).filter f := by
    rw [List.filter_map]
    rfl
  have e2 : sortS ((m.map (·.1)).filter f) = (sortS (m.map (·.1))).filter f :=
    pw_only ((sortS_perm _).trans (List.Perm.filter _ (sortS_perm _).symm)) (sortS_pw _) ((sortS_pw _).sublist List.filter_sublist)
  unfold pairsW
  rw [e1, e2]
  refine List.map_congr_left fun k hk => ?_
  obtain ⟨hk1, hk2⟩ := List.mem_filter.mp hk
  obtain ⟨v, hv⟩ := valS_some ((sortS_perm _).mem_iff.mp hk1)
  have nd2 : ((m.filter fun p => f p.1).map (·.1)).Nodup := by
    rw [e1]
    exact nd.sublist List.filter_sublist
  have hv2 : valS (m.filter fun p => f p.1) k = some v := valS_at nd2 (List.mem_filter.mpr ⟨valS_mem hv, hk2⟩)
  unfold pairW
  rw [hv, hv2]
def p0F : W → Str
  | .tup (.str k :: _) => k
  | _ => ""
theorem pairs_part {m : List (Str × Str)} (nd : (m.map (·.1)).Nodup) (f : Str → Bool) : ((pairsW m).filter fun w => f (p0F w)).map (fun w => w) = pairsW (m.filter fun p => f p.1) := by
  rw [pairs_filter nd f, List.map_id']
  unfold pairsW
  rw [List.filter_map]
  rfl
theorem okM_filter {m : List (Str × Str)} (h : okM m) (f : Str × Str → Bool) : okM (m.filter f) := fun p hp => h p (List.mem_filter.mp hp).1
theorem okT_new {tb : Tb} (h : okT tb) {c : Int} {n : Int} (hl : ∀ p ∈ tb, p.2.1 < n) : newB (getT tb c) n = true := by
  cases e : getT tb c with
  | none => rfl
  | some q =>
    have h2 := hl _ (getT_mem e)
    have h3 : q.1 < n := h2
    rw [← stat_new, stat_some, if_neg (by omega), if_pos h3]
    decide +kernel
end Pw

namespace Pw
open PySem PySem.Spec PyProof.Rows L2 Evl
/-! name = {k: v for ..} on one line, the name a local -/
section
variable {X : Cx}
theorem ps_setDc {i : Nat} {y : Str} {py : Pos} {kx vx tg iter : Expr} {ifs : List Expr} {scope : Scope} {own : List (Str × Nat)} {pos spos : Pos} {wi : TI} {g : TG} {tt : TT} {tk tv : TE} (hc : X.calm = true) (hN : X.N.Nodup) (hy : X.N[i]? = some y) (hyl : X.env.scope.names.lookup y = some .local)
    (hsw : swapsWith (.DictComp kx vx [⟨tg, iter, ifs, 0⟩] scope pos) (some (.Name y py)) spos.line X.env = pure true) (hi : PI X tg iter wi) (ok : BlkOk X.N X.env.scope scope own)
    (hg : ∀ (s : Shared) (H : Hp) (C : Addr) (cl : List (Str × Addr)) (fp : List Addr), PG (X.blk s H scope (compEnvC scope cl C X.env) fp) tg g) (ht : ∀ (s : Shared) (H : Hp) (C : Addr) (cl : List (Str × Addr)) (fp : List Addr), PTs (X.blk s H scope (compEnvC scope cl C X.env) fp) ifs tt)
    (hk : ∀ (s : Shared) (H : Hp) (C : Addr) (cl : List (Str × Addr)) (fp : List Addr), PE (X.blk s H scope (compEnvC scope cl C X.env) fp) kx tk)
    (he : ∀ (s : Shared) (H : Hp) (C : Addr) (cl : List (Str × Addr)) (fp : List Addr), PE (X.blk s H scope (compEnvC scope cl C X.env) fp) vx tv) (hs : ∀ x, foldedSetIterable iter X.env x = pure x := by intro _; rfl) :
    PS X (.Assign [.Name y py] (.DictComp kx vx [⟨tg, iter, ifs, 0⟩] scope pos) spos) (tAsg (tDc wi g tt tk tv (own.map (·.2))) (gName i)) := by
  refine ⟨fun pins s σ H D I h => ?_⟩
  rw [exec_Assign_Name_used _ _ _ _ hsw]
  refine wpAny_bind (wpAny_standAt (wpAny_bind ?_))
  show wpAny _ X.A (do let _ ← comprehension (.DictComp kx vx [⟨tg, iter, ifs, 0⟩] scope pos) scope X.env (firstIterPos [⟨tg, iter, ifs, 0⟩] pos) newDict false (eval iter X.env) (some (assign (.Name y py) X.env))) _ _ s
  have h : tDc wi g tt tk tv (own.map (·.2)) σ H (fun x H1 => gName i x σ H1 D.nx) := h
  refine wpAny_bind (thn (dc_core (Qf := fun _ s' => SP X pins D .next s') hc hN I hi ok hg ht hk he hs h fun L C s' m H' I' q hn f => ?_) fun _ s' hq => wpAny_pure (wpAny_pure hq))
  show wpAny _ _ (assign (.Name y py) X.env (.ref L)) _ _ _
  refine wpAny_assign_Name (store_ok2 (v := V.ref L) I' hN hy (.inl hyl) rfl (fun s2 I2 ⟨a, sb, ha⟩ => ?_) (.inr hyl))
  obtain ⟨f0, f1, f2, f3, f4, f5⟩ := f
  have haC : C ≠ a := by
    rcases ha with z | z
    · rw [z]; exact f1
    · exact fun e => f4 y a z e.symm
  refine ⟨m, hn.sameBut sb haC, fun h3 sb3 => ?_⟩
  exact ⟨_, H', I2.turned (t' := s2.toks) (fun b o hb e => (sb3.2 b hb).trans e) f0 f1 f3 f4 f5, q⟩
theorem sw_trueD {kx vx : Expr} {gs : List Comprehension} {scope : Scope} {pos py : Pos} {y : Str} {l : Nat} {env : Env} (hk : env.scope.kind = .function) (hy : env.scope.names.lookup y = some .local) (hl : (py.line == pos.line) = true)
    (ha : (scope.names.any fun (n, k) => n == y && (k == .local || k == .cell)) = false) : swapsWith (.DictComp kx vx gs scope pos) (some (.Name y py)) l env = pure true := by
  have ky : env.kindOf y = some .local := hy
  have hb : env.blockKind = .function := by unfold Env.blockKind; rw [hk]; rfl
  unfold swapsWith
  simp only [hb, ky, ha, Expr.pos, hl]
  rfl
end
section
variable {K : Frag} {E : XK} {ρ : Rho} {μ : Mu} {te : TE} {t2 : TS} {X : Value → Mu → Prop} {N : Rho → Mu → Prop} {R : W → Mu → Prop} {P : W → Mu → Prop}
theorem rm_lockSet {i : Nat} (h : EvW K E (tLockE te) ρ μ P X) (k : ∀ w μ', P w μ' → RunM K E t2 (ρ.set i (some w)) μ' N R X) : RunM K E (tSeq (tLock (tAsg te (gName i))) t2) ρ μ N R X := fun D σ H g hN hR hX => rm_setW h k D σ H g hN hR hX
end
end Pw

namespace Pw
open PySem L2 Evl
section
variable {K : Frag} {E : XK} {ρ : Rho} {μ : Mu} {ta tb : TA} {X : Value → Mu → Prop}
theorem two_lists {n : Nat} {xs : List W} {μ : Mu} (h : ∀ w ∈ xs, Good n μ w) (hn : n + 1 ≤ 64) {q q2 : Addr} (i1 : isL μ q xs) (i2 : isL μ q2 xs) : ∃ dx dy, Dw μ (.ref q) dx ∧ Dw μ (.ref q2) dy ∧ SeqAt.shaped dx = true ∧ SeqAt.shaped dy = true ∧ PyData.eqv dx dy = true := by
  obtain ⟨ds, z, kk, qq⟩ := goods h
  have kd : okD (.list ds) := by
    unfold okD
    exact kk
  have qd : PyData.depth (.list ds) ≤ n + 1 := by
    unfold PyData.depth
    omega
  exact ⟨.list ds, .list ds, .lst i1 z, .lst i2 z, shaped_ok kd qd hn, shaped_ok kd qd hn, SeqAt.eqv_refl (.list ds) (canLay_ok kd)⟩
theorem ew_twoL {n : Nat} {xs : List W} (ha : EvS K ta ρ μ xs) (hb : ∀ μ1, Grow μ μ1 → EvS K tb ρ μ1 xs) (hl : xs.length ≤ 100000) :
    EvW K E (tLst ta) ρ μ (fun w μ' => ∃ q, w = .ref q ∧ Grow μ μ' ∧ isL μ' q xs) X :=
  ew_imp (ew_lst ha hl) fun x μ5 hx => by
    obtain ⟨q, hq, rfl, rfl⟩ := hx
    exact ⟨q, rfl, Grow.new hq, .inl mset_same⟩
/-- [..] != [..], the same values -/
theorem ew_neL {n : Nat} {xs : List W} (ha : EvS K ta ρ μ xs) (hb : ∀ μ1, Grow μ μ1 → EvS K tb ρ μ1 xs) (hl : xs.length ≤ 100000) (hg : ∀ μ1, Grow μ μ1 → ∀ w ∈ xs, Good n μ1 w) (hn : n + 1 ≤ 64) : EvW K E (tOp (rNeD K) (tLst ta) (tLst tb)) ρ μ (fun w μ' => w = .bl false ∧ Grow μ μ') X :=
  ew_neD (P1 := fun w μ' => ∃ q, w = .ref q ∧ Grow μ μ' ∧ isL μ' q xs) (P2 := fun x y μ' => ∃ q q2, x = .ref q ∧ y = .ref q2 ∧ Grow μ μ' ∧ isL μ' q xs ∧ isL μ' q2 xs) (ew_twoL (n := n) ha hb hl) (fun x μ1 hx => by
    obtain ⟨q, rfl, g, i⟩ := hx
    refine ew_imp (ew_lst (hb μ1 g) hl) fun y μ2 hy => ?_
    obtain ⟨q2, hq2, rfl, rfl⟩ := hy
    have g2 : Grow μ1 (mset μ1 q2 (.ls xs)) := Grow.new hq2
    exact ⟨q, q2, rfl, rfl, g.trans g2, i.imp (fun h => g2 _ _ h) (fun h => g2 _ _ h), .inl mset_same⟩) fun x y μ2 hx => by
    obtain ⟨q, q2, rfl, rfl, g, i1, i2⟩ := hx
    obtain ⟨dx, dy, z1, z2, s1, s2, e⟩ := two_lists (hg μ2 g) hn i1 i2
    exact ⟨dx, dy, z1, z2, s1, s2, by rw [e]; rfl, g⟩
theorem ew_eqL {n : Nat} {xs : List W} (ha : EvS K ta ρ μ xs) (hb : ∀ μ1, Grow μ μ1 → EvS K tb ρ μ1 xs) (hl : xs.length ≤ 100000) (hg : ∀ μ1, Grow μ μ1 → ∀ w ∈ xs, Good n μ1 w) (hn : n + 1 ≤ 64) : EvW K E (tOp (rEqD K) (tLst ta) (tLst tb)) ρ μ (fun w μ' => w = .bl true ∧ Grow μ μ') X :=
  ew_eqD (P1 := fun w μ' => ∃ q, w = .ref q ∧ Grow μ μ' ∧ isL μ' q xs) (P2 := fun x y μ' => ∃ q q2, x = .ref q ∧ y = .ref q2 ∧ Grow μ μ' ∧ isL μ' q xs ∧ isL μ' q2 xs) (ew_twoL (n := n) ha hb hl) (fun x μ1 hx => by
    obtain ⟨q, rfl, g, i⟩ := hx
    refine ew_imp (ew_lst (hb μ1 g) hl) fun y μ2 hy => ?_
    obtain ⟨q2, hq2, rfl, rfl⟩ := hy
    have g2 : Grow μ1 (mset μ1 q2 (.ls xs)) := Grow.new hq2
    exact ⟨q, q2, rfl, rfl, g.trans g2, i.imp (fun h => g2 _ _ h) (fun h => g2 _ _ h), .inl mset_same⟩) fun x y μ2 hx => by
    obtain ⟨q, q2, rfl, rfl, g, i1, i2⟩ := hx
    obtain ⟨dx, dy, z1, z2, s1, s2, e⟩ := two_lists (hg μ2 g) hn i1 i2
    exact ⟨dx, dy, z1, z2, s1, s2, by rw [e], g⟩
end
theorem putS_mem {m : List (Str × Str)} {k v : Str} {p : Str × Str} (h : p ∈ putS m k v) : p.1 = k ∨ p ∈ m := by
  unfold putS at h
  split at h
  · obtain ⟨q, hq, e⟩ := List.mem_map.mp h
    by_cases c : q.1 = k
    · rw [if_pos c] at e
      subst e
      exact .inl c
    · rw [if_neg c] at e
      subst e
      exact .inr hq
  · rcases List.mem_append.mp h with q | q
    · exact .inr q
    · rw [List.mem_singleton.mp q]
      exact .inl rfl
end Pw

namespace PySem
open Sem (wp)
section
variable {prog : Program} {w : World} {K : Type} [DecidableEq K] {knd : KeyKind prog w K} {A : Around} {E : Value → Shared → Prop} {s : Shared}
theorem wpAny_dictPut_pairs {d : Addr} {kvs : List (K × Value)} {k : K} {key v : Value} {Q : Unit → Shared → Prop} (hkey : knd.is k key = true) (hm : s.heap.DictOf knd d kvs)
    (hQ : ∀ h', h'.DictOf knd d (stored kvs k v) → Heap.SameBut d s.heap h' → Q () { s with heap := h' })
    (hsz : kvs.length ≤ sizeLine := by size_fits) :
    wpAny (model prog w) A (dictPut d (knd.hash k) key v) Q E s := by
  obtain ⟨o, es, ep, ho, hc, hd, hk, hp, hn⟩ := hm
  have hes : es.size ≤ sizeLine := by have e1 := hp.length; have e2 : es.toList.length = es.size := by simp
                                      omega
  unfold dictPut
  refine wpAny_bind (wpAny_dictFind_of hkey ho hd hk ?_)
  have hidx : (es.findIdx? fun e => knd.is k e.key) = kvs.findIdx? fun kv => decide (kv.1 = k) := by
    rw [← hp.findIdx k]; obtain ⟨l⟩ := es; simp
  cases hi : es.findIdx? fun e => knd.is k e.key with
  | some i =>
    refine wpAny_updateDict ho hd (hQ _ ⟨_, _, ep, Heap.get?_update_self _ ho (Obj.isFreed_of_dict (Obj.data_mapDict hd _)),
      hc.mapDict _, Obj.data_mapDict hd _, hk.modify _ _, ?_, ?_⟩ (Heap.SameBut.update ..))
    · rw [stored, if_pos (any_of_findIdx_some (hidx ▸ hi))]
      have hl : (es.toList.findIdx? fun e => knd.is k e.key) = some i := by rw [← hi]; obtain ⟨l⟩ := es; simp
      have := hp.modify hn hl v
      obtain ⟨l⟩ := es
      simpa using this
    · rw [stored, if_pos (any_of_findIdx_some (hidx ▸ hi)), keys_map_store]; exact hn
  | none =>
    have hnot : k ∉ kvs.map (·.1) := not_mem_of_findIdx_none (hidx ▸ hi)
    have hany : ¬ (kvs.any fun kv => decide (kv.1 = k)) = true := by
      rw [List.any_eq_true]; rintro ⟨kv, hkv, he⟩
      exact hnot (List.mem_map.mpr ⟨kv, hkv, of_decide_eq_true he⟩)
    refine wpAny_updateDictKeys (hz := hes) ho hd (hQ _ ⟨_, _, ep + 1, Heap.get?_update_self _ ho (Obj.isFreed_of_dict (Obj.data_mapDictKeys hd _)),
      hc.mapDictKeys _, Obj.data_mapDictKeys hd _, hk.push hkey _, ?_, ?_⟩ (Heap.SameBut.update ..))
    · rw [stored, if_neg hany]
      have := hp.append hkey (knd.hash k) v
      obtain ⟨l⟩ := es
      simpa using this
    · rw [stored, if_neg hany, List.map_append, List.nodup_append]
      refine ⟨hn, by simp, ?_⟩
      intro a ha b hb
      simp only [List.map_cons, List.map_nil, List.mem_singleton] at hb
      subst hb
      exact fun e => hnot (e ▸ ha)
theorem byValue_noref {v : Value} (h : carriedByValue v = true) : ∀ x, v ≠ .ref x := fun x e => by
  subst e
  cases h
theorem wpAny_mergeMapping {d o : Addr} {kvs more : List (K × Value)} {Q : Unit → Shared → Prop} (hdo : d ≠ o) (hoS : (o == sysModules) = false)
    (hd : s.heap.DictOf knd d kvs) (ho : s.heap.DictOf knd o more)
    (hQ : ∀ h', h'.DictOf knd d (merged kvs more) → h'.DictOf knd o more → Heap.SameBut d s.heap h' → Q () { s with heap := h' })
    (hsz : kvs.length + more.length ≤ sizeLine := by size_fits) :
    wpAny (model prog w) A (mergeMapping d (.ref o) false) Q E s := by
  have hdT := hd.typeIs
  have hoT := ho.typeIs
  obtain ⟨od, esd, epd, hod, hcd, hdd, hkd, hpd, hnd⟩ := id hd
  obtain ⟨oo, eso, epo, hoo, hco, hdo', hko, hpo, hno⟩ := id ho
  have hlen : more.length = eso.size := by rw [← hpo.length]; simp
  unfold mergeMapping
  refine wpAny_bind (wpAny_isInstance hoT isSubtype_dict_dict ?_)
  simp only [if_true]
  refine wpAny_bind (wpAny_specialOf hoT F.slot_dict_iter.lookup (wpAny_bind (wpAny_pure ?_)))
  simp only [beq_self_eq_true]
  have loop : wpAny (model prog w) A (do
      let l ← dictEntries o
      let epoch ← dictEpoch o
      forIn (List.range l.size) PUnit.unit fun i (_ : PUnit) => (do
          let l' ← dictEntries o
          match l'[i]? with
            | some e => do
              holding [e.key, e.val]
                (if false = true then do
                  let f ← dictFind d e.key e.hash
                  if f.isSome = true then do
                      rule "dict.merge.duplicate-key"
                      let x ← newExc (Value.type "KeyError") [e.key]
                      raiseNew x
                      dictPut d e.hash e.key e.val
                    else dictPut d e.hash e.key e.val
                else dictPut d e.hash e.key e.val)
              let ep' ← dictEpoch o
              if (ep' != epoch) = true then do
                  (unsupported "dict.changed-during-merge" : Sem PUnit)
                  pure (ForInStep.yield PUnit.unit)
                else pure (ForInStep.yield PUnit.unit)
            | _ => do
              (unsupported "dict.changed-during-merge" : Sem PUnit)
              pure (ForInStep.yield PUnit.unit) : Sem (ForInStep PUnit))
      pure ()) Q E s := by
    refine wpAny_bind (wpAny_dictEntries hoo hdo' ?_)
    refine wpAny_bind (wpAny_dictEpoch hoo hdo' ?_)
    refine wpAny_bind ?_
    rw [List.range_eq_range']
    refine wpAny_forIn_list _
      (fun rest _ s' => ∃ h' i, s' = { s with heap := h' } ∧ rest = List.range' i (eso.size - i) ∧ i ≤ eso.size ∧ h'.DictOf knd d (merged kvs (more.take i)) ∧ h'.get? o = some oo ∧ Heap.SameBut d s.heap h')
      _ ?_ ?_ _ _ ⟨s.heap, 0, rfl, by simp, Nat.zero_le _, by simpa [merged] using hd, hoo, Heap.SameBut.refl _ _⟩
    · rintro x rest b s' ⟨h', i, rfl, hr, hi, hd', hoo', hs'⟩
      have hlt : i < eso.size := by
        rcases Nat.lt_or_ge i eso.size with h | h
        · exact h
        · rw [Nat.sub_eq_zero_of_le h] at hr; simp at hr
      obtain ⟨rfl, hrest⟩ : x = i ∧ rest = List.range' (i + 1) (eso.size - (i + 1)) := by
        have e : eso.size - i = (eso.size - (i + 1)) + 1 := by omega
        rw [e, List.range'_succ] at hr
        injection hr with h1 h2
        exact ⟨h1, h2⟩
      refine wpAny_bind (wpAny_dictEntries hoo' hdo' ?_)
      rw [Array.getElem?_eq_getElem hlt]
      obtain ⟨kv, hkv⟩ : ∃ kv, more[x]? = some kv := ⟨more[x]'(by rw [hlen]; exact hlt), List.getElem?_eq_getElem _⟩
      obtain ⟨k, v⟩ := kv
      obtain ⟨hkey, hval⟩ := hpo.get? (e := eso[x]) (by simp [hlt]) hkv
      obtain ⟨k', hkey', hhash⟩ := hko eso[x] (Array.getElem_mem hlt)
      obtain rfl : k' = k := knd.inj _ _ _ hkey' hkey
      show wpAny _ _ (holding [eso[x].key, eso[x].val] (dictPut d eso[x].hash eso[x].key eso[x].val) >>= _) _ _ _
      rw [hhash, hval]
      have hmx : (merged kvs (more.take x)).length ≤ sizeLine := by
        have e1 := merged_length_le kvs (more.take x)
        have e2 : (more.take x).length ≤ more.length := by rw [List.length_take]; omega
        omega
      refine wpAny_bind (wpAny_holding (wpAny_dictPut_pairs (hsz := hmx) hkey hd' fun h'' hd'' hs'' => ?_))
      have hoo'' : h''.get? o = some oo := (hs''.2 o (Ne.symm hdo)).trans hoo'
      refine wpAny_bind (wpAny_dictEpoch hoo'' hdo' ?_)
      rw [if_neg (by simp)]
      exact wpAny_pure ⟨h'', x + 1, rfl, hrest, hlt, by rw [merged_take_succ kvs more x (k', v) hkv]; exact hd'', hoo'', hs'.trans hs''⟩
    · rintro b s' ⟨h', i, rfl, hr, hi, hd', hoo', hs'⟩
      have hin : i = eso.size := by
        rcases Nat.lt_or_ge i eso.size with h | h
        · have e : eso.size - i = (eso.size - (i + 1)) + 1 := by omega
          rw [e, List.range'_succ] at hr; exact nomatch hr
        · exact Nat.le_antisymm hi h
      refine wpAny_pure (hQ h' ?_ ⟨oo, eso, epo, hoo', hco, hdo', hko, hpo, hno⟩ hs')
      rw [hin, ← hlen, List.take_length] at hd'; exact hd'
  rw [if_neg (by rw [hoS]; exact Bool.false_ne_true)]
  refine wpAny_bind (wpAny_dictEntries hod hdd ?_)
  split
  · refine wpAny_bind (wpAny_dictEntries hoo hdo' (wpAny_bind ?_))
    refine wpAny_of_eq (a := PUnit.unit) ?_ loop
    rw [← Array.forIn_toList]
    refine forIn_yield_id _ fun e he c => ?_
    obtain ⟨k, hkey, _⟩ := hko e (Array.mem_toList_iff.mp he)
    have hn := byValue_noref (knd.byValue k _ hkey)
    cases hv : e.key with
    | ref x => exact absurd hv (hn x)
    | _ => rfl
  · exact loop
end
def mstep (d : Addr) (v : Sem Value) : Sem PUnit := do
  let m ← holding [.ref d] v
  (((holding [.ref d, m] (mergeMapping d m false)).onRaise fun x => do let _ ← holding [.ref d, m, x] (runValue (.builtin "proto.let_go" {}))).tryCatch fun e => do
    if ← isInstance e (.type "AttributeError") then
      rule "dict.display.not-a-mapping"; raiseError "TypeError" s!"'{← typeNameOf m}' object is not a mapping"
    throw e).onRaise fun x => do let _ ← holding [.ref d, x] (runValue (.builtin "proto.let_go" {}))
theorem dictDisplay_two (v1 v2 : Sem Value) : dictDisplay [(none, v1), (none, v2)] = (do
    let d ← alloc { cls := .type "dict", data := .dict #[] }
    mstep d v1
    mstep d v2
    pure (.ref d)) := by
  unfold dictDisplay mstep
  simp only [List.forIn_cons, List.forIn_nil, List.isEmpty_nil, if_true, pure_bind, bind_assoc, bind_pure]
end PySem
namespace Pw
open PySem PySem.Spec PyProof.Rows L2 Evl
/-- {**a, **b} of two dicts -/
def tDm2 (t1 t2 : TE) : TE := fun σ H Q => ∀ p, H p = none → t1 σ (upd H p (.dK [])) fun x H1 => ∃ d kvs, x = .ref d ∧ d ≠ p ∧ Rd H1 d (.dK kvs) ∧ H1 p = some (.dK []) ∧
  t2 σ (upd H1 p (.dK (mergeK [] kvs))) fun y H2 => ∃ d2 kvs2, y = .ref d2 ∧ d2 ≠ p ∧ Rd H2 d2 (.dK kvs2) ∧ H2 p = some (.dK (mergeK [] kvs)) ∧ (mergeK [] kvs).length + kvs2.length ≤ sizeLine ∧ Q (.ref p) (upd H2 p (.dK (mergeK (mergeK [] kvs) kvs2)))
theorem pe_dm2 {X : Cx} {pos : Pos} {e1 e2 : Expr} {t1 t2 : TE} (h1 : PE X e1 t1) (h2 : PE X e2 t2) : PE X (.Dict [none, none] [e1, e2] pos) (tDm2 t1 t2) := by
  refine ⟨fun pins s σ H Q I q => ?_⟩
  have hn := I.hok.fresh (Nat.le_refl s.heap.objs.size)
  have I1 := I.laid (a := s.heap.objs.size) (o := .dK []) (h' := s.heap.push { cls := .type "dict", data := .dict #[] }) (t' := s.toks) (fun _ _ q => Heap.get?_push_of_some _ q) (Nat.le_refl _) (dk_empty s.heap I.big)
  rw [arm_eval_Dict]
  refine wpAny_bind (wpAny_standAt ?_)
  show wpAny _ _ (dictDisplay [(none, _), (none, _)]) _ _ s
  rw [dictDisplay_two]
  refine wpAny_bind (wpAny_alloc ?_)
  refine wpAny_bind ?_
  unfold mstep
  refine wpAny_bind (wpAny_holding (wpAny_bind (thn (h1.run pins _ σ _ _ I1 (q _ hn)) fun u s2 ⟨x, H2, I2, rx, d, kvs, ex, ne, hd, hp, q2⟩ => wpAny_bind (wpAny_standAt (wpAny_pure ?_)))))
  subst ex
  have rx : u = .ref d := rx
  subst rx
  obtain ⟨z1, hd1, vs1, rel1, dd1⟩ := dk_rd I2.hok hd
  obtain ⟨zp, hdp, vsp, relp, ddp⟩ := dk_of I2.hok hp
  cases relp
  have lv1 : vs1.length = kvs.length := by
    have := Paired.length rel1
    omega
  refine wpAny_onRaise (wpAny_tryCatch (wpAny_onRaise (wpAny_holding (wpAny_mergeMapping (hsz := by rw [List.length_nil, Nat.zero_add, lv1]; exact z1) (Ne.symm ne) hd1 ddp dd1 fun h' d1' d2' sb => ?_))))
  have hz : (mergeK [] kvs).length ≤ sizeLine := by
    have h3 := length_mergeK kvs []
    rw [List.length_nil] at h3
    omega
  have he : ∃ q, h'.get? s.heap.objs.size = some q := let ⟨q, _, _, hq, _⟩ := d1'; ⟨q, hq⟩
  have I3 := d_write (t' := s2.toks) I2 (by rw [hp]; exact True.intro) sb he (dk_new hz hdp (rel1.merge .nil) d1')
  refine wpAny_bind (wpAny_bind (wpAny_holding (wpAny_bind (thn (h2.run pins _ σ _ _ I3 q2) fun u s4 ⟨y, H4, I4, ry, d2, kvs2, ey, ne2, hd2, hp2, hsz, q4⟩ => wpAny_bind (wpAny_standAt (wpAny_pure ?_))))))
  subst ey
  have ry : u = .ref d2 := ry
  subst ry
  obtain ⟨z5, hd5, vs5, rel5, dd5⟩ := dk_rd I4.hok hd2
  obtain ⟨zq, hdq, vsq, relq, ddq⟩ := dk_of I4.hok hp2
  have lv5 : vs5.length = kvs2.length := by
    have := Paired.length rel5
    omega
  have lvq : vsq.length = (mergeK [] kvs).length := by
    have := Paired.length relq
    omega
  refine wpAny_onRaise (wpAny_tryCatch (wpAny_onRaise (wpAny_holding (wpAny_mergeMapping (hsz := by rw [lvq, lv5]; exact hsz) (Ne.symm ne2) hd5 ddq dd5 fun h6 d6 d6' sb6 => ?_))))
  have hz6 : (mergeK (mergeK [] kvs) kvs2).length ≤ sizeLine := by
    have h3 := length_mergeK kvs2 (mergeK [] kvs)
    omega
  have he6 : ∃ q, h6.get? s.heap.objs.size = some q := let ⟨q, _, _, hq, _⟩ := d6; ⟨q, hq⟩
  have I5 := d_write (t' := s4.toks) I4 (by rw [hp2]; exact True.intro) sb6 he6 (dk_new hz6 hdq (rel5.merge relq) d6)
  exact wpAny_pure ⟨.ref s.heap.objs.size, _, I5, rfl, q4⟩
end Pw

namespace Pw
open PySem L2 Evl
open Pd (sLt)
theorem rwp_merge {K : Frag} {H : Hp} : ∀ {kvs : List (Key × V)} {m acc : List (Str × Str)} {ak : List (Key × V)}, RwP K H kvs (encS m) → RwP K H ak (encS acc) → ((acc ++ m).map (·.1)).Nodup → RwP K H (mergeK ak kvs) (encS (acc ++ m))
  | kvs, [], acc, ak, h, ha, _ => by
    cases h
    rw [List.append_nil]
    exact ha
  | kvs, (k, v) :: r, acc, ak, h, ha, nd => by
    cases h with
    | @cons p q ps qs h1 ht =>
      obtain ⟨pk, pv⟩ := p
      obtain ⟨e1, e2⟩ := h1
      have e1 : pk = Sum.inr k := e1
      subst e1
      have hk : k ∉ acc.map (·.1) := fun hm => by
        rw [List.map_append] at nd
        exact (List.nodup_append.mp nd).2.2 k hm k (by simp) rfl
      have hp := rwp_put (k := Sum.inr k) e2 ha
      have hp : RwP K H (putK ak (Sum.inr k) pv) (putW (encS acc) (Sum.inr k) (.str v)) := hp
      rw [encS_put, putS_new hk] at hp
      have := rwp_merge (m := r) (acc := acc ++ [(k, v)]) ht hp (by rw [List.append_assoc]; exact nd)
      rw [List.append_assoc] at this
      exact this
section
variable {K : Frag} {E : XK} {ρ : Rho} {μ : Mu} {ta tb : TE} {X : Value → Mu → Prop}
theorem ew_dm2 {a b : Addr} {m1 m2 : List (Str × Str)} (ha : ∀ μx, Grow μ μx → EvD K ta ρ μx (.ref a)) (hb : ∀ μx, Grow μ μx → EvD K tb ρ μx (.ref b)) (l1 : μ a = some (.dk (encS m1))) (l2 : μ b = some (.dk (encS m2))) (nd : ((m1 ++ m2).map (·.1)).Nodup) (hl : m1.length + m2.length ≤ 1000) :
    EvW K E (tDm2 ta tb) ρ μ (fun w μ' => ∃ p, μ p = none ∧ w = .ref p ∧ μ' = mset μ p (.dk (encS (m1 ++ m2)))) X := fun σ H g Q q _ => fun p hp => by
  have hpm : μ p = none := g.2.free hp
  have t0 : Tk H (upd H p (.dK [])) := Tk.ex (Ex.new hp)
  have g0 : S K (upd H p (.dK [])) σ ρ (mset μ p (.dk (encS []))) := ⟨g.1.tk t0, g.2.put (nt_none hp) ⟨[], upd_same, .nil⟩⟩
  refine ha _ (Grow.new hpm) σ _ g0 _ fun v H1 e1 d1 => ?_
  cases d1
  have g1 := g0.mono e1
  have nap : a ≠ p := fun e => by
    rw [e, hpm] at l1
    cases l1
  have nbp : b ≠ p := fun e => by
    rw [e, hpm] at l2
    cases l2
  obtain ⟨kv, h1, r1⟩ := g1.2 a (.dk (encS m1)) (by rw [mset_ne nap]; exact l1)
  have hp1 := e1 _ _ upd_same
  refine ⟨a, kv, rfl, nap, .inl h1, hp1, ?_⟩
  have nd1 : ((([] : List (Str × Str)) ++ m1).map (·.1)).Nodup := by
    rw [List.nil_append]
    have nd' := nd
    rw [List.map_append] at nd'
    exact (List.nodup_append.mp nd').1
  have t1 : Tk H1 (upd H1 p (.dK (mergeK [] kv))) := Tk.upd (nt_dk hp1)
  have g2 : S K (upd H1 p (.dK (mergeK [] kv))) σ ρ (mset μ p (.dk (encS m1))) := ⟨g1.1.tk t1, by
    have := g1.2.put (o := .dk (encS m1)) (nt_dk hp1) ⟨_, upd_same, rwpm t1 (rwp_merge (acc := []) r1 .nil nd1)⟩
    rw [mset_mset] at this
    exact this⟩
  refine hb _ (Grow.new hpm) σ _ g2 _ fun v H2 e2 d2 => ?_
  cases d2
  have g3 := g2.mono e2
  obtain ⟨kv2, h2, r2⟩ := g3.2 b (.dk (encS m2)) (by rw [mset_ne nbp]; exact l2)
  have hp2 := e2 _ _ upd_same
  obtain ⟨kv1, h3, r3⟩ := g3.2 p (.dk (encS m1)) mset_same
  have ek : kv1 = mergeK [] kv := by
    rw [hp2] at h3
    cases h3
    rfl
  subst ek
  refine ⟨b, kv2, rfl, nbp, .inl h2, hp2, ?_, ?_⟩
  · rw [rwp_len r3, rwp_len r2, encS_len, encS_len]
    exact sz_of (by omega)
  have t2 : Tk H2 (upd H2 p (.dK (mergeK (mergeK [] kv) kv2))) := Tk.upd (nt_dk hp2)
  have tt := ((t0.trans (Tk.ex e1)).trans t1).trans ((Tk.ex e2).trans t2)
  refine q (.ref p) _ (.ref p) _ ⟨p, hpm, rfl, rfl⟩ tt ⟨g.1.tk tt, ?_⟩ (.ref p)
  have := g3.2.put (o := .dk (encS (m1 ++ m2))) (nt_dk hp2) ⟨_, upd_same, rwpm t2 (rwp_merge r2 r3 nd)⟩
  rw [mset_mset] at this
  exact this
/-- a bound, or None, != a bound -/
theorem ed_neO {hi : Option Str} {z : Str} (ha : EvD K ta ρ μ (oW hi)) (hb : EvD K tb ρ μ (.str z)) : EvD K (tOp rNe ta tb) ρ μ (.bl (!decide (hi = some z))) := by
  cases hi with
  | some y => exact (ed_neS ha hb).is (by congr 2; simp)
  | none =>
    refine (ed_two (z := .bl true) ha hb fun H v w Q dv dw k => ?_).is (by simp)
    cases dv
    cases dw
    exact ⟨rfl, k _ _ (Ex.refl H) (.bl _)⟩
end
/-- the pairs of two parts of which one lies below the other -/
theorem pairs_app {m1 m2 : List (Str × Str)} (nd : ((m1 ++ m2).map (·.1)).Nodup) (h : ∀ p ∈ m1, ∀ q ∈ m2, sLt p.1 q.1 = true) : pairsW (m1 ++ m2) = pairsW m1 ++ pairsW m2 := by
  have e2 : sortS ((m1 ++ m2).map (·.1)) = sortS (m1.map (·.1)) ++ sortS (m2.map (·.1)) := by
    refine pw_only ?_ (sortS_pw _) ?_
    · rw [List.map_append]
      exact (sortS_perm _).trans (List.Perm.append (sortS_perm _).symm (sortS_perm _).symm)
    · refine List.pairwise_append.mpr ⟨sortS_pw _, sortS_pw _, fun x hx y hy => ?_⟩
      obtain ⟨p, hp, rfl⟩ := List.mem_map.mp ((sortS_perm _).mem_iff.mp hx)
      obtain ⟨q, hq, rfl⟩ := List.mem_map.mp ((sortS_perm _).mem_iff.mp hy)
      show (!sLt q.1 p.1) = true
      rw [sLt_asym (h p hp q hq)]
      rfl
  have nd1 : (m1.map (·.1)).Nodup := by
    rw [List.map_append] at nd
    exact (List.nodup_append.mp nd).1
  have nd2 : (m2.map (·.1)).Nodup := by
    rw [List.map_append] at nd
    exact (List.nodup_append.mp nd).2.1
  unfold pairsW
  rw [e2, List.map_append]
  congr 1
  · refine List.map_congr_left fun k hk => ?_
    obtain ⟨v, hv⟩ := valS_some ((sortS_perm _).mem_iff.mp hk)
    have hv2 : valS (m1 ++ m2) k = some v := valS_at nd (List.mem_append.mpr (.inl (valS_mem hv)))
    unfold pairW
    rw [hv, hv2]
  · refine List.map_congr_left fun k hk => ?_
    obtain ⟨v, hv⟩ := valS_some ((sortS_perm _).mem_iff.mp hk)
    have hv2 : valS (m1 ++ m2) k = some v := valS_at nd (List.mem_append.mpr (.inr (valS_mem hv)))
    unfold pairW
    rw [hv, hv2]
/-- the law's merging -/
theorem rowsL_idem {m : Tb} (h : (keysT m).Nodup) : rowsL (rowsL m) = rowsL m := rows_eq (by rw [keys_rows]; exact (sortI_perm _).symm.nodup h) h fun c => getT_rows m c
theorem merged_law {m1 m2 : Tb} (h1 : (keysT m1).Nodup) (h2 : (keysT m2).Nodup) : rowsL (foldP m1 (rowsL m2)) = rowsL (foldL (rowsL m2) (rowsL m2) (rowsL m1)) := by
  have r1 : (keysT (rowsL m1)).Nodup := by rw [keys_rows]; exact (sortI_perm _).symm.nodup h1
  have r2 : (keysT (rowsL m2)).Nodup := by rw [keys_rows]; exact (sortI_perm _).symm.nodup h2
  rw [← merged_rows r1 r2, rowsL_idem h2]
  refine rows_eq (nodup_foldP _ _ h1) (nodup_foldP _ _ r1) fun c => ?_
  rw [getT_foldP _ _ r2, getT_foldP _ _ r2, getT_rows m1]
end Pw
namespace Pw
open PySem L2 Evl
section
variable {K : Frag} {E : XK} {ρ : Rho} {μ : Mu} {ta : TA} {tv : TE} {X : Value → Mu → Prop}
theorem ew_oneL {xs : List W} (ha : EvS K ta ρ μ xs) (hl : xs.length ≤ 100000) : EvW K E (tLst ta) ρ μ (fun w μ' => ∃ q, w = .ref q ∧ Grow μ μ' ∧ isL μ' q xs) X :=
  ew_imp (ew_lst ha hl) fun x μ5 hx => by
    obtain ⟨q, hq, rfl, rfl⟩ := hx
    exact ⟨q, rfl, Grow.new hq, .inl mset_same⟩
theorem ew_neLV {n : Nat} {xs : List W} {q : Addr} (ha : EvS K ta ρ μ xs) (hv : ∀ μ1, Grow μ μ1 → EvD K tv ρ μ1 (.ref q)) (i : isL μ q xs) (hl : xs.length ≤ 100000) (hg : ∀ μ1, Grow μ μ1 → ∀ w ∈ xs, Good n μ1 w) (hn : n + 1 ≤ 64) : EvW K E (tOp (rNeD K) (tLst ta) tv) ρ μ (fun w μ' => w = .bl false ∧ Grow μ μ') X :=
  ew_neD (P1 := fun w μ' => ∃ q1, w = .ref q1 ∧ Grow μ μ' ∧ isL μ' q1 xs) (P2 := fun x y μ' => ∃ q1, x = .ref q1 ∧ y = .ref q ∧ Grow μ μ' ∧ isL μ' q1 xs) (ew_oneL ha hl) (fun x μ1 hx => by
    obtain ⟨q1, rfl, g, i1⟩ := hx
    exact ew_pure (hv μ1 g) ⟨q1, rfl, rfl, g, i1⟩) fun x y μ2 hx => by
    obtain ⟨q1, rfl, rfl, g, i1⟩ := hx
    obtain ⟨dx, dy, z1, z2, s1, s2, e⟩ := two_lists (hg μ2 g) hn i1 (i.imp (fun h => g _ _ h) (fun h => g _ _ h))
    exact ⟨dx, dy, z1, z2, s1, s2, by rw [e]; rfl, g⟩
theorem ew_eqLV {n : Nat} {xs : List W} {q : Addr} (ha : EvS K ta ρ μ xs) (hv : ∀ μ1, Grow μ μ1 → EvD K tv ρ μ1 (.ref q)) (i : isL μ q xs) (hl : xs.length ≤ 100000) (hg : ∀ μ1, Grow μ μ1 → ∀ w ∈ xs, Good n μ1 w) (hn : n + 1 ≤ 64) : EvW K E (tOp (rEqD K) (tLst ta) tv) ρ μ (fun w μ' => w = .bl true ∧ Grow μ μ') X :=
  ew_eqD (P1 := fun w μ' => ∃ q1, w = .ref q1 ∧ Grow μ μ' ∧ isL μ' q1 xs) (P2 := fun x y μ' => ∃ q1, x = .ref q1 ∧ y = .ref q ∧ Grow μ μ' ∧ isL μ' q1 xs) (ew_oneL ha hl) (fun x μ1 hx => by
    obtain ⟨q1, rfl, g, i1⟩ := hx
    exact ew_pure (hv μ1 g) ⟨q1, rfl, rfl, g, i1⟩) fun x y μ2 hx => by
    obtain ⟨q1, rfl, rfl, g, i1⟩ := hx
    obtain ⟨dx, dy, z1, z2, s1, s2, e⟩ := two_lists (hg μ2 g) hn i1 (i.imp (fun h => g _ _ h) (fun h => g _ _ h))
    exact ⟨dx, dy, z1, z2, s1, s2, by rw [e], g⟩
end
theorem putT_new {m : Tb} {c : Int} {q : Int × W} (h : c ∉ keysT m) : putT m c q = m ++ [(c, q)] := by
  unfold putT
  rw [if_neg]
  intro e
  obtain ⟨p, hp, e2⟩ := List.any_eq_true.mp e
  exact h (List.mem_map.mpr ⟨p, hp, of_decide_eq_true e2⟩)
theorem foldL_snoc (o : Tb) (p : Int × Int × W) : ∀ (r b : Tb), foldL o b (r ++ [p]) = if keepB (getT o p.1) p.2.1 = true then putT (foldL o b r) p.1 p.2 else foldL o b r
  | [], b => rfl
  | q :: r, b => foldL_snoc o p r _
theorem foldP_len : ∀ (r t : Tb), (foldP t r).length ≤ t.length + r.length
  | [], t => Nat.le_refl _
  | p :: r, t => by
    have h1 := foldP_len r (if newB (getT t p.1) p.2.1 = true then putT t p.1 p.2 else t)
    have h2 : (if newB (getT t p.1) p.2.1 = true then putT t p.1 p.2 else t).length ≤ t.length + 1 := by
      split
      · exact putT_len _ _ _
      · omega
    show (foldP (if newB (getT t p.1) p.2.1 = true then putT t p.1 p.2 else t) r).length ≤ _
    rw [List.length_cons]
    omega
theorem okT_merge {m1 m2 : Tb} (h1 : okT m1) (h2 : okT m2) : okT (foldP m1 (rowsL m2)) := ⟨nodup_foldP _ _ h1.1, fun p hp => by
  rcases foldP_mem _ _ _ hp with ⟨q, hq, e⟩ | ⟨q, hq, e⟩
  · rw [← e]
    exact h1.2 q hq
  · rw [← e]
    exact h2.2 q (rowsL_mem hq)⟩
theorem rowsL_len (m : Tb) : (rowsL m).length = m.length := by
  unfold rowsL
  rw [List.length_map, (sortI_perm _).length_eq, keysT_len]
end Pw

namespace K25
open PySem L2 Evl Pw

inductive W_Sessions___init__ : List W → Mu → (W → Mu → Prop) → (Value → Mu → Prop) → Prop
  | mk {μ : Mu} {a dx : Addr} {P : W → Mu → Prop} {X : Value → Mu → Prop} (l : μ a = some (.ins "Sessions" dx [])) (h : ∀ d, μ d = none → P .non (mset (mset μ d (.dk [])) a (.ins "Sessions" dx [("_last", .ref d)]))) : W_Sessions___init__ [.ref a] μ P X
inductive W_Sessions_status : List W → Mu → W → Prop
  | mk {μ : Mu} {a dx d : Addr} {m : Tb} {c n : Int} (l1 : μ a = some (.ins "Sessions" dx [("_last", .ref d)])) (l2 : μ d = some (.dk (encG gP m))) : W_Sessions_status [.ref a, .int c, .int n] μ (.str (statF (getT m c) n))
inductive W_Sessions_answer : List W → Mu → (W → Mu → Prop) → (Str → Mu → Prop) → Prop
  | mk {μ : Mu} {a dx d : Addr} {m : Tb} {c : Int} {P : W → Mu → Prop} {X : Str → Mu → Prop} (l1 : μ a = some (.ins "Sessions" dx [("_last", .ref d)])) (l2 : μ d = some (.dk (encG gP m))) (hP : ∀ q, getT m c = some q → P q.2 μ) (hX : getT m c = none → X "BadShard" μ) : W_Sessions_answer [.ref a, .int c] μ P X
inductive W_Sessions_remember : List W → Mu → (W → Mu → Prop) → (Str → Mu → Prop) → Prop
  | mk {μ : Mu} {a dx d : Addr} {m : Tb} {c n : Int} {u : W} {P : W → Mu → Prop} {X : Str → Mu → Prop} (l1 : μ a = some (.ins "Sessions" dx [("_last", .ref d)])) (l2 : μ d = some (.dk (encG gP m))) (hl : m.length < 90000) (hP : newB (getT m c) n = true → P .non (mset μ d (.dk (encG gP (putT m c (n, u)))))) (hX : newB (getT m c) n = false → X "BadShard" μ) : W_Sessions_remember [.ref a, .int c, .int n, u] μ P X
inductive W_Sessions_rows : List W → Mu → W → Prop
  | mk {μ : Mu} {a dx d : Addr} {m : Tb} (l1 : μ a = some (.ins "Sessions" dx [("_last", .ref d)])) (l2 : μ d = some (.dk (encG gP m))) (h64 : m.length < 64) : W_Sessions_rows [.ref a] μ (.tup (rowsW m))
inductive W_Sessions_clone : List W → Mu → (W → Mu → Prop) → (Value → Mu → Prop) → Prop
  | mk {μ : Mu} {a dx d : Addr} {m : Tb} {P : W → Mu → Prop} {X : Value → Mu → Prop} (l1 : μ a = some (.ins "Sessions" dx [("_last", .ref d)])) (l2 : μ d = some (.dk (encG gP m))) (h : ∀ a' x' d' μ', Grow μ μ' → μ a' = none → μ d' = none → μ' a' = some (.ins "Sessions" x' [("_last", .ref d')]) → μ' d' = some (.dk (encG gP m)) → P (.ref a') μ') : W_Sessions_clone [.ref a] μ P X
inductive W_Sessions_merged : List W → Mu → (W → Mu → Prop) → (Value → Mu → Prop) → Prop
  | mk {μ : Mu} {a dx d b dy e : Addr} {m m2 : Tb} {P : W → Mu → Prop} {X : Value → Mu → Prop} (l1 : μ a = some (.ins "Sessions" dx [("_last", .ref d)])) (l2 : μ d = some (.dk (encG gP m))) (l3 : μ b = some (.ins "Sessions" dy [("_last", .ref e)])) (l4 : μ e = some (.dk (encG gP m2))) (h64 : m2.length < 64) (hl : m.length < 64) (h : ∀ a' x' d' μ', Grow μ μ' → μ a' = none → μ d' = none → μ' a' = some (.ins "Sessions" x' [("_last", .ref d')]) → μ' d' = some (.dk (encG gP (foldP m (rowsL m2)))) → P (.ref a') μ') : W_Sessions_merged [.ref a, .ref b] μ P X
inductive W_Shard___init__ : List W → Mu → (W → Mu → Prop) → (Value → Mu → Prop) → Prop
  | mk {μ : Mu} {a dx : Addr} {lo : Str} {hi : Option Str} {ep : Int} {P : W → Mu → Prop} {X : Value → Mu → Prop} (l : μ a = some (.ins "Shard" dx [])) (B : Bd lo hi ep) (h : ∀ it so sx la μ', (∀ b o, b ≠ a → μ b = some o → μ' b = some o) → μ it = none → μ so = none → μ la = none → Sh μ' a dx lo hi ep it so sx la [] [] → P .non μ') : W_Shard___init__ [.ref a, .str lo, oW hi, .int ep] μ P X
inductive W__filled : List W → Mu → (W → Mu → Prop) → (Value → Mu → Prop) → Prop
  | mk {μ : Mu} {lo : Str} {hi : Option Str} {ep : Int} {it so : Addr} {P : W → Mu → Prop} {X : Value → Mu → Prop} (B : Bd lo hi ep) (h : ∀ a dx μ', Grow μ μ' → μ a = none → μ' a = some (.ins "Shard" dx (shF lo hi ep it so)) → P (.ref a) μ') : W__filled [.str lo, oW hi, .int ep, .ref it, .ref so] μ P X
inductive W_Shard_has : List W → Mu → W → Prop
  | mk {μ : Mu} {a dx : Addr} {lo : Str} {hi : Option Str} {ep : Int} {it so sx la : Addr} {m : List (Str × Str)} {tb : Tb} {b : Str} (S : Sh μ a dx lo hi ep it so sx la m tb) : W_Shard_has [.ref a, .str b] μ (.bl (containsF lo hi b))
inductive W_Shard_status : List W → Mu → W → Prop
  | mk {μ : Mu} {a dx : Addr} {lo : Str} {hi : Option Str} {ep : Int} {it so sx la : Addr} {m : List (Str × Str)} {tb : Tb} {c n : Int} (S : Sh μ a dx lo hi ep it so sx la m tb) : W_Shard_status [.ref a, .int c, .int n] μ (.str (statF (getT tb c) n))
inductive W_Shard_answer : List W → Mu → (W → Mu → Prop) → (Str → Mu → Prop) → Prop
  | mk {μ : Mu} {a dx : Addr} {lo : Str} {hi : Option Str} {ep : Int} {it so sx la : Addr} {m : List (Str × Str)} {tb : Tb} {c : Int} {P : W → Mu → Prop} {X : Str → Mu → Prop} (S : Sh μ a dx lo hi ep it so sx la m tb) (hx : getT tb c ≠ none) (hP : ∀ q, getT tb c = some q → P q.2 μ) : W_Shard_answer [.ref a, .int c] μ P X
inductive W_Shard_serve : List W → Mu → (W → Mu → Prop) → (Str → Mu → Prop) → Prop
  | mk {μ : Mu} {a dx : Addr} {lo : Str} {hi : Option Str} {ep : Int} {it so sx la : Addr} {m : List (Str × Str)} {tb : Tb} {c n : Int} {op : Op} {P : W → Mu → Prop} {X : Str → Mu → Prop} (S : Sh μ a dx lo hi ep it so sx la m tb) (ho : okOp op) (hv : vOp op) (hm : m.length ≤ 1000) (hl : tb.length < 90000) (hS : containsF lo hi (placeF op) = true → statF (getT tb c) n = "stale" → P (.tup [.str "stale"]) μ) (hA : containsF lo hi (placeF op) = true → ∀ q, getT tb c = some q → n = q.1 → P (.tup [.str "again", q.2]) μ) (hN : containsF lo hi (placeF op) = true → newB (getT tb c) n = true → ∀ μ', μ' it = some (.dk (encS (resM m op))) → μ' la = some (.dk (encG gP (putT tb c (n, resW m op (oW hi))))) → (∀ b o, b ≠ it → b ≠ la → μ b = some o → μ' b = some o) → P (.tup [.str "new", resW m op (oW hi)]) μ') (hX : containsF lo hi (placeF op) = false → X "BadShard" μ) : W_Shard_serve [.ref a, .int c, .int n, opW op] μ P X
inductive W_Shard_content : List W → Mu → W → Prop
  | mk {μ : Mu} {a dx : Addr} {lo : Str} {hi : Option Str} {ep : Int} {it so sx la : Addr} {m : List (Str × Str)} {tb : Tb} (S : Sh μ a dx lo hi ep it so sx la m tb) (h64 : tb.length < 64) (hm : m.length ≤ 1000) : W_Shard_content [.ref a] μ (.tup [.tup (pairsW m), .tup (rowsW tb)])
inductive W_Shard_join : List W → Mu → (W → Mu → Prop) → (Str → Mu → Prop) → Prop
  | mk {μ : Mu} {a dx : Addr} {lo : Str} {hi : Option Str} {ep : Int} {it so sx la : Addr} {m : List (Str × Str)} {tb : Tb} {b dy : Addr} {lo2 : Str} {hi2 : Option Str} {ep2 : Int} {it2 so2 sx2 la2 : Addr} {m2 : List (Str × Str)} {tb2 : Tb} {P : W → Mu → Prop} {X : Str → Mu → Prop} (S : Sh μ a dx lo hi ep it so sx la m tb) (S2 : Sh μ b dy lo2 hi2 ep2 it2 so2 sx2 la2 m2 tb2) (B : Bd lo hi ep) (B2 : Bd lo2 hi2 ep2) (he : ep + 1 ≤ 1000000000000 ∧ ep2 + 1 ≤ 1000000000000) (nd : hi = some lo2 → ((m ++ m2).map (·.1)).Nodup) (hm : m.length + m2.length ≤ 1000) (ht : tb.length < 64 ∧ tb2.length < 64) (hP : hi = some lo2 → ∀ p dp ip sp xp lp μ', Grow μ μ' → μ ip = none → μ lp = none → Sh μ' p dp lo hi2 ((if ep2 > ep then ep2 else ep) + 1) ip sp xp lp (m ++ m2) (foldP tb (rowsL tb2)) → P (.ref p) μ') (hX : hi ≠ some lo2 → X "BadShard" μ) : W_Shard_join [.ref a, .ref b] μ P X
section
variable {P : Program} {w : World} {K : Frag} {mg : Str → Option Value} {base : Heap}
theorem sc_Sessions___init__ : FnScope ["self"] ["self"] (defScope s_Sessions___init__) := ⟨rfl, rfl, rfl, by decide +kernel, rfl, by decide +kernel, by decide +kernel⟩
theorem ok_Sessions___init__ {f : Addr} {fd : FuncData} (F : FnM K "__init__" "Sessions.__init__" s_Sessions___init__ f fd)
    (l_Sessions : Cls K (He.ga K "Sessions")) (n_Sessions__last : NoAttr K (He.ga K "Sessions") "_last") : FnOk P w K mg base CX0 1 f fd ["self"] (spM K W_Sessions___init__) := by
  refine fnm_mut F sc_Sessions___init__ ?_ ?_
  · rintro _ _ _ _ ⟨⟩
    rfl
  · intro ds μ Pq X W
    cases W
    rename_i a dx l h
    intro cdv A outer s H E hr
    refine ⟨_, pss_one (ps_fld (pv 0) pe_dnewK rfl), ?_⟩
    refine rm_fldG ew_newD fun w μ1 hP => ?_
    obtain ⟨p, hp, rfl, rfl⟩ := hP
    have ne : a ≠ p := fun e => by
      rw [← e, l] at hp
      cases hp
    exact ⟨a, "Sessions", dx, [], ed_var rfl, by rw [mset_ne ne]; exact l, l_Sessions, n_Sessions__last, Nat.le_of_ble_eq_true rfl, h p hp⟩

theorem sc_Sessions_status : FnScope ["self", "client", "number", "last"] ["self", "client", "number"] (defScope s_Sessions_status) := ⟨rfl, rfl, rfl, by decide +kernel, rfl, by decide +kernel, by decide +kernel⟩
theorem ok_Sessions_status {f : Addr} {fd : FuncData} (F : FnM K "status" "Sessions.status" s_Sessions_status f fd)
    (l_Sessions : Cls K (He.ga K "Sessions")) (n_Sessions__last : NoAttr K (He.ga K "Sessions") "_last") : FnOk P w K mg base CX0 1 f fd ["self", "client", "number"] (spP K W_Sessions_status) := by
  refine fnm_pure F sc_Sessions_status ?_ ?_
  · rintro _ _ _ ⟨⟩
    rfl
  · intro ds μ d W
    cases W
    rename_i a dx d m c n l1 l2
    intro cdv A outer s H E hr
    refine ⟨_, pss_cons (ps_if (pt_cmp (pc_dnotin (hu_of hr) (pv 1) (pe_fld (pv 0) rfl))) (pss_one (ps_ret pe_str)) pss_nil)
      (pss_cons (ps_set (i := 3) sc_Sessions_status.nd rfl (Or.inl rfl) (pe_ix ix_tup (pe_dget (hu_of hr) (pe_fld (pv 0) rfl) (pv 1) (fun _ _ => rfl)) pe_int (fun _ _ => rfl)))
      (pss_cons (ps_if (pt_cmpR op_eq (pv 2) (pv 3) (nomark _)) (pss_one (ps_ret pe_str)) pss_nil)
      (pss_one (ps_ret (pe_ifExp (pt_cmpR op_gt (pv 2) (pv 3) (nomark _)) pe_str pe_str))))), ?_⟩
    refine run_ifs (ec_val (ed_dnotin (k := Sum.inl c) (ed_var rfl) (ed_fld (ed_var rfl) l1 l_Sessions n_Sessions__last rfl) l2)) (fun q => ?_) (fun q => run_nexts ?_)
    · rw [encG_val] at q
      refine run_retS ed_str ?_
      cases e : getT m c with
      | none => rfl
      | some z =>
        rw [e] at q
        cases q
    · rw [encG_val] at q
      cases e : getT m c with
      | none =>
        rw [e] at q
        cases q
      | some z =>
      have ev : valW (encG gP m) (Sum.inl c) = some (gP c z) := by rw [encG_val, e]; rfl
      refine run_set (ed_ixT (xs := [.int c, .int z.1, z.2]) (ed_dget (k := Sum.inl c) (ed_fld (ed_var rfl) l1 l_Sessions n_Sessions__last rfl) (ed_var rfl) l2 ev) ed_int (by decide) rfl) ?_
      refine run_ifs (ec_test (ed_eqI (ed_var rfl) (ed_var rfl))) (fun q1 => ?_) (fun q1 => run_nexts ?_)
      · refine run_retS ed_str ?_
        rw [stat_some]
        rw [if_pos (of_decide_eq_true q1)]
      · refine run_ret (ed_if (x := .str (if z.1 < n then "new" else "stale")) (ec_test (ed_gt (ed_var rfl) (ed_var rfl))) (fun q2 => ed_str.is ?_) (fun q2 => ed_str.is ?_)) ?_
        · rw [if_pos (of_decide_eq_true q2)]
        · rw [if_neg (of_decide_eq_false q2)]
        · rw [stat_some]
          rw [if_neg (of_decide_eq_false q1)]

theorem sc_Sessions_answer : FnScope ["self", "client"] ["self", "client"] (defScope s_Sessions_answer) := ⟨rfl, rfl, rfl, by decide +kernel, rfl, by decide +kernel, by decide +kernel⟩
theorem ok_Sessions_answer {f : Addr} {fd : FuncData} (F : FnM K "answer" "Sessions.answer" s_Sessions_answer f fd)
    (l_Sessions : Cls K (He.ga K "Sessions")) (n_Sessions__last : NoAttr K (He.ga K "Sessions") "_last") (x_BadShard : ExcOf K mg "BadShard" (He.ga K "BadShard")) : FnOk P w K mg base (L2N.CX P w) 1 f fd ["self", "client"] (spX K W_Sessions_answer) := by
  refine fnm_x F sc_Sessions_answer ?_ ?_
  · rintro _ _ _ _ ⟨⟩
    rfl
  · intro ds μ Pq X W
    cases W
    rename_i a dx d m c l1 l2 hP hX
    intro cdv A outer s H E hr
    refine ⟨_, pss_cons (ps_if (pt_cmp (pc_dnotin (hu_of hr) (pv 1) (pe_fld (pv 0) rfl))) (pss_one (ps_ownN x_BadShard rfl (L2N.takes_of rfl rfl rfl rfl) rfl)) pss_nil)
      (pss_one (ps_ret (pe_ix ix_tup (pe_dget (hu_of hr) (pe_fld (pv 0) rfl) (pv 1) (fun _ _ => rfl)) pe_int (fun _ _ => rfl)))), ?_⟩
    refine rm_ifs (ec_val (ed_dnotin (k := Sum.inl c) (ed_var rfl) (ed_fld (ed_var rfl) l1 l_Sessions n_Sessions__last rfl) l2)) (fun q => ?_) (fun q => rm_nexts ?_)
    · rw [encG_val] at q
      refine rm_raiseS ⟨"BadShard", rfl, hX ?_⟩
      cases e : getT m c with
      | none => rfl
      | some z =>
        rw [e] at q
        cases q
    · rw [encG_val] at q
      cases e : getT m c with
      | none =>
        rw [e] at q
        cases q
      | some z =>
      have ev : valW (encG gP m) (Sum.inl c) = some (gP c z) := by rw [encG_val, e]; rfl
      exact rm_ret (ed_ixT (xs := [.int c, .int z.1, z.2]) (ed_dget (k := Sum.inl c) (ed_fld (ed_var rfl) l1 l_Sessions n_Sessions__last rfl) (ed_var rfl) l2 ev) ed_int (by decide) rfl) (hP z e)

theorem sc_Sessions_remember : FnScope ["self", "client", "number", "answer"] ["self", "client", "number", "answer"] (defScope s_Sessions_remember) := ⟨rfl, rfl, rfl, by decide +kernel, rfl, by decide +kernel, by decide +kernel⟩
theorem ok_Sessions_remember {f : Addr} {fd : FuncData} (F : FnM K "remember" "Sessions.remember" s_Sessions_remember f fd)
    (M_Sessions_status : MDef P w K mg base CX0 1 "Sessions" "status" ["self", "client", "number"] (spP K W_Sessions_status)) (x_BadShard : ExcOf K mg "BadShard" (He.ga K "BadShard")) (l_Sessions : Cls K (He.ga K "Sessions")) (n_Sessions__last : NoAttr K (He.ga K "Sessions") "_last") : FnOk P w K mg base (L2N.CX P w) 2 f fd ["self", "client", "number", "answer"] (spX K W_Sessions_remember) := by
  refine fnm_x F sc_Sessions_remember ?_ ?_
  · rintro _ _ _ _ ⟨⟩
    rfl
  · intro ds μ Pq X W
    cases W
    rename_i a dx d m c n u hl l1 l2 hP hX
    intro cdv A outer s H E hr
    refine ⟨_, pss_cons (ps_if (pt_cmpR op_ne (pe_methD E0 M_Sessions_status (hr.mono (by decide)) (pv 0) (pa_cons (pv 1) (pa_cons (pv 2) pa_nil))) pe_str (nomark _)) (pss_one (ps_ownN x_BadShard rfl (L2N.takes_of rfl rfl rfl rfl) rfl)) pss_nil)
      (pss_one (ps_dput (hu_of hr) (pe_fld (pv 0) rfl) (pv 1) (pe_tup (pa_cons (pv 1) (pa_cons (pv 2) (pa_cons (pv 3) pa_nil)))) rfl)), ?_⟩
    have es : decide (statF (getT m c) n = "new") = newB (getT m c) n := stat_new _ _
    refine rm_ifs (ec_test (ed_neS (ed_meth (xs := [.int c, .int n]) (ed_var rfl) l1 rfl (es_cons (ed_var rfl) (es_cons (ed_var rfl) es_nil)) (W_Sessions_status.mk l1 l2)) ed_str)) (fun q => ?_) (fun q => rm_nexts ?_)
    · rw [es] at q
      exact rm_raiseS ⟨"BadShard", rfl, hX (nt q)⟩
    · rw [es] at q
      refine rm_dput1 (k := Sum.inl c) (ed_tup (es_cons (ed_var rfl) (es_cons (ed_var rfl) (es_cons (ed_var rfl) es_nil))) (Nat.le_of_ble_eq_true rfl)) (ed_fld (ed_var rfl) l1 l_Sessions n_Sessions__last rfl) (ed_var rfl) l2 (by rw [encG_len]; omega) ?_
      have := encG_put gP m c (n, u)
      show Pq .non (mset μ d (.dk (putW (encG gP m) (Sum.inl c) (gP c (n, u)))))
      rw [this]
      exact hP (nn q)

theorem sc_Sessions_rows : FnScope ["self", "client"] ["self"] (defScope s_Sessions_rows) := ⟨rfl, rfl, rfl, by decide +kernel, rfl, by decide +kernel, by decide +kernel⟩
theorem ok_Sessions_rows {f : Addr} {fd : FuncData} (F : FnM K "rows" "Sessions.rows" s_Sessions_rows f fd)
    (z_tuple : mg "tuple" = none) (z_sorted : mg "sorted" = none) (l_Sessions : Cls K (He.ga K "Sessions")) (n_Sessions__last : NoAttr K (He.ga K "Sessions") "_last") : FnOk P w K mg base CX0 1 f fd ["self"] (spP K W_Sessions_rows) := by
  refine fnm_pure F sc_Sessions_rows ?_ ?_
  · rintro _ _ _ ⟨⟩
    rfl
  · intro ds μ d W
    cases W
    rename_i a dx d m h64 l1 l2
    intro cdv A outer s H E hr
    refine ⟨_, pss_one (ps_ret (pe_callTy cr_tupL (by rfl) z_tuple (by decide +kernel) (pa_cons (pe_lc (own := [("client", 1)]) (g := gName 1) (tt := tYes) (by rfl) sc_Sessions_rows.nd (pi_list (pe_callB (cr_srtDI rfl) (by rfl) z_sorted (by decide +kernel) (pa_cons (pe_fld (pv 0) rfl) pa_nil))) (blkOk_by (own := [("client", 1)]) (N := ["self", "client"]) (sc := defScope s_Sessions_rows) (by decide +kernel)) (fun _ _ _ _ _ => pg_name (i := 1) sc_Sessions_rows.nd rfl (Or.inl rfl)) (fun _ _ _ _ _ => pts_nil) (fun _ _ _ _ _ => (pe_dget (hu_of hr) (pe_fldC (K := K) (pv 0) rfl) (pv 1) (fun _ _ => rfl)))) pa_nil))), ?_⟩
    refine run_ret (ed_tupL ((el_lc (ws := (sortI (keysT m)).map W.int) (fun _ => true) (rowV gP m) ((el_srtDI (m := m.map fun p : Int × Int × W => (p.1, gP p.1 p.2)) (es_cons (ed_fld (ed_var rfl) l1 l_Sessions n_Sessions__last rfl) es_nil) l2 (by rw [List.length_map]; exact h64)).is (by rw [keys_encG])) ?_ (fun x _ => ec_yes) (fun x hx _ => ?_)).is (us := rowsW m) ?_)) rfl
    · rw [List.length_map, (sortI_perm _).length_eq, keysT_len]
      omega
    · obtain ⟨c, hc, rfl⟩ := List.mem_map.mp hx
      obtain ⟨q, e, -⟩ := getT_some ((sortI_perm _).mem_iff.mp hc)
      have ev : valW (encG gP m) (Sum.inl c) = some (gP c q) := by rw [encG_val, e]; rfl
      have er : rowV gP m (.int c) = gP c q := by
        show gP c ((getT m c).getD (0, .non)) = gP c q
        rw [e]
        rfl
      rw [er]
      exact ed_dget (k := Sum.inl c) (ed_fld (ed_var rfl) l1 l_Sessions n_Sessions__last rfl) (ed_var rfl) l2 ev
    · rw [List.filter_eq_self.mpr (fun _ _ => rfl), List.map_map]
      unfold rowsW rowsL
      rw [List.map_map]
      rfl

theorem sc_Sessions_clone : FnScope ["self", "table"] ["self"] (defScope s_Sessions_clone) := ⟨rfl, rfl, rfl, by decide +kernel, rfl, by decide +kernel, by decide +kernel⟩
theorem ok_Sessions_clone {f : Addr} {fd : FuncData} (F : FnM K "clone" "Sessions.clone" s_Sessions_clone f fd)
    (K_Sessions : KDef P w K mg base CX0 1 "Sessions" ["self"] (spM K W_Sessions___init__)) (l_Sessions : Cls K (He.ga K "Sessions")) (n_Sessions__last : NoAttr K (He.ga K "Sessions") "_last") (z_dict : mg "dict" = none) : FnOk P w K mg base CX0 3 f fd ["self"] (spM K W_Sessions_clone) := by
  refine fnm_mut F sc_Sessions_clone ?_ ?_
  · rintro _ _ _ _ ⟨⟩
    rfl
  · intro ds μ Pq X W
    cases W
    rename_i a dx d m l1 l2 h
    intro cdv A outer s H E hr
    refine ⟨_, pss_cons (ps_set (i := 1) sc_Sessions_clone.nd rfl (Or.inl rfl) (pe_mk0 E K_Sessions (hr.mono (by decide)) rfl))
      (pss_cons (ps_fld (pv 1) (pe_callTy cr_dictOf (by rfl) z_dict (by decide +kernel) (pa_cons (pe_fld (pv 0) rfl) pa_nil)) rfl)
      (pss_one (ps_ret (pv 1)))), ?_⟩
    refine rm_setW (P := fun w μ1 => ∃ p x e, w = .ref p ∧ μ p = none ∧ Grow μ μ1 ∧ μ1 p = some (.ins "Sessions" x [("_last", .ref e)])) (ew_mk0 fun p x hp => W_Sessions___init__.mk mset_same fun e he => ⟨rfl, p, x, e, rfl, hp, ?_, mset_same⟩) fun w μ1 hP => ?_
    · intro b o hb
      have n1 : b ≠ p := fun q => by
        rw [q, hp] at hb
        cases hb
      have hb2 : mset μ p (.ins "Sessions" x []) b = some o := by rw [mset_ne n1]; exact hb
      have n2 : b ≠ e := fun q => by
        rw [← q, hb2] at he
        cases he
      rw [mset_ne n1, mset_ne n2]
      exact hb2
    obtain ⟨p, x, e, rfl, hp, g1, lp⟩ := hP
    have l1' := g1 _ _ l1
    have l2' := g1 _ _ l2
    refine rm_seq (M := fun ρ μ3 => ρ = [some (.ref a), some (.ref p)] ∧ ∃ d', μ d' = none ∧ Grow μ μ3 ∧ μ3 p = some (.ins "Sessions" x [("_last", .ref d')]) ∧ μ3 d' = some (.dk (encG gP m))) (rm_fldG (ew_dcopy (es_cons (ed_fld (ed_var rfl) l1' l_Sessions n_Sessions__last rfl) es_nil) l2') fun w μ2 hP => ?_) (fun ρ μ3 hM => ?_)
    · obtain ⟨d', hd', rfl, rfl⟩ := hP
      have ne : p ≠ d' := fun q => by
        rw [← q, lp] at hd'
        cases hd'
      refine ⟨p, "Sessions", x, [("_last", .ref e)], ed_var rfl, by rw [mset_ne ne]; exact lp, l_Sessions, n_Sessions__last, Nat.le_of_ble_eq_true rfl, rfl, d', ?_, ?_, mset_same, by rw [mset_ne (Ne.symm ne)]; exact mset_same⟩
      · cases q : μ d' with
        | none => rfl
        | some o =>
          rw [g1 _ _ q] at hd'
          cases hd'
      · intro b o hb
        have n1 : b ≠ p := fun q => by
          rw [q, hp] at hb
          cases hb
        have n2 : b ≠ d' := fun q => by
          rw [← q, g1 _ _ hb] at hd'
          cases hd'
        rw [mset_ne n1, mset_ne n2]
        exact g1 _ _ hb
    · obtain ⟨rfl, d', hd', g3, lp3, ld3⟩ := hM
      exact rm_ret (ed_var rfl) (h p x d' μ3 g3 hp hd' lp3 ld3)

theorem sc_Sessions_merged : FnScope ["self", "other", "table", "client", "number", "answer"] ["self", "other"] (defScope s_Sessions_merged) := ⟨rfl, rfl, rfl, by decide +kernel, rfl, by decide +kernel, by decide +kernel⟩
theorem ok_Sessions_merged {f : Addr} {fd : FuncData} (F : FnM K "merged" "Sessions.merged" s_Sessions_merged f fd)
    (M_Sessions_clone : MDef P w K mg base CX0 3 "Sessions" "clone" ["self"] (spM K W_Sessions_clone)) (M_Sessions_rows : MDef P w K mg base CX0 1 "Sessions" "rows" ["self"] (spP K W_Sessions_rows)) (M_Sessions_status : MDef P w K mg base CX0 1 "Sessions" "status" ["self", "client", "number"] (spP K W_Sessions_status)) (M_Sessions_remember : MDef P w K mg base (L2N.CX P w) 2 "Sessions" "remember" ["self", "client", "number", "answer"] (spX K W_Sessions_remember)) : FnOk P w K mg base CX0 4 f fd ["self", "other"] (spM K W_Sessions_merged) := by
  refine fnm_mut F sc_Sessions_merged ?_ ?_
  · rintro _ _ _ _ ⟨⟩
    rfl
  · intro ds μ Pq X W
    cases W
    rename_i a dx d b dy e m m2 h64 hl l1 l2 l3 l4 h
    intro cdv A outer s H E hr
    refine ⟨_, pss_cons (ps_set (i := 2) sc_Sessions_merged.nd rfl (Or.inl rfl) (pe_methD0 E M_Sessions_clone (hr.mono (by decide)) (pv 0)))
      (pss_cons (ps_for PassesOwn.never rfl (pi_tup (pe_methD0 E0 M_Sessions_rows (hr.mono (by decide)) (pv 1))) (pg_tup (by rfl) (pgs_cons (pg_name (i := 3) sc_Sessions_merged.nd rfl (Or.inl rfl)) (pgs_cons (pg_name (i := 4) sc_Sessions_merged.nd rfl (Or.inl rfl)) (pgs_cons (pg_name (i := 5) sc_Sessions_merged.nd rfl (Or.inl rfl)) pgs_nil)))) (pss_one (ps_if (pt_cmpR op_eq (pe_methD E0 M_Sessions_status (hr.mono (by decide)) (pv 2) (pa_cons (pv 3) (pa_cons (pv 4) pa_nil))) pe_str (nomark _)) (pss_one (ps_expr (pe_methN M_Sessions_remember (hr.mono (by decide)) (pv 2) (pa_cons (pv 3) (pa_cons (pv 4) (pa_cons (pv 5) pa_nil)))))) pss_nil)))
      (pss_one (ps_ret (pv 2)))), ?_⟩
    refine rm_setW (P := fun w μ1 => ∃ p x d', w = .ref p ∧ μ p = none ∧ μ d' = none ∧ Grow μ μ1 ∧ μ1 p = some (.ins "Sessions" x [("_last", .ref d')]) ∧ μ1 d' = some (.dk (encG gP m))) (ew_meth (xs := []) (ed_var rfl) l1 rfl es_nil (W_Sessions_clone.mk l1 l2 fun p x d' μ1 g hp hd' lp ld => ⟨p, x, d', rfl, hp, hd', g, lp, ld⟩)) fun w μ1 hP => ?_
    obtain ⟨p, x, d', rfl, hp, hd', g1, lp, ld⟩ := hP
    refine rm_forT3 (ed_meth (xs := []) (ed_var rfl) (g1 _ _ l3) rfl es_nil (W_Sessions_rows.mk (g1 _ _ l3) (g1 _ _ l4) h64)) (fun n ρ μ' => ∃ a3 a4 a5 t, ρ = [some (.ref a), some (.ref b), some (.ref p), a3, a4, a5] ∧ Grow μ μ' ∧ μ' p = some (.ins "Sessions" x [("_last", .ref d')]) ∧ μ' d' = some (.dk (encG gP t)) ∧ t.length ≤ m.length + n ∧ foldP t ((rowsL m2).drop n) = foldP m (rowsL m2)) ⟨_, _, _, m, rfl, g1, lp, ld, Nat.le_refl _, rfl⟩ (fun n y ρ μ' hy hI => ?_) (fun ρ μ' hI => ?_)
    · obtain ⟨a3, a4, a5, t, rfl, g2, lp2, ld2, hlen, hf⟩ := hI
      unfold rowsW at hy
      rw [List.getElem?_map] at hy
      cases ey : (rowsL m2)[n]? with
      | none =>
        rw [ey] at hy
        cases hy
      | some z =>
      rw [ey] at hy
      have hn : n < (rowsL m2).length := (List.getElem?_eq_some_iff.mp ey).1
      have hn2 : n < 64 := by
        have := rows_len m2
        unfold rowsW at this
        rw [List.length_map] at this
        omega
      have hdrop : (rowsL m2).drop n = z :: (rowsL m2).drop (n + 1) := by
        rw [List.drop_eq_getElem_cons hn]
        rw [List.getElem?_eq_getElem hn] at ey
        rw [Option.some.inj ey]
      rw [hdrop] at hf
      obtain ⟨c, num, u⟩ := z
      refine ⟨.int c, .int num, u, (Option.some.inj hy).symm, ?_⟩
      have es : decide (statF (getT t c) num = "new") = newB (getT t c) num := stat_new _ _
      refine rm_if (ec_test (ed_eqS (ed_meth (xs := [.int c, .int num]) (ed_var rfl) lp2 rfl (es_cons (ed_var rfl) (es_cons (ed_var rfl) es_nil)) (W_Sessions_status.mk lp2 ld2)) ed_str)) (fun q => ?_) (fun q => ?_)
      · rw [es] at q
        refine rm_dropW (P := fun w μ3 => μ3 = mset μ' d' (.dk (encG gP (putT t c (num, u))))) (ew_methN (xs := [.int c, .int num, u]) (ed_var rfl) lp2 rfl (es_cons (ed_var rfl) (es_cons (ed_var rfl) (es_cons (ed_var rfl) es_nil))) (W_Sessions_remember.mk lp2 ld2 (by omega) (fun _ => rfl) fun e => absurd (q.symm.trans e) (by decide))) fun w μ3 hP => ?_
        subst hP
        have ne : p ≠ d' := fun e => by
          rw [← e, lp2] at ld2
          cases ld2
        refine ⟨_, _, _, putT t c (num, u), rfl, ?_, by rw [mset_ne ne]; exact lp2, mset_same, ?_, ?_⟩
        · intro b' o hb
          have n2 : b' ≠ d' := fun e => by
            rw [e, hd'] at hb
            cases hb
          rw [mset_ne n2]
          exact g2 _ _ hb
        · have : (putT t c (num, u)).length ≤ t.length + 1 := by
            rw [← keysT_len, keys_put, ← keysT_len]
            split
            · omega
            · rw [List.length_append]
              simp
          omega
        · rw [← hf]
          show _ = foldP (if newB (getT t c) num = true then putT t c (num, u) else t) _
          rw [if_pos q]
      · rw [es] at q
        refine rm_next ⟨_, _, _, t, rfl, g2, lp2, ld2, by omega, ?_⟩
        rw [← hf]
        show _ = foldP (if newB (getT t c) num = true then putT t c (num, u) else t) _
        rw [if_neg (by rw [q]; exact Bool.false_ne_true)]
    · obtain ⟨a3, a4, a5, t, rfl, g2, lp2, ld2, hlen, hf⟩ := hI
      have el : (rowsW m2).length = (rowsL m2).length := List.length_map _
      rw [el, List.drop_length] at hf
      have hf2 : t = foldP m (rowsL m2) := hf
      rw [hf2] at ld2
      exact rm_ret (ed_var rfl) (h p x d' μ' g2 hp hd' lp2 ld2)

theorem sc_Shard___init__ : FnScope ["self", "low", "high", "epoch"] ["self", "low", "high", "epoch"] (defScope s_Shard___init__) := ⟨rfl, rfl, rfl, by decide +kernel, rfl, by decide +kernel, by decide +kernel⟩
theorem ok_Shard___init__ {f : Addr} {fd : FuncData} (F : FnM K "__init__" "Shard.__init__" s_Shard___init__ f fd)
    (D_is_integer : Def P w K mg base 1 "is_integer" ["value", "least", "greatest"] (spP K W_is_integer)) (c_MOST_NUMBER : ∃ t, mg "MOST_NUMBER" = some (.int 1000000000000 t)) (D_is_range : Def P w K mg base 3 "is_range" ["low", "high"] (spP K W_is_range)) (x_BadShard : ExcOf K mg "BadShard" (He.ga K "BadShard")) (l_Shard : Cls K (He.ga K "Shard")) (n_Shard_low : NoAttr K (He.ga K "Shard") "low") (n_Shard_high : NoAttr K (He.ga K "Shard") "high") (n_Shard_epoch : NoAttr K (He.ga K "Shard") "epoch") (n_Shard__items : NoAttr K (He.ga K "Shard") "_items") (n_Shard__sessions : NoAttr K (He.ga K "Shard") "_sessions") (K_Sessions : KDef P w K mg base CX0 1 "Sessions" ["self"] (spM K W_Sessions___init__)) : FnOk P w K mg base (L2N.CX P w) 4 f fd ["self", "low", "high", "epoch"] (spM K W_Shard___init__) := by
  refine fnm_mutN F sc_Shard___init__ ?_ ?_
  · rintro _ _ _ _ ⟨⟩
    rfl
  · intro ds μ Pq X W
    cases W
    rename_i a dx lo hi ep B l h
    intro cdv A outer s H E hr
    refine ⟨_, pss_cons (ps_if (PW.pt (pw_or (pt_not (pt_val (pe_callD D_is_range (hr.mono (by decide)) rfl (pa_cons (pv 1) (pa_cons (pv 2) pa_nil))))) (pw_or1 (pt_not (pt_val (pe_callD D_is_integer (hr.mono (by decide)) rfl (pa_cons (pv 3) (pa_cons pe_int (pa_cons (pe_glob (v := V.int 1000000000000) rfl c_MOST_NUMBER.choose_spec ⟨_, rfl⟩) pa_nil))))))))) (pss_one (ps_ownN x_BadShard rfl (L2N.takes_of rfl rfl rfl rfl) rfl)) pss_nil)
      (pss_cons (ps_fld (pv 0) (pv 1) rfl)
      (pss_cons (ps_fld (pv 0) (pv 2) rfl)
      (pss_cons (ps_fld (pv 0) (pv 3) rfl)
      (pss_cons (ps_fld (pv 0) pe_dnewK rfl)
      (pss_one (ps_fld (pv 0) (pe_mk0 E K_Sessions (hr.mono (by decide)) rfl) rfl)))))), ?_⟩
    refine rm_ifs (ec_or (ec_not (ec_val (ed_call (es_cons (ed_var rfl) (es_cons (ed_var rfl) es_nil)) (W_is_range.mk .str (okD_s B.ko) dw_oW (okD_o B.kh))))) fun _ => ec_not (ec_val (ed_call (es_cons (ed_var rfl) (es_cons ed_int (es_cons ed_int es_nil))) (W_is_integer.mk .int)))) (fun q => ?_) (fun q => rm_nexts ?_)
    · have q2 : (!rangeB (.str lo) (oD hi) || !(decide (1 ≤ ep) && decide (ep ≤ 1000000000000))) = true := q
      rw [B.rng.ok, decide_eq_true B.e1, decide_eq_true B.e2] at q2
      cases q2
    refine rm_fldS (ed_var rfl) (ed_var rfl) l l_Shard n_Shard_low (Nat.le_of_ble_eq_true rfl) ?_
    refine rm_fldS (fs := [("low", .str lo)]) (ed_var rfl) (ed_var rfl) mset_same l_Shard n_Shard_high (Nat.le_of_ble_eq_true rfl) ?_
    refine rm_fldS (fs := [("low", .str lo), ("high", oW hi)]) (ed_var rfl) (ed_var rfl) mset_same l_Shard n_Shard_epoch (Nat.le_of_ble_eq_true rfl) ?_
    obtain ⟨μ3, e3⟩ : ∃ μ3, μ3 = mset (mset (mset μ a (.ins "Shard" dx (putFW "low" (.str lo) []))) a (.ins "Shard" dx (putFW "high" (oW hi) [("low", .str lo)]))) a (.ins "Shard" dx (putFW "epoch" (.int ep) [("low", .str lo), ("high", oW hi)])) := ⟨_, rfl⟩
    have o3 : μ3 a = some (.ins "Shard" dx [("low", .str lo), ("high", oW hi), ("epoch", .int ep)]) := by rw [e3]; exact mset_same
    have f3 : ∀ b, b ≠ a → μ3 b = μ b := fun b hb => by rw [e3, mset_ne hb, mset_ne hb, mset_ne hb]
    rw [← e3]
    clear e3
    have nn3 : ∀ b, μ3 b = none → b ≠ a ∧ μ b = none := fun b hb => by
      have n : b ≠ a := fun e => by
        rw [e, o3] at hb
        cases hb
      exact ⟨n, (f3 b n) ▸ hb⟩
    refine rm_seq (M := fun ρ μ4 => ρ = [some (.ref a), some (.str lo), some (oW hi), some (.int ep)] ∧ ∃ it, μ3 it = none ∧ μ4 it = some (.dk (encS [])) ∧ μ4 a = some (.ins "Shard" dx [("low", .str lo), ("high", oW hi), ("epoch", .int ep), ("_items", .ref it)]) ∧ ∀ b, b ≠ a → b ≠ it → μ4 b = μ3 b) (rm_fldG ew_newD fun w μ4 hP => ?_) (fun ρ μ4 hM => ?_)
    · obtain ⟨it, hi4, rfl, rfl⟩ := hP
      have ne := (nn3 it hi4).1
      exact ⟨a, "Shard", dx, [("low", .str lo), ("high", oW hi), ("epoch", .int ep)], ed_var rfl, by rw [mset_ne (Ne.symm ne)]; exact o3, l_Shard, n_Shard__items, Nat.le_of_ble_eq_true rfl, rfl, it, hi4, by rw [mset_ne ne]; exact mset_same, mset_same, fun b h1 h2 => by rw [mset_ne h1, mset_ne h2]⟩
    obtain ⟨rfl, it, hit, i4, o4, f4⟩ := hM
    obtain ⟨nit, mit⟩ := nn3 it hit
    refine rm_fldG (P1 := fun w μ5 => ∃ so sx la, w = .ref so ∧ μ4 so = none ∧ μ4 la = none ∧ Grow μ4 μ5 ∧ μ5 so = some (.ins "Sessions" sx [("_last", .ref la)]) ∧ μ5 la = some (.dk (encG gP []))) (ew_mk0 fun p x hp => W_Sessions___init__.mk mset_same fun e he => ?_) fun w μ5 hP => ?_
    · obtain ⟨q1, q2, q3, q4, q5⟩ := mk_facts (f := "_last") hp he
      exact ⟨rfl, p, x, e, rfl, hp, q5, q2, q3, q4⟩
    obtain ⟨so, sx, la, rfl, hso, hla, g5, s5, t5⟩ := hP
    have fr : ∀ b, μ4 b = none → b ≠ a ∧ b ≠ it ∧ μ b = none := fun b hb => by
      have n1 : b ≠ a := fun e => by
        rw [e, o4] at hb
        cases hb
      have n2 : b ≠ it := fun e => by
        rw [e, i4] at hb
        cases hb
      exact ⟨n1, n2, by rw [← f3 b n1, ← f4 b n1 n2]; exact hb⟩
    obtain ⟨so1, so2, so3⟩ := fr so hso
    obtain ⟨la1, la2, la3⟩ := fr la hla
    refine ⟨a, "Shard", dx, [("low", .str lo), ("high", oW hi), ("epoch", .int ep), ("_items", .ref it)], ed_var rfl, g5 _ _ o4, l_Shard, n_Shard__sessions, Nat.le_of_ble_eq_true rfl, h it so sx la _ (fun b o nb hb => ?_) mit so3 la3 ⟨mset_same, ?_, ?_, ?_, Ne.symm la2⟩⟩
    · have n2 : b ≠ it := fun e => by
        rw [e, mit] at hb
        cases hb
      rw [mset_ne nb]
      exact g5 _ _ (by rw [f4 b nb n2, f3 b nb]; exact hb)
    · rw [mset_ne nit]
      exact g5 _ _ i4
    · rw [mset_ne so1]
      exact s5
    · rw [mset_ne la1]
      exact t5

theorem sc__filled : FnScope ["low", "high", "epoch", "items", "sessions", "shard"] ["low", "high", "epoch", "items", "sessions"] (defScope s__filled) := ⟨rfl, rfl, rfl, by decide +kernel, rfl, by decide +kernel, by decide +kernel⟩
theorem ok__filled {f : Addr} {fd : FuncData} (F : FnP K "_filled" s__filled f fd) (g : mg "_filled" = some (.ref f))
    (K_Shard : KDef P w K mg base (L2N.CX P w) 4 "Shard" ["self", "low", "high", "epoch"] (spM K W_Shard___init__)) (l_Shard : Cls K (He.ga K "Shard")) (n_Shard__items : NoAttr K (He.ga K "Shard") "_items") (n_Shard__sessions : NoAttr K (He.ga K "Shard") "_sessions") : Def P w K mg base 6 "_filled" ["low", "high", "epoch", "items", "sessions"] (spM K W__filled) := by
  refine def_mk F g (F.bindsN fun _ _ _ _ _ _ us hl => match us, hl with | [_, _, _, _, _], _ => rfl) (fn_mut F sc__filled ?_ ?_)
  · rintro _ _ _ _ ⟨⟩
    rfl
  · intro ds μ Pq X W
    cases W
    rename_i lo hi ep it so B h
    intro cdv A outer s H E hr
    refine ⟨_, pss_cons (ps_set (i := 5) sc__filled.nd rfl (Or.inl rfl) (pe_mkN K_Shard (hr.mono (by decide)) rfl (pa_cons (pv 0) (pa_cons (pv 1) (pa_cons (pv 2) pa_nil)))))
      (pss_cons (ps_fld (pv 5) (pv 3) rfl)
      (pss_cons (ps_fld (pv 5) (pv 4) rfl)
      (pss_one (ps_ret (pv 5))))), ?_⟩
    refine rm_setW (P := fun w μ1 => ∃ p dx it0 so0, w = .ref p ∧ μ p = none ∧ Grow μ μ1 ∧ μ1 p = some (.ins "Shard" dx (shF lo hi ep it0 so0))) (ew_mkN (es_cons (ed_var rfl) (es_cons (ed_var rfl) (es_cons (ed_var rfl) es_nil))) fun p dx hp => W_Shard___init__.mk mset_same B fun it0 so0 sx la μ1 fr _ _ _ S => ⟨rfl, p, dx, it0, so0, rfl, hp, fun b o hb => ?_, S.o⟩) fun w μ1 hP => ?_
    · have nb : b ≠ p := fun e => by
        rw [e, hp] at hb
        cases hb
      exact fr b o nb (by rw [mset_ne nb]; exact hb)
    obtain ⟨p, dx, it0, so0, rfl, hp, g1, o1⟩ := hP
    refine rm_fldS (ed_var rfl) (ed_var rfl) o1 l_Shard n_Shard__items (Nat.le_of_ble_eq_true rfl) ?_
    refine rm_fldS (fs := shF lo hi ep it so0) (ed_var rfl) (ed_var rfl) mset_same l_Shard n_Shard__sessions (Nat.le_of_ble_eq_true rfl) ?_
    refine rm_ret (ed_var rfl) (h p dx _ (fun b o hb => ?_) hp mset_same)
    have nb : b ≠ p := fun e => by
      rw [e, hp] at hb
      cases hb
    rw [mset_ne nb, mset_ne nb]
    exact g1 _ _ hb

theorem sc_Shard_has : FnScope ["self", "place"] ["self", "place"] (defScope s_Shard_has) := ⟨rfl, rfl, rfl, by decide +kernel, rfl, by decide +kernel, by decide +kernel⟩
theorem ok_Shard_has {f : Addr} {fd : FuncData} (F : FnM K "has" "Shard.has" s_Shard_has f fd)
    (D_contains : Def P w K mg base 2 "contains" ["low", "high", "bound"] (spP K W_contains)) (l_Shard : Cls K (He.ga K "Shard")) (n_Shard_high : NoAttr K (He.ga K "Shard") "high") (n_Shard_low : NoAttr K (He.ga K "Shard") "low") : FnOk P w K mg base CX0 3 f fd ["self", "place"] (spP K W_Shard_has) := by
  refine fnm_pure F sc_Shard_has ?_ ?_
  · rintro _ _ _ ⟨⟩
    rfl
  · intro ds μ d W
    cases W
    rename_i a dx lo hi ep it so sx la m tb b S
    intro cdv A outer s H E hr
    refine ⟨_, pss_one (ps_ret (pe_callD D_contains (hr.mono (by decide)) rfl (pa_cons (pe_fld (pv 0) rfl) (pa_cons (pe_fld (pv 0) rfl) (pa_cons (pv 1) pa_nil))))), ?_⟩
    exact run_ret (ed_call (es_cons (ed_fld (ed_var rfl) S.o l_Shard n_Shard_low rfl) (es_cons (ed_fld (ed_var rfl) S.o l_Shard n_Shard_high rfl) (es_cons (ed_var rfl) es_nil))) W_contains.mk) rfl

theorem sc_Shard_status : FnScope ["self", "client", "number"] ["self", "client", "number"] (defScope s_Shard_status) := ⟨rfl, rfl, rfl, by decide +kernel, rfl, by decide +kernel, by decide +kernel⟩
theorem ok_Shard_status {f : Addr} {fd : FuncData} (F : FnM K "status" "Shard.status" s_Shard_status f fd)
    (M_Sessions_status : MDef P w K mg base CX0 1 "Sessions" "status" ["self", "client", "number"] (spP K W_Sessions_status)) (l_Shard : Cls K (He.ga K "Shard")) (n_Shard__sessions : NoAttr K (He.ga K "Shard") "_sessions") : FnOk P w K mg base CX0 2 f fd ["self", "client", "number"] (spP K W_Shard_status) := by
  refine fnm_pure F sc_Shard_status ?_ ?_
  · rintro _ _ _ ⟨⟩
    rfl
  · intro ds μ d W
    cases W
    rename_i a dx lo hi ep it so sx la m tb c n S
    intro cdv A outer s H E hr
    refine ⟨_, pss_one (ps_ret (pe_methD E0 M_Sessions_status (hr.mono (by decide)) (pe_fld (pv 0) rfl) (pa_cons (pv 1) (pa_cons (pv 2) pa_nil)))), ?_⟩
    exact run_ret (ed_meth (xs := [.int c, .int n]) (ed_fld (ed_var rfl) S.o l_Shard n_Shard__sessions rfl) S.s rfl (es_cons (ed_var rfl) (es_cons (ed_var rfl) es_nil)) (W_Sessions_status.mk S.s S.t)) rfl

theorem sc_Shard_answer : FnScope ["self", "client"] ["self", "client"] (defScope s_Shard_answer) := ⟨rfl, rfl, rfl, by decide +kernel, rfl, by decide +kernel, by decide +kernel⟩
theorem ok_Shard_answer {f : Addr} {fd : FuncData} (F : FnM K "answer" "Shard.answer" s_Shard_answer f fd)
    (M_Sessions_answer : MDef P w K mg base (L2N.CX P w) 1 "Sessions" "answer" ["self", "client"] (spX K W_Sessions_answer)) (l_Shard : Cls K (He.ga K "Shard")) (n_Shard__sessions : NoAttr K (He.ga K "Shard") "_sessions") : FnOk P w K mg base (L2N.CX P w) 2 f fd ["self", "client"] (spX K W_Shard_answer) := by
  refine fnm_x F sc_Shard_answer ?_ ?_
  · rintro _ _ _ _ ⟨⟩
    rfl
  · intro ds μ Pq X W
    cases W
    rename_i a dx lo hi ep it so sx la m tb c hx S hP
    intro cdv A outer s H E hr
    refine ⟨_, pss_one (ps_ret (pe_methN M_Sessions_answer (hr.mono (by decide)) (pe_fld (pv 0) rfl) (pa_cons (pv 1) pa_nil))), ?_⟩
    exact rm_retW (ew_methN (xs := [.int c]) (ed_fld (ed_var rfl) S.o l_Shard n_Shard__sessions rfl) S.s rfl (es_cons (ed_var rfl) es_nil) (W_Sessions_answer.mk S.s S.t hP fun e => absurd e hx))

theorem sc_Shard_serve : FnScope ["self", "client", "number", "op", "status"] ["self", "client", "number", "op"] (defScope s_Shard_serve) := ⟨rfl, rfl, rfl, by decide +kernel, rfl, by decide +kernel, by decide +kernel⟩
theorem ok_Shard_serve {f : Addr} {fd : FuncData} (F : FnM K "serve" "Shard.serve" s_Shard_serve f fd)
    (D_is_within : Def P w K mg base 6 "is_within" ["op", "low", "high"] (spP K W_is_within)) (l_Shard : Cls K (He.ga K "Shard")) (n_Shard_high : NoAttr K (He.ga K "Shard") "high") (n_Shard_low : NoAttr K (He.ga K "Shard") "low") (x_BadShard : ExcOf K mg "BadShard" (He.ga K "BadShard")) (M_Shard_status : MDef P w K mg base CX0 2 "Shard" "status" ["self", "client", "number"] (spP K W_Shard_status)) (M_Sessions_remember : MDef P w K mg base (L2N.CX P w) 2 "Sessions" "remember" ["self", "client", "number", "answer"] (spX K W_Sessions_remember)) (n_Shard__sessions : NoAttr K (He.ga K "Shard") "_sessions") (D_apply : Def P w K mg base 2 "apply" ["items", "op", "high"] (spM K W_apply)) (n_Shard__items : NoAttr K (He.ga K "Shard") "_items") (M_Shard_answer : MDef P w K mg base (L2N.CX P w) 2 "Shard" "answer" ["self", "client"] (spX K W_Shard_answer)) : FnOk P w K mg base (L2N.CX P w) 7 f fd ["self", "client", "number", "op"] (spX K W_Shard_serve) := by
  refine fnm_x F sc_Shard_serve ?_ ?_
  · rintro _ _ _ _ ⟨⟩
    rfl
  · intro ds μ Pq X W
    cases W
    rename_i a dx lo hi ep it so sx la m tb c n op ho hv hm hl S hS hA hN hX
    intro cdv A outer s H E hr
    refine ⟨_, pss_cons (ps_if (pt_not (pt_val (pe_callD D_is_within (hr.mono (by decide)) rfl (pa_cons (pv 3) (pa_cons (pe_fld (pv 0) rfl) (pa_cons (pe_fld (pv 0) rfl) pa_nil)))))) (pss_one (ps_ownN x_BadShard rfl (L2N.takes_of rfl rfl rfl rfl) rfl)) pss_nil)
      (pss_cons (ps_set (i := 4) sc_Shard_serve.nd rfl (Or.inl rfl) (pe_methD E0 M_Shard_status (hr.mono (by decide)) (pv 0) (pa_cons (pv 1) (pa_cons (pv 2) pa_nil))))
      (pss_cons (ps_if (pt_cmpR op_eq (pv 4) pe_str (nomark _)) (pss_one (ps_ret (pe_tup (pa_cons (pv 4) pa_nil)))) pss_nil)
      (pss_cons (ps_if (pt_cmpR op_eq (pv 4) pe_str (nomark _)) (pss_one (ps_expr (pe_methN M_Sessions_remember (hr.mono (by decide)) (pe_fld (pv 0) rfl) (pa_cons (pv 1) (pa_cons (pv 2) (pa_cons (pe_callM E D_apply (hr.mono (by decide)) rfl (pa_cons (pe_fld (pv 0) rfl) (pa_cons (pv 3) (pa_cons (pe_fld (pv 0) rfl) pa_nil)))) pa_nil)))))) pss_nil)
      (pss_one (ps_ret (pe_tup (pa_cons (pv 4) (pa_cons (pe_methN M_Shard_answer (hr.mono (by decide)) (pv 0) (pa_cons (pv 1) pa_nil)) pa_nil)))))))), ?_⟩
    refine rm_ifs (ec_not (ec_val (ed_call (es_cons (ed_var rfl) (es_cons (ed_fld (ed_var rfl) S.o l_Shard n_Shard_low rfl) (es_cons (ed_fld (ed_var rfl) S.o l_Shard n_Shard_high rfl) es_nil))) (W_is_within.mk ho hv)))) (fun q => ?_) (fun q => rm_nexts ?_)
    · have q2 : (!containsF lo hi (placeF op)) = true := q
      exact rm_raiseS ⟨"BadShard", rfl, hX (nt q2)⟩
    have q2 : (!containsF lo hi (placeF op)) = false := q
    have hc := nn q2
    refine rm_set (ed_meth (xs := [.int c, .int n]) (ed_var rfl) S.o rfl (es_cons (ed_var rfl) (es_cons (ed_var rfl) es_nil)) (W_Shard_status.mk S)) ?_
    refine rm_ifs (ec_test (ed_eqS (ed_var rfl) ed_str)) (fun q1 => ?_) (fun q1 => rm_nexts ?_)
    · have e : statF (getT tb c) n = "stale" := of_decide_eq_true q1
      rw [e]
      exact rm_retS (ed_tup (es_cons (ed_var rfl) es_nil) (Nat.le_of_ble_eq_true rfl)) (hS hc e)
    have ns : ¬ statF (getT tb c) n = "stale" := of_decide_eq_false q1
    have es : decide (statF (getT tb c) n = "new") = newB (getT tb c) n := stat_new _ _
    cases hb : newB (getT tb c) n with
    | true =>
      have e : statF (getT tb c) n = "new" := of_decide_eq_true (es.trans hb)
      rw [e]
      refine rm_seq (M := fun ρ μ' => ρ = [some (.ref a), some (.int c), some (.int n), some (opW op), some (.str "new")] ∧ μ' it = some (.dk (encS (resM m op))) ∧ μ' la = some (.dk (encG gP (putT tb c (n, resW m op (oW hi))))) ∧ (∀ b o, b ≠ it → b ≠ la → μ b = some o → μ' b = some o)) (rm_if (ec_test (ed_eqS (ed_var rfl) ed_str)) (fun _ => ?_) (fun q => absurd (show decide (("new" : Str) = "new") = false from q) (by decide +kernel))) (fun ρ μ' hM => ?_)
      · refine rm_dropW (P := fun w μ' => μ' it = some (.dk (encS (resM m op))) ∧ μ' la = some (.dk (encG gP (putT tb c (n, resW m op (oW hi))))) ∧ (∀ b o, b ≠ it → b ≠ la → μ b = some o → μ' b = some o)) (ew_methNA (Pa := fun ws μ1 => ws = [.int c, .int n, resW m op (oW hi)] ∧ Upd it (.dk (encS (resM m op))) μ μ1) (ed_fld (ed_var rfl) S.o l_Shard n_Shard__sessions rfl) ⟨_, _, S.s, rfl⟩ ?_ fun ws μ1 hw => ?_) fun w μ' hP => ⟨rfl, hP⟩
        · exact ea_consP (ed_var rfl) (ea_consP (ed_var rfl) (ea_cons (P := fun w μ1 => w = resW m op (oW hi) ∧ Upd it (.dk (encS (resM m op))) μ μ1) (ew_call (es_cons (ed_fld (ed_var rfl) S.o l_Shard n_Shard__items rfl) (es_cons (ed_var rfl) (es_cons (ed_fld (ed_var rfl) S.o l_Shard n_Shard_high rfl) es_nil))) (W_apply.mk S.i hm ho fun μ1 u => ⟨rfl, u⟩)) fun w μ1 hw => ea_pure es_nil ⟨by rw [hw.1], hw.2⟩))
        · obtain ⟨rfl, u⟩ := hw
          have nl := Ne.symm S.n
          refine W_Sessions_remember.mk (u.2 _ _ (ne_ins S.s S.i) S.s) (u.2 _ _ nl S.t) hl (fun _ => ⟨?_, mset_same, fun b o n1 n2 hb => ?_⟩) fun q => absurd (hb.symm.trans q) (by decide)
          · rw [mset_ne S.n]
            exact u.1
          · rw [mset_ne n2]
            exact u.2 _ _ n1 hb
      · obtain ⟨rfl, i1, t1, f1⟩ := hM
        have S1 := S.step i1 t1 f1
        refine rm_retW (ew_tup (P := fun ws μ2 => ws = [.str "new", resW m op (oW hi)] ∧ μ2 = μ') (ea_consP (ed_var rfl) (ea_cons (P := fun w μ2 => w = resW m op (oW hi) ∧ μ2 = μ') (ew_methN (xs := [.int c]) (ed_var rfl) S1.o rfl (es_cons (ed_var rfl) es_nil) (W_Shard_answer.mk S1 (by rw [getT_put, if_pos rfl]; exact fun h => by cases h) (fun q e2 => ?_))) fun w μ2 hw => ea_pure es_nil ⟨by rw [hw.1], hw.2⟩)) fun ws μ2 hw => ?_)
        · rw [getT_put, if_pos rfl] at e2
          cases e2
          exact ⟨rfl, rfl⟩
        · obtain ⟨rfl, rfl⟩ := hw
          exact ⟨Nat.le_of_ble_eq_true rfl, hN hc hb _ i1 t1 f1⟩
    | false =>
      cases eg : getT tb c with
      | none =>
        rw [eg] at hb
        cases hb
      | some q =>
      rw [eg] at ns es hb
      have e : n = q.1 := by
        rw [stat_some] at ns es
        by_cases c1 : n = q.1
        · exact c1
        · rw [if_neg c1] at ns es
          by_cases c2 : q.1 < n
          · rw [if_pos c2, hb] at es
            exact absurd es (by decide +kernel)
          · rw [if_neg c2] at ns
            exact absurd rfl ns
      have e2 : statF (some q) n = "again" := by rw [stat_some, if_pos e]
      rw [e2]
      refine rm_seq (M := fun ρ μ' => ρ = [some (.ref a), some (.int c), some (.int n), some (opW op), some (.str "again")] ∧ μ' = μ) (rm_if (ec_test (ed_eqS (ed_var rfl) ed_str)) (fun q => absurd (show decide (("again" : Str) = "new") = true from q) (by decide +kernel)) (fun _ => rm_next ⟨rfl, rfl⟩)) (fun ρ μ' hM => ?_)
      obtain ⟨rfl, rfl⟩ := hM
      refine rm_retW (ew_tup (P := fun ws μ2 => ws = [.str "again", q.2] ∧ μ2 = μ') (ea_consP (ed_var rfl) (ea_cons (P := fun w μ2 => w = q.2 ∧ μ2 = μ') (ew_methN (xs := [.int c]) (ed_var rfl) S.o rfl (es_cons (ed_var rfl) es_nil) (W_Shard_answer.mk S (by rw [eg]; exact fun h => by cases h) (fun q3 e3 => ?_))) fun w μ2 hw => ea_pure es_nil ⟨by rw [hw.1], hw.2⟩)) fun ws μ2 hw => ?_)
      · rw [eg] at e3
        cases e3
        exact ⟨rfl, rfl⟩
      · obtain ⟨rfl, rfl⟩ := hw
        exact ⟨Nat.le_of_ble_eq_true rfl, hA hc q eg e⟩

theorem sc_Shard_content : FnScope ["self", "pairs", "key"] ["self"] (defScope s_Shard_content) := ⟨rfl, rfl, rfl, by decide +kernel, rfl, by decide +kernel, by decide +kernel⟩
theorem ok_Shard_content {f : Addr} {fd : FuncData} (F : FnM K "content" "Shard.content" s_Shard_content f fd)
    (z_tuple : mg "tuple" = none) (z_sorted : mg "sorted" = none) (l_Shard : Cls K (He.ga K "Shard")) (n_Shard__items : NoAttr K (He.ga K "Shard") "_items") (M_Sessions_rows : MDef P w K mg base CX0 1 "Sessions" "rows" ["self"] (spP K W_Sessions_rows)) (n_Shard__sessions : NoAttr K (He.ga K "Shard") "_sessions") : FnOk P w K mg base CX0 2 f fd ["self"] (spP K W_Shard_content) := by
  refine fnm_pure F sc_Shard_content ?_ ?_
  · rintro _ _ _ ⟨⟩
    rfl
  · intro ds μ d W
    cases W
    rename_i a dx lo hi ep it so sx la m tb h64 hm S
    intro cdv A outer s H E hr
    refine ⟨_, pss_cons (ps_set (i := 1) sc_Shard_content.nd rfl (Or.inl rfl) (pe_callTy cr_tupL (by rfl) z_tuple (by decide +kernel) (pa_cons (pe_lc (own := [("key", 2)]) (g := gName 2) (tt := tYes) (by rfl) sc_Shard_content.nd (pi_list (pe_callB (cr_srtDA rfl) (by rfl) z_sorted (by decide +kernel) (pa_cons (pe_fld (pv 0) rfl) pa_nil))) (blkOk_by (own := [("key", 2)]) (N := ["self", "pairs", "key"]) (sc := defScope s_Shard_content) (by decide +kernel)) (fun _ _ _ _ _ => pg_name (i := 2) sc_Shard_content.nd rfl (Or.inl rfl)) (fun _ _ _ _ _ => pts_nil) (fun _ _ _ _ _ => (pe_tup (pa_cons (pv 2) (pa_cons (pe_dget (hu_of hr) (pe_fldC (K := K) (pv 0) rfl) (pv 2) (fun _ _ => rfl)) pa_nil))))) pa_nil)))
      (pss_one (ps_ret (pe_tup (pa_cons (pv 1) (pa_cons (pe_methD0 E0 M_Sessions_rows (hr.mono (by decide)) (pe_fld (pv 0) rfl)) pa_nil))))), ?_⟩
    refine run_set (ed_tupL ((el_lc (ws := (sortS (m.map (·.1))).map W.str) (fun _ => true) (pairO m) ((el_srtDA (sd := m.map fun p => (p.1, W.str p.2)) (es_cons (ed_fld (ed_var rfl) S.o l_Shard n_Shard__items rfl) es_nil) (by rw [← encS_K]; exact S.i)).is (by rw [keysS])) ?_ (fun x _ => ec_yes) (fun x hx _ => ?_)).is (us := pairsW m) ?_)) ?_
    · rw [List.length_map, (sortS_perm _).length_eq, List.length_map]
      omega
    · obtain ⟨k, hk, rfl⟩ := List.mem_map.mp hx
      obtain ⟨v, hv⟩ := valS_some ((sortS_perm _).mem_iff.mp hk)
      refine ed_tup (es_cons (ed_var rfl) (es_cons (ed_dget (k := Sum.inr k) (ed_fld (ed_var rfl) S.o l_Shard n_Shard__items rfl) (ed_var rfl) S.i ?_) es_nil)) (Nat.le_of_ble_eq_true rfl)
      rw [encS_val, hv]
      rfl
    · rw [List.filter_eq_self.mpr (fun _ _ => rfl), List.map_map]
      rfl
    exact run_ret (ed_tup (es_cons (ed_var rfl) (es_cons (ed_meth (xs := []) (ed_fld (ed_var rfl) S.o l_Shard n_Shard__sessions rfl) S.s rfl es_nil (W_Sessions_rows.mk S.s S.t h64)) es_nil)) (Nat.le_of_ble_eq_true rfl)) rfl

theorem sc_Shard_join : FnScope ["self", "other", "epoch", "items"] ["self", "other"] (defScope s_Shard_join) := ⟨rfl, rfl, rfl, by decide +kernel, rfl, by decide +kernel, by decide +kernel⟩
theorem ok_Shard_join {f : Addr} {fd : FuncData} (F : FnM K "join" "Shard.join" s_Shard_join f fd)
    (l_Shard : Cls K (He.ga K "Shard")) (n_Shard_high : NoAttr K (He.ga K "Shard") "high") (n_Shard_low : NoAttr K (He.ga K "Shard") "low") (x_BadShard : ExcOf K mg "BadShard" (He.ga K "BadShard")) (z_max : mg "max" = none) (n_Shard_epoch : NoAttr K (He.ga K "Shard") "epoch") (n_Shard__items : NoAttr K (He.ga K "Shard") "_items") (D__filled : Def P w K mg base 6 "_filled" ["low", "high", "epoch", "items", "sessions"] (spM K W__filled)) (M_Sessions_merged : MDef P w K mg base CX0 4 "Sessions" "merged" ["self", "other"] (spM K W_Sessions_merged)) (n_Shard__sessions : NoAttr K (He.ga K "Shard") "_sessions") : FnOk P w K mg base (L2N.CX P w) 7 f fd ["self", "other"] (spX K W_Shard_join) := by
  refine fnm_x F sc_Shard_join ?_ ?_
  · rintro _ _ _ _ ⟨⟩
    rfl
  · intro ds μ Pq X W
    cases W
    rename_i a dx lo hi ep it so sx la m tb b dy lo2 hi2 ep2 it2 so2 sx2 la2 m2 tb2 B B2 he nd hm ht S S2 hP hX
    intro cdv A outer s H E hr
    refine ⟨_, pss_cons (ps_if (pt_cmpR op_ne (pe_fld (pv 0) rfl) (pe_fld (pv 1) rfl) (nomark _)) (pss_one (ps_ownN x_BadShard rfl (L2N.takes_of rfl rfl rfl rfl) rfl)) pss_nil)
      (pss_cons (ps_set (i := 2) sc_Shard_join.nd rfl (Or.inl rfl) (pe_op op_add (pe_callB (cr_maxI rfl) (by rfl) z_max (by decide +kernel) (pa_cons (pe_fld (pv 0) rfl) (pa_cons (pe_fld (pv 1) rfl) pa_nil))) pe_int))
      (pss_cons (ps_set (i := 3) sc_Shard_join.nd rfl (Or.inl rfl) (pe_dm2 (pe_fld (pv 0) rfl) (pe_fld (pv 1) rfl)))
      (pss_one (ps_ret (pe_callM E D__filled (hr.mono (by decide)) rfl (pa_cons (pe_fld (pv 0) rfl) (pa_cons (pe_fld (pv 1) rfl) (pa_cons (pv 2) (pa_cons (pv 3) (pa_cons (pe_methD E M_Sessions_merged (hr.mono (by decide)) (pe_fld (pv 0) rfl) (pa_cons (pe_fld (pv 1) rfl) pa_nil)) pa_nil)))))))))), ?_⟩
    refine rm_ifs (ec_test (ed_neO (ed_fld (ed_var rfl) S.o l_Shard n_Shard_high rfl) (ed_fld (ed_var rfl) S2.o l_Shard n_Shard_low rfl))) (fun q => ?_) (fun q => rm_nexts ?_)
    · have q2 : (!decide (hi = some lo2)) = true := q
      exact rm_raiseS ⟨"BadShard", rfl, hX (of_decide_eq_false (nt q2))⟩
    have q2 : (!decide (hi = some lo2)) = false := q
    have hh : hi = some lo2 := of_decide_eq_true (nn q2)
    have hl := B.rng.high lo2 hh
    have BN : Bd lo hi2 ((if ep2 > ep then ep2 else ep) + 1) := ⟨⟨B.rng.low, fun z e => ⟨(B2.rng.high z e).1, Pd.sLt_tr hl.2 (B2.rng.high z e).2⟩⟩, B.ko, B2.kh, by have := B.e1; have := B2.e1; split <;> omega, by split <;> omega⟩
    refine rm_set (ed_add (ed_maxI (es_cons (ed_fld (ed_var rfl) S.o l_Shard n_Shard_epoch rfl) (es_cons (ed_fld (ed_var rfl) S2.o l_Shard n_Shard_epoch rfl) es_nil))) ed_int) ?_
    refine rm_setW (ew_dm2 (a := it) (b := it2) (fun μx g => (ed_fld (ed_var rfl) (g _ _ S.o) l_Shard n_Shard__items rfl)) (fun μx g => (ed_fld (ed_var rfl) (g _ _ S2.o) l_Shard n_Shard__items rfl)) S.i S2.i (nd hh) hm) fun w μ1 hP1 => ?_
    obtain ⟨ip, hip, rfl, rfl⟩ := hP1
    have g1 : Grow μ (mset μ ip (.dk (encS (m ++ m2)))) := Grow.new hip
    have i1 : mset μ ip (.dk (encS (m ++ m2))) ip = some (.dk (encS (m ++ m2))) := mset_same
    have back : ∀ b, mset μ ip (.dk (encS (m ++ m2))) b = none → μ b = none := fun b hb => by
      cases e : μ b with
      | none => rfl
      | some o =>
        rw [g1 _ _ e] at hb
        cases hb
    generalize mset μ ip (.dk (encS (m ++ m2))) = μ1 at g1 i1 back
    have T1 := S.grow g1
    have T2 := S2.grow g1
    refine rm_retW (ew_callA (Pa := fun ws μ2 => ∃ sp xp lp, ws = [.str lo, oW hi2, .int ((if ep2 > ep then ep2 else ep) + 1), .ref ip, .ref sp] ∧ Grow μ1 μ2 ∧ μ1 lp = none ∧ μ2 sp = some (.ins "Sessions" xp [("_last", .ref lp)]) ∧ μ2 lp = some (.dk (encG gP (foldP tb (rowsL tb2))))) (ea_consP (ed_fld (ed_var rfl) T1.o l_Shard n_Shard_low rfl) (ea_consP (ed_fld (ed_var rfl) T2.o l_Shard n_Shard_high rfl) (ea_consP (ed_var rfl) (ea_consP (ed_var rfl) (ea_cons (P := fun w μ2 => ∃ sp xp lp, w = .ref sp ∧ Grow μ1 μ2 ∧ μ1 lp = none ∧ μ2 sp = some (.ins "Sessions" xp [("_last", .ref lp)]) ∧ μ2 lp = some (.dk (encG gP (foldP tb (rowsL tb2))))) (ew_meth (xs := [.ref so2]) (ed_fld (ed_var rfl) T1.o l_Shard n_Shard__sessions rfl) T1.s rfl (es_cons (ed_fld (ed_var rfl) T2.o l_Shard n_Shard__sessions rfl) es_nil) (W_Sessions_merged.mk T1.s T1.t T2.s T2.t ht.2 ht.1 fun p x d μ2 g _ hd q1 q2 => ⟨p, x, d, rfl, g, hd, q1, q2⟩)) fun w μ2 hw => ea_pure es_nil ?_))))) fun ws μ2 hw => ?_)
    · obtain ⟨sp, xp, lp, rfl, g, h1, h2, h3⟩ := hw
      exact ⟨sp, xp, lp, rfl, g, h1, h2, h3⟩
    · obtain ⟨sp, xp, lp, rfl, g, h1, h2, h3⟩ := hw
      have nlp : ip ≠ lp := fun e => by
        rw [← e, i1] at h1
        cases h1
      exact W__filled.mk BN fun p dp μ3 g3 _ o3 => hP hh p dp ip sp xp lp μ3 ((g1.trans g).trans g3) hip (back _ h1) ⟨o3, g3 _ _ (g _ _ i1), g3 _ _ h2, g3 _ _ h3, nlp⟩
end
end K25

namespace K25
open PySem L2 Evl Pw

inductive W__law_join : List W → Mu → (W → Mu → Prop) → (Value → Mu → Prop) → Prop
  | mk {μ : Mu} {a dx : Addr} {lo : Str} {hi : Option Str} {ep : Int} {it so sx la : Addr} {m : List (Str × Str)} {tb : Tb} {b dy : Addr} {lo2 : Str} {hi2 : Option Str} {ep2 : Int} {it2 so2 sx2 la2 : Addr} {m2 : List (Str × Str)} {tb2 : Tb} {P : W → Mu → Prop} {X : Value → Mu → Prop} (S : Sh μ a dx lo hi ep it so sx la m tb) (S2 : Sh μ b dy lo2 hi2 ep2 it2 so2 sx2 la2 m2 tb2) (B : Bd lo hi ep) (B2 : Bd lo2 hi2 ep2) (he : ep + 1 ≤ 1000000000000 ∧ ep2 + 1 ≤ 1000000000000) (nd : hi = some lo2 → ((m ++ m2).map (·.1)).Nodup) (hm : m.length + m2.length ≤ 1000) (ht : tb.length < 64 ∧ tb2.length < 64) (hP : hi = some lo2 → ∀ p dp ip sp xp lp μ', Grow μ μ' → μ ip = none → μ lp = none → Sh μ' p dp lo hi2 ((if ep2 > ep then ep2 else ep) + 1) ip sp xp lp (m ++ m2) (foldP tb (rowsL tb2)) → P (.ref p) μ') (hN : hi ≠ some lo2 → P .non μ) : W__law_join [.ref a, .ref b] μ P X
inductive W__law_merged : List W → Mu → (W → Mu → Prop) → (Value → Mu → Prop) → Prop
  | mk {μ : Mu} {m1 m2 : Tb} {P : W → Mu → Prop} {X : Value → Mu → Prop} (n1 : (keysT m1).Nodup) (n2 : (keysT m2).Nodup) (l1 : m1.length ≤ 30) (l2 : m2.length ≤ 30) (h : ∀ μ', Grow μ μ' → P (.tup (rowsW (foldP m1 (rowsL m2)))) μ') : W__law_merged [.tup (rowsW m1), .tup (rowsW m2)] μ P X
inductive W__law_filled : List W → Mu → (W → Mu → Prop) → (Value → Mu → Prop) → Prop
  | mk {μ : Mu} {a : Addr} {ns : List Int} {st : Int} {lo : Str} {hi : Option Str} {ep : Int} {P : W → Mu → Prop} {X : Value → Mu → Prop} (l : μ a = some (scr ns)) (h63 : ns.length ≤ 63) (hs : 0 ≤ st ∧ st ≤ 100) (B : Bd lo hi ep) (h : ∀ s dx it so sx la m tb μ', Grow μ μ' → Sh μ' s dx lo hi ep it so sx la m tb → okM m → okT tb → (m.map (·.1)).Nodup → m.length ≤ 20 → tb.length ≤ 20 → (∀ p ∈ tb, -4 ≤ p.1) → (∀ p ∈ m, containsF lo hi p.1 = true) → P (.ref s) μ') : W__law_filled [.ref a, .int st, .str lo, oW hi, .int ep] μ P X
inductive W_law : List W → Mu → (W → Mu → Prop) → (Value → Mu → Prop) → Prop
  | mk {μ : Mu} {a : Addr} {ns : List Int} {P : W → Mu → Prop} {X : Value → Mu → Prop} (l : μ a = some (scr ns)) (h : ns.length ≤ 63) (p : ∀ μ', P (.bl true) μ') : W_law [.ref a] μ P X
section
variable {P : Program} {w : World} {K : Frag} {mg : Str → Option Value} {base : Heap}
theorem sc__law_join : FnScope ["one", "other"] ["one", "other"] (defScope s__law_join) := ⟨rfl, rfl, rfl, by decide +kernel, rfl, by decide +kernel, by decide +kernel⟩
theorem ok__law_join {f : Addr} {fd : FuncData} (F : FnP K "_law_join" s__law_join f fd) (g : mg "_law_join" = some (.ref f))
    (x_BadShard : ExcOf K mg "BadShard" (He.ga K "BadShard")) (m_BadShard : PySem.W.exmOne K (.ref (He.ga K "BadShard")) (.ref (He.ga K "BadShard")) = some true) (M_Shard_join : MDef P w K mg base (L2N.CX P w) 7 "Shard" "join" ["self", "other"] (spX K W_Shard_join)) : Def P w K mg base 8 "_law_join" ["one", "other"] (spM K W__law_join) := by
  refine def_mk F g (F.bindsN fun _ _ _ _ _ _ us hl => match us, hl with | [_, _], _ => rfl) (fn_mut F sc__law_join ?_ ?_)
  · rintro _ _ _ _ ⟨⟩
    rfl
  · intro ds μ Pq X W
    cases W
    rename_i a dx lo hi ep it so sx la m tb b dy lo2 hi2 ep2 it2 so2 sx2 la2 m2 tb2 B B2 he nd hm ht S S2 hP hN
    intro cdv A outer s H E hr
    refine ⟨_, pss_one (L2H.ps_try_onlyX (ts := fun _ _ _ => tRet (tC .non)) (tb := fun W => tRet (tMethE (He.ga K "Shard") "join" (spX K W_Shard_join) (WE W) (tVar 0) (tCons (tVar 1) tNil))) rfl rfl ⟨rfl, by decide, .inl x_BadShard.gC⟩ (fun _ => PassesOwnAt.never) takes0 (fun W pn xe tk _ _ => by exact (pss_one (ps_ret (pe_methE M_Shard_join (hr.mono (by decide)) (fun σ => L2N.passAt tk σ) (pv 0) (pa_cons (pv 1) pa_nil))))) (fun a oe cls d pn _ _ _ hot => (pss_one (ps_ret pe_non)))), ?_⟩
    exact rm_tryRM (P := Pq) (Xn := fun y μ' => y = "BadShard" ∧ μ' = μ ∧ hi ≠ some lo2) (xs := [.ref b]) (ed_var rfl) S.o rfl (es_cons (ed_var rfl) es_nil)
      (W_Shard_join.mk S S2 B B2 he nd hm ht hP fun q => ⟨rfl, rfl, q⟩)
      (fun w μ' p => p) (fun y μ' hx => by
        obtain ⟨rfl, rfl, q⟩ := hx
        exact ⟨m_BadShard, rm_ret ed_non (hN q)⟩)

theorem sc__law_merged : FnScope ["rows", "others", "table", "client", "number", "answer"] ["rows", "others"] (defScope s__law_merged) := ⟨rfl, rfl, rfl, by decide +kernel, rfl, by decide +kernel, by decide +kernel⟩
theorem ok__law_merged {f : Addr} {fd : FuncData} (F : FnP K "_law_merged" s__law_merged f fd) (g : mg "_law_merged" = some (.ref f))
    (z_tuple : mg "tuple" = none) (z_sorted : mg "sorted" = none) : Def P w K mg base 1 "_law_merged" ["rows", "others"] (spM K W__law_merged) := by
  refine def_mk F g (F.bindsN fun _ _ _ _ _ _ us hl => match us, hl with | [_, _], _ => rfl) (fn_mut F sc__law_merged ?_ ?_)
  · rintro _ _ _ _ ⟨⟩
    rfl
  · intro ds μ Pq X W
    cases W
    rename_i m1 m2 n1 n2 l1 l2 h
    intro cdv A outer s H E hr
    refine ⟨_, pss_cons (ps_set (i := 2) sc__law_merged.nd rfl (Or.inr rfl) pe_dnewK)
      (pss_cons (ps_for PassesOwn.never rfl (pi_tup (pv 1)) (pg_tup (by rfl) (pgs_cons (pg_name (i := 3) sc__law_merged.nd rfl (Or.inl rfl)) (pgs_cons (pg_name (i := 4) sc__law_merged.nd rfl (Or.inl rfl)) (pgs_cons (pg_name (i := 5) sc__law_merged.nd rfl (Or.inl rfl)) pgs_nil)))) (pss_one (ps_dput (hu_of hr) (pv 2) (pv 3) (pe_tup (pa_cons (pv 4) (pa_cons (pv 5) pa_nil))) rfl)))
      (pss_cons (ps_for PassesOwn.never rfl (pi_tup (pv 0)) (pg_tup (by rfl) (pgs_cons (pg_name (i := 3) sc__law_merged.nd rfl (Or.inl rfl)) (pgs_cons (pg_name (i := 4) sc__law_merged.nd rfl (Or.inl rfl)) (pgs_cons (pg_name (i := 5) sc__law_merged.nd rfl (Or.inl rfl)) pgs_nil)))) (pss_one (ps_if (PW.pt (pw_or (pt_cmp (pc_dnotin (hu_of hr) (pv 3) (pv 2))) (pw_or1 (pt_cmpR op_ge (pv 4) (pe_ix ix_tup (pe_dget (hu_of hr) (pv 2) (pv 3) (fun _ _ => rfl)) pe_int (fun _ _ => rfl)) (nomark _))))) (pss_one (ps_dput (hu_of hr) (pv 2) (pv 3) (pe_tup (pa_cons (pv 4) (pa_cons (pv 5) pa_nil))) rfl)) pss_nil)))
      (pss_one (ps_ret (pe_callTy cr_tupL (by rfl) z_tuple (by decide +kernel) (pa_cons (pe_lc (own := [("client", 3)]) (g := gName 3) (tt := tYes) (by rfl) sc__law_merged.nd (pi_list (pe_callB (cr_srtDI rfl) (by rfl) z_sorted (by decide +kernel) (pa_cons (pv 2) pa_nil))) (blkOk_by (own := [("client", 3)]) (N := ["rows", "others", "table", "client", "number", "answer"]) (sc := defScope s__law_merged) (by decide +kernel)) (fun _ _ _ _ _ => pg_name (i := 3) sc__law_merged.nd rfl (Or.inl rfl)) (fun _ _ _ _ _ => pts_nil) (fun _ _ _ _ _ => (pe_tup (pa_cons (pv 3) (pa_cons (pe_ix (r := rIxT K) ix_tup (pe_dget (hu_of hr) (pv 2) (pv 3) (fun _ _ => rfl)) pe_int (fun _ _ => rfl)) (pa_cons (pe_ix (r := rIxT K) ix_tup (pe_dget (hu_of hr) (pv 2) (pv 3) (fun _ _ => rfl)) pe_int (fun _ _ => rfl)) pa_nil)))))) pa_nil)))))), ?_⟩
    have r1 : (keysT (rowsL m1)).Nodup := by rw [keys_rows]; exact (sortI_perm _).symm.nodup n1
    have r2 : (keysT (rowsL m2)).Nodup := by rw [keys_rows]; exact (sortI_perm _).symm.nodup n2
    have e1 : (rowsL m1).length = m1.length := rowsL_len m1
    have e2 : (rowsL m2).length = m2.length := rowsL_len m2
    have at_ : ∀ {r : Tb} {n : Nat} {y : W}, (keysT r).Nodup → (r.map fun p => gP p.1 p.2)[n]? = some y → ∃ c num u, y = .tup [.int c, .int num, u] ∧ r[n]? = some (c, num, u) ∧ c ∉ keysT (r.take n) ∧ n < r.length := fun {r n y} hr hy => by
      rw [List.getElem?_map] at hy
      cases ey : r[n]? with
      | none =>
        rw [ey] at hy
        cases hy
      | some z =>
        rw [ey] at hy
        obtain ⟨c, num, u⟩ := z
        have hn : n < r.length := (List.getElem?_eq_some_iff.mp ey).1
        refine ⟨c, num, u, (Option.some.inj hy).symm, rfl, fun hc => ?_, hn⟩
        have nd2 : (keysT (r.take n ++ r.drop n)).Nodup := by
          rw [List.take_append_drop]
          exact hr
        have nd3 : (keysT (r.take n) ++ keysT (r.drop n)).Nodup := by
          unfold keysT at nd2 ⊢
          rw [← List.map_append]
          exact nd2
        refine (List.nodup_append.mp nd3).2.2 c hc c ?_ rfl
        rw [List.drop_eq_getElem_cons hn]
        rw [List.getElem?_eq_getElem hn] at ey
        rw [Option.some.inj ey]
        exact List.mem_cons_self ..
    refine rm_setW ew_newD fun w μ1 hP => ?_
    obtain ⟨t, ht, rfl, rfl⟩ := hP
    have g1 : Grow μ (mset μ t (.dk [])) := Grow.new ht
    refine rm_forT3 (xs := rowsW m2) (ed_var rfl) (fun n ρ μ' => ∃ a3 a4 a5, ρ = [some (.tup (rowsW m1)), some (.tup (rowsW m2)), some (.ref t), a3, a4, a5] ∧ Grow μ μ' ∧ μ' t = some (.dk (encG gL ((rowsL m2).take n)))) ⟨_, _, _, rfl, g1, mset_same⟩ (fun n y ρ μ' hy hI => ?_) (fun ρ μ' hI => ?_)
    · obtain ⟨a3, a4, a5, rfl, g2, lt⟩ := hI
      obtain ⟨c, num, u, rfl, hz, hc, hn⟩ := at_ r2 hy
      refine ⟨.int c, .int num, u, rfl, ?_⟩
      have et : (rowsL m2).take (n + 1) = putT ((rowsL m2).take n) c (num, u) := by rw [putT_new hc, List.take_add_one, hz]; rfl
      have hle : ((rowsL m2).take n).length ≤ 30 := by rw [List.length_take]; omega
      refine rm_dput1 (k := Sum.inl c) (x := .tup [.int num, u]) (kvs := encG gL ((rowsL m2).take n)) (ed_tup (es_cons (ed_var rfl) (es_cons (ed_var rfl) es_nil)) (Nat.le_of_ble_eq_true rfl)) (ed_var rfl) (ed_var rfl) lt (by rw [encG_len]; omega) ⟨_, _, _, rfl, fun b o hb => ?_, ?_⟩
      · have nb : b ≠ t := fun e => by
          rw [e, ht] at hb
          cases hb
        rw [mset_ne nb]
        exact g2 _ _ hb
      · rw [mset_same, et]
        exact congrArg (fun z => some (O.dk z)) (encG_put gL ((rowsL m2).take n) c (num, u))
    obtain ⟨a3, a4, a5, rfl, g2, lt⟩ := hI
    have el2 : (rowsW m2).length = (rowsL m2).length := List.length_map _
    rw [el2, List.take_length] at lt
    refine rm_forT3 (xs := rowsW m1) (ed_var rfl) (fun n ρ μ' => ∃ a3 a4 a5, ρ = [some (.tup (rowsW m1)), some (.tup (rowsW m2)), some (.ref t), a3, a4, a5] ∧ Grow μ μ' ∧ μ' t = some (.dk (encG gL (foldL (rowsL m2) (rowsL m2) ((rowsL m1).take n))))) ⟨_, _, _, rfl, g2, lt⟩ (fun n y ρ μ' hy hI => ?_) (fun ρ μ' hI => ?_)
    · obtain ⟨a3, a4, a5, rfl, g2, lt⟩ := hI
      obtain ⟨c, num, u, rfl, hz, hc, hn⟩ := at_ r1 hy
      refine ⟨.int c, .int num, u, rfl, ?_⟩
      have tk : (rowsL m1).take (n + 1) = (rowsL m1).take n ++ [(c, num, u)] := by rw [List.take_add_one, hz]; rfl
      have ndt : (keysT ((rowsL m1).take n)).Nodup := by
        unfold keysT at r1 ⊢
        rw [List.map_take]
        exact r1.sublist (List.take_sublist _ _)
      have gt : getT (foldL (rowsL m2) (rowsL m2) ((rowsL m1).take n)) c = getT (rowsL m2) c := by
        rw [getT_foldL _ _ _ ndt, getT_none hc]
      have hle : (foldL (rowsL m2) (rowsL m2) ((rowsL m1).take n)).length ≤ 60 := by
        have h3 := foldL_len (rowsL m2) ((rowsL m1).take n) (rowsL m2)
        rw [List.length_take] at h3
        omega
      have es := foldL_snoc (rowsL m2) (c, num, u) ((rowsL m1).take n) (rowsL m2)
      rw [← tk] at es
      generalize foldL (rowsL m2) (rowsL m2) ((rowsL m1).take n) = T at gt hle es lt
      refine rm_if (b := keepB (getT (rowsL m2) c) num) ?_ (fun q => ?_) (fun q => ?_)
      · cases eg : getT (rowsL m2) c with
        | none =>
          rw [eg] at gt
          have ev : (valW (encG gL T) (Sum.inl c)).isSome = false := by rw [encG_val, gt]; rfl
          exact EvC.is (ec_or (b := true) (ec_val (ed_dnotin (k := Sum.inl c) (ed_var rfl) (ed_var rfl) lt)) fun h => by
            rw [ev] at h
            cases h) (by rw [ev]; rfl)
        | some z =>
          rw [eg] at gt
          have ev : valW (encG gL T) (Sum.inl c) = some (gL c z) := by rw [encG_val, gt]; rfl
          exact EvC.is (ec_or (ec_val (ed_dnotin (k := Sum.inl c) (ed_var rfl) (ed_var rfl) lt)) fun _ => ec_test (ed_ge (ed_var rfl) (ed_ixT (xs := [.int z.1, z.2]) (ed_dget (k := Sum.inl c) (ed_var rfl) (ed_var rfl) lt ev) ed_int (by decide) rfl))) (by rw [ev]; rfl)
      · rw [if_pos q] at es
        refine rm_dput1 (k := Sum.inl c) (x := .tup [.int num, u]) (kvs := encG gL T) (ed_tup (es_cons (ed_var rfl) (es_cons (ed_var rfl) es_nil)) (Nat.le_of_ble_eq_true rfl)) (ed_var rfl) (ed_var rfl) lt (by rw [encG_len]; omega) ⟨_, _, _, rfl, fun b o hb => ?_, ?_⟩
        · have nb : b ≠ t := fun e => by
            rw [e, ht] at hb
            cases hb
          rw [mset_ne nb]
          exact g2 _ _ hb
        · rw [mset_same, es]
          exact congrArg (fun z => some (O.dk z)) (encG_put gL T c (num, u))
      · rw [if_neg (by rw [q]; exact Bool.false_ne_true)] at es
        exact rm_next ⟨_, _, _, rfl, g2, by rw [es]; exact lt⟩
    obtain ⟨a3, a4, a5, rfl, g2, lt⟩ := hI
    have el1 : (rowsW m1).length = (rowsL m1).length := List.length_map _
    rw [el1, List.take_length] at lt
    have hle : (foldL (rowsL m2) (rowsL m2) (rowsL m1)).length ≤ 60 := by
      have h3 := foldL_len (rowsL m2) (rowsL m1) (rowsL m2)
      omega
    have eR : rowsW (foldL (rowsL m2) (rowsL m2) (rowsL m1)) = rowsW (foldP m1 (rowsL m2)) := by
      unfold rowsW
      rw [merged_law n1 n2]
    have hfin := h μ' g2
    rw [← eR] at hfin
    generalize foldL (rowsL m2) (rowsL m2) (rowsL m1) = tb at lt hle hfin
    refine rm_ret (ed_tupL ((el_lc (ws := (sortI (keysT tb)).map W.int) (fun _ => true) (rowV gP tb) ((el_srtDI (m := tb.map fun p : Int × Int × W => (p.1, gL p.1 p.2)) (es_cons (ed_var rfl) es_nil) lt (by rw [List.length_map]; omega)).is (by rw [keys_encG])) ?_ (fun x _ => ec_yes) (fun x hx _ => ?_)).is (us := rowsW tb) ?_)) hfin
    · rw [List.length_map, (sortI_perm _).length_eq, keysT_len]
      omega
    · obtain ⟨c, hc, rfl⟩ := List.mem_map.mp hx
      obtain ⟨q, e, -⟩ := getT_some ((sortI_perm _).mem_iff.mp hc)
      have ev : valW (encG gL tb) (Sum.inl c) = some (gL c q) := by rw [encG_val, e]; rfl
      have er : rowV gP tb (.int c) = gP c q := by
        show gP c ((getT tb c).getD (0, .non)) = gP c q
        rw [e]
        rfl
      rw [er]
      exact ed_tup (es_cons (ed_var rfl) (es_cons (ed_ixT (xs := [.int q.1, q.2]) (ed_dget (k := Sum.inl c) (ed_var rfl) (ed_var rfl) lt ev) ed_int (by decide) rfl) (es_cons (ed_ixT (xs := [.int q.1, q.2]) (ed_dget (k := Sum.inl c) (ed_var rfl) (ed_var rfl) lt ev) ed_int (by decide) rfl) es_nil))) (Nat.le_of_ble_eq_true rfl)
    · rw [List.filter_eq_self.mpr (fun _ _ => rfl), List.map_map]
      unfold rowsW rowsL
      rw [List.map_map]
      rfl

theorem sc__law_filled : FnScope ["script", "start", "low", "high", "epoch", "shard", "k", "rich", "key"] ["script", "start", "low", "high", "epoch"] (defScope s__law_filled) := ⟨rfl, rfl, rfl, by decide +kernel, rfl, by decide +kernel, by decide +kernel⟩
theorem ok__law_filled {f : Addr} {fd : FuncData} (F : FnP K "_law_filled" s__law_filled f fd) (g : mg "_law_filled" = some (.ref f))
    (K_Shard : KDef P w K mg base (L2N.CX P w) 4 "Shard" ["self", "low", "high", "epoch"] (spM K W_Shard___init__)) (z_range : mg "range" = none) (z_min : mg "min" = none) (z_len : mg "len" = none) (D__law_rich : Def P w K mg base 1 "_law_rich" ["cell", "k"] (spP K W__law_rich)) (D__law_key : Def P w K mg base 2 "_law_key" ["rich"] (spP K W__law_key)) (M_Shard_has : MDef P w K mg base CX0 3 "Shard" "has" ["self", "place"] (spP K W_Shard_has)) (M_Shard_serve : MDef P w K mg base (L2N.CX P w) 7 "Shard" "serve" ["self", "client", "number", "op"] (spX K W_Shard_serve)) (D__law_value : Def P w K mg base 2 "_law_value" ["rich"] (spP K W__law_value)) : Def P w K mg base 8 "_law_filled" ["script", "start", "low", "high", "epoch"] (spM K W__law_filled) := by
  refine def_mk F g (F.bindsN fun _ _ _ _ _ _ us hl => match us, hl with | [_, _, _, _, _], _ => rfl) (fn_mut F sc__law_filled ?_ ?_)
  · rintro _ _ _ _ ⟨⟩
    rfl
  · intro ds μ Pq X W
    cases W
    rename_i a ns st lo hi ep h63 hs B l h
    intro cdv A outer s H E hr
    refine ⟨_, pss_cons (ps_set (i := 5) sc__law_filled.nd rfl (Or.inl rfl) (pe_mkN K_Shard (hr.mono (by decide)) rfl (pa_cons (pv 2) (pa_cons (pv 3) (pa_cons (pv 4) pa_nil)))))
      (pss_cons (ps_for PassesOwn.never rfl (pi_range2 rfl z_range (pa_cons (pv 1) (pa_cons (pe_callB (cr_minI rfl) (by rfl) z_min (by decide +kernel) (pa_cons (pe_callB cr_len (by rfl) z_len (by decide +kernel) (pa_cons (pv 0) pa_nil)) (pa_cons (pe_op op_add (pv 1) pe_int) pa_nil))) pa_nil))) (pg_name (i := 6) sc__law_filled.nd rfl (Or.inl rfl)) (pss_cons (ps_set (i := 7) sc__law_filled.nd rfl (Or.inl rfl) (pe_callD D__law_rich (hr.mono (by decide)) rfl (pa_cons (pe_ix ix_list (pv 0) (pv 6) (fun _ _ => rfl)) (pa_cons (pv 6) pa_nil))))
      (pss_cons (ps_set (i := 8) sc__law_filled.nd rfl (Or.inl rfl) (pe_callD D__law_key (hr.mono (by decide)) rfl (pa_cons (pe_op op_fdiv (pv 7) pe_int) pa_nil)))
      (pss_cons (ps_if (pt_not (pt_val (pe_methD E0 M_Shard_has (hr.mono (by decide)) (pv 5) (pa_cons (pv 8) pa_nil)))) (pss_one (ps_set (i := 8) sc__law_filled.nd rfl (Or.inl rfl) (pe_ifExp (pt_cmpR op_ne (pv 2) pe_str (nomark _)) (pv 2) pe_str))) pss_nil)
      (pss_one (ps_if (pt_val (pe_methD E0 M_Shard_has (hr.mono (by decide)) (pv 5) (pa_cons (pv 8) pa_nil))) (pss_one (ps_expr (pe_methN M_Shard_serve (hr.mono (by decide)) (pv 5) (pa_cons (pe_op op_sub (pe_un un_neg pe_int) (pe_op op_mod (pv 7) pe_int)) (pa_cons (pe_op op_add pe_int (pv 6)) (pa_cons (pe_tup (pa_cons pe_str (pa_cons (pv 8) (pa_cons (pe_callD D__law_value (hr.mono (by decide)) rfl (pa_cons (pe_op op_fdiv (pv 7) pe_int) pa_nil)) pa_nil)))) pa_nil)))))) pss_nil))))))
      (pss_one (ps_ret (pv 5)))), ?_⟩
    have e0 : (ns.map W.int).length = ns.length := List.length_map _
    refine rm_setW (P := fun w μ1 => ∃ s dx it so sx la, w = .ref s ∧ Grow μ μ1 ∧ μ it = none ∧ μ la = none ∧ Sh μ1 s dx lo hi ep it so sx la [] []) (ew_mkN (es_cons (ed_var rfl) (es_cons (ed_var rfl) (es_cons (ed_var rfl) es_nil))) fun p dx hp => W_Shard___init__.mk mset_same B fun it so sx la μ1 fr f1 _ f3 S => ⟨rfl, p, dx, it, so, sx, la, rfl, fun b o hb => ?_, ?_, ?_, S⟩) fun w μ1 hP => ?_
    · have nb : b ≠ p := fun e => by
        rw [e, hp] at hb
        cases hb
      exact fr b o nb (by rw [mset_ne nb]; exact hb)
    · have nb : it ≠ p := fun e => by
        rw [e, mset_same] at f1
        cases f1
      rw [mset_ne nb] at f1
      exact f1
    · have nb : la ≠ p := fun e => by
        rw [e, mset_same] at f3
        cases f3
      rw [mset_ne nb] at f3
      exact f3
    obtain ⟨s, dx, it, so, sx, la, rfl, g1, fi, fl, S1⟩ := hP
    refine rm_range2 (es_cons (ed_var rfl) (es_cons (ed_minI (es_cons (ed_lenL (es_cons (ed_var rfl) es_nil) (.inr (g1 _ _ l))) (es_cons (ed_add (ed_var rfl) ed_int) es_nil))) es_nil)) (by rw [e0]; refine ⟨by omega, by omega, ?_, ?_⟩ <;> split <;> omega)
      (fun k ρ μ' => ∃ x6 x7 x8 m tb, ρ = [some (.ref a), some (.int st), some (.str lo), some (oW hi), some (.int ep), some (.ref s), x6, x7, x8] ∧ Grow μ μ' ∧ Sh μ' s dx lo hi ep it so sx la m tb ∧ okM m ∧ okT tb ∧ (m.map (·.1)).Nodup ∧ m.length ≤ k ∧ tb.length ≤ k ∧ (∀ p ∈ tb, p.2.1 < 1 + (st + k)) ∧ (∀ p ∈ tb, -4 ≤ p.1) ∧ (∀ p ∈ m, containsF lo hi p.1 = true))
      ⟨_, _, _, [], [], rfl, g1, S1, fun q hq => (by cases hq), ⟨List.nodup_nil, fun q hq => by cases hq⟩, List.nodup_nil, Nat.le_refl _, Nat.le_refl _, fun q hq => (by cases hq), fun q hq => (by cases hq), fun q hq => (by cases hq)⟩ (fun k ρ μ' hk hI => ?_) (fun ρ μ' hI => ?_)
    · obtain ⟨x6, x7, x8, m, tb, rfl, g2, S, om, ot, nd, lm, lt, nb, cb, kb⟩ := hI
      rw [e0] at hk
      have hk2 : st + (k : Int) < (ns.length : Int) ∧ k < 20 := by
        split at hk <;> omega
      have La := g2 _ _ l
      refine rm_set (ed_call (es_cons (ed_ixL (x := .int (ns.getD (st + k).toNat 0)) (ed_var rfl) (ed_var rfl) (.inr La) (by omega) ?_) (es_cons (ed_var rfl) es_nil)) W__law_rich.mk) ?_
      · have q : (st + (k : Int)).toNat < ns.length := by omega
        rw [List.getElem?_map, List.getD_eq_getElem?_getD, List.getElem?_eq_getElem q]
        rfl
      generalize Pd.rich (ns.getD (st + k).toNat 0) (st + k) = r
      refine rm_set (ed_call (es_cons (ed_div (ed_var rfl) ed_int ⟨by decide, by decide⟩) es_nil) W__law_key.mk) ?_
      have k0 := keyS_key (r / 9)
      have o0 := okS_key (r / 9)
      generalize Pd.keyF (r / 9) = key0 at k0 o0
      refine rm_seq (M := fun ρ μ2 => ∃ key : Str, keyS key = true ∧ okS key ∧ ρ = [some (.ref a), some (.int st), some (.str lo), some (oW hi), some (.int ep), some (.ref s), some (.int (st + k)), some (.int r), some (.str key)] ∧ μ2 = μ') (rm_if (ec_not (ec_val (ed_meth (xs := [.str key0]) (ed_var rfl) S.o rfl (es_cons (ed_var rfl) es_nil) (W_Shard_has.mk S)))) (fun _ => ?_) (fun _ => rm_next ⟨key0, k0, o0, rfl, rfl⟩)) (fun ρ μ2 hM => ?_)
      · by_cases c3 : lo = ""
        · exact rm_asg (d := .str "a") (ed_if (ec_test (ed_neS (ed_var rfl) ed_str)) (fun c => by
            have c2 : (!decide (lo = "")) = true := c
            rw [decide_eq_true c3] at c2
            cases c2) (fun _ => ed_str)) ⟨"a", by decide +kernel, okS_lit (by decide +kernel), rfl, rfl⟩
        · have b2 : (keyS lo || decide (lo = "")) = true := B.rng.low
          rw [decide_eq_false c3, Bool.or_false] at b2
          exact rm_asg (d := .str lo) (ed_if (ec_test (ed_neS (ed_var rfl) ed_str)) (fun _ => ed_var rfl) (fun c => by
            have c2 : (!decide (lo = "")) = false := c
            rw [decide_eq_false c3] at c2
            cases c2)) ⟨lo, b2, B.ko, rfl, rfl⟩
      obtain ⟨key, kk, ko, rfl, rfl⟩ := hM
      have e1 : ((k + 1 : Nat) : Int) = (k : Int) + 1 := Int.natCast_add _ _
      refine rm_if (ec_val (ed_meth (xs := [.str key]) (ed_var rfl) S.o rfl (es_cons (ed_var rfl) es_nil) (W_Shard_has.mk S))) (fun q => ?_) (fun q => ?_)
      · have hc : containsF lo hi key = true := q
        have hn : newB (getT tb (-1 - r % 4)) (1 + (st + k)) = true := okT_new ot nb
        refine rm_dropW (P := fun w μ3 => μ3 it = some (.dk (encS (resM m (.put key (valueF (r / 900)))))) ∧ μ3 la = some (.dk (encG gP (putT tb (-1 - r % 4) (1 + (st + k), resW m (.put key (valueF (r / 900))) (oW hi))))) ∧ ∀ b o, b ≠ it → b ≠ la → μ2 b = some o → μ3 b = some o) (ew_methN (xs := [.int (-1 - r % 4), .int (1 + (st + k)), opW (.put key (valueF (r / 900)))]) (ed_var rfl) S.o rfl (es_cons (ed_sub (i := -1) (ed_neg (i := 1) ed_int) (ed_mod (ed_var rfl) ed_int (by decide))) (es_cons (ed_add ed_int (ed_var rfl)) (es_cons (ed_tup (es_cons ed_str (es_cons (ed_var rfl) (es_cons (ed_call (es_cons (ed_div (ed_var rfl) ed_int ⟨by decide, by decide⟩) es_nil) W__law_value.mk) es_nil))) (Nat.le_of_ble_eq_true rfl)) es_nil)))
          (W_Shard_serve.mk S ⟨ko, okS_value _⟩ ⟨kk, valB_value _⟩ (by omega) (by omega) (fun _ e => absurd (hn.symm.trans (stale_new e)) (by decide)) (fun _ z e e2 => by
            rw [e, e2, new_same] at hn
            cases hn) (fun _ _ μ3 q1 q2 q3 => ⟨q1, q2, q3⟩) fun e => absurd (hc.symm.trans e) (by decide))) fun w μ3 hP => ?_
        obtain ⟨q1, q2, q3⟩ := hP
        refine ⟨_, _, _, resM m (.put key (valueF (r / 900))), putT tb (-1 - r % 4) (1 + (st + k), resW m (.put key (valueF (r / 900))) (oW hi)), rfl, fun b o hb => q3 b o (fun e => by
          rw [e, fi] at hb
          cases hb) (fun e => by
          rw [e, fl] at hb
          cases hb) (g2 _ _ hb), S.step q1 q2 q3, resM_ok om ⟨ko, okS_value _⟩, okT_put ot fun μ => good_res om B.kh μ, resM_nodup nd _, ?_, ?_, fun p hp => ?_, fun p hp => ?_, fun p hp => ?_⟩
        · have := resM_len m (.put key (valueF (r / 900)))
          omega
        · have := putT_len tb (-1 - r % 4) (1 + (st + k), resW m (.put key (valueF (r / 900))) (oW hi))
          omega
        · rw [e1]
          rcases putT_mem hp with h1 | h1
          · have := nb p h1
            omega
          · rw [h1]
            show 1 + (st + (k : Int)) < _
            omega
        · rcases mem_keys_put (List.mem_map.mpr ⟨p, hp, rfl⟩) with h1 | h1
          · obtain ⟨p2, hp2, e2⟩ := List.mem_map.mp h1
            have := cb p2 hp2
            rw [e2] at this
            exact this
          · rw [h1]
            have := Int.emod_lt_of_pos r (show (0 : Int) < 4 by decide)
            omega
        · rcases putS_mem hp with h1 | h1
          · rw [h1]
            exact hc
          · exact kb p h1
      · exact rm_next ⟨_, _, _, m, tb, rfl, g2, S, om, ot, nd, by omega, by omega, fun p hp => by
          have := nb p hp
          rw [e1]
          omega, cb, kb⟩
    · obtain ⟨x6, x7, x8, m, tb, rfl, g2, S, om, ot, nd, lm, lt, nb, cb, kb⟩ := hI
      rw [e0] at lm lt
      have hk : ((if st + 20 < (ns.length : Int) then st + 20 else (ns.length : Int)) - st).toNat ≤ 20 := by split <;> omega
      exact rm_ret (ed_var rfl) (h s dx it so sx la m tb μ' g2 S om ot nd (by omega) (by omega) cb kb)

theorem sc_law : FnScope ["script", "rich", "one", "other", "contents", "both", "rows", "low", "high", "other_low", "other_high"] ["script"] (defScope s_law) := ⟨rfl, rfl, rfl, by decide +kernel, rfl, by decide +kernel, by decide +kernel⟩
theorem ok_law {f : Addr} {fd : FuncData} (F : FnP K "law" s_law f fd)
    (D__law_rich : Def P w K mg base 1 "_law_rich" ["cell", "k"] (spP K W__law_rich)) (D__law_cell : Def P w K mg base 1 "_law_cell" ["script", "k"] (spP K W__law_cell)) (D__law_range : Def P w K mg base 4 "_law_range" ["rich"] (spP K W__law_range)) (D__law_filled : Def P w K mg base 8 "_law_filled" ["script", "start", "low", "high", "epoch"] (spM K W__law_filled)) (M_Shard_content : MDef P w K mg base CX0 2 "Shard" "content" ["self"] (spP K W_Shard_content)) (D__law_join : Def P w K mg base 8 "_law_join" ["one", "other"] (spM K W__law_join)) (l_Shard : Cls K (He.ga K "Shard")) (n_Shard_epoch : NoAttr K (He.ga K "Shard") "epoch") (z_max : mg "max" = none) (n_Shard_high : NoAttr K (He.ga K "Shard") "high") (n_Shard_low : NoAttr K (He.ga K "Shard") "low") (D__law_merged : Def P w K mg base 1 "_law_merged" ["rows", "others"] (spM K W__law_merged)) (M_Shard_serve : MDef P w K mg base (L2N.CX P w) 7 "Shard" "serve" ["self", "client", "number", "op"] (spX K W_Shard_serve)) : FnOk P w K mg base CX0 9 f fd ["script"] (spM K W_law) := by
  refine fn_mut F sc_law ?_ ?_
  · rintro _ _ _ _ ⟨⟩
    rfl
  · intro ds μ Pq X W
    cases W
    rename_i a ns h l p
    intro cdv A outer s H E hr
    refine ⟨_, pss_cons (ps_set (i := 1) sc_law.nd rfl (Or.inl rfl) (pe_callD D__law_rich (hr.mono (by decide)) rfl (pa_cons (pe_callD D__law_cell (hr.mono (by decide)) rfl (pa_cons (pv 0) (pa_cons pe_int pa_nil))) (pa_cons pe_int pa_nil))))
      (pss_cons (ps_asg (pe_callD D__law_range (hr.mono (by decide)) rfl (pa_cons (pv 1) pa_nil)) (pg_tup (by rfl) (pgs_cons (pg_name (i := 7) sc_law.nd rfl (Or.inl rfl)) (pgs_cons (pg_name (i := 8) sc_law.nd rfl (Or.inl rfl)) pgs_nil))))
      (pss_cons (ps_asg (pe_callD D__law_range (hr.mono (by decide)) rfl (pa_cons (pe_op op_fdiv (pv 1) pe_int) pa_nil)) (pg_tup (by rfl) (pgs_cons (pg_name (i := 9) sc_law.nd rfl (Or.inl rfl)) (pgs_cons (pg_name (i := 10) sc_law.nd rfl (Or.inl rfl)) pgs_nil))))
      (pss_cons (ps_if (PW.pt (pw_and (pt_cmpR op_gt (pe_op op_mod (pe_callD D__law_cell (hr.mono (by decide)) rfl (pa_cons (pv 0) (pa_cons pe_int pa_nil))) pe_int) pe_int (nomark _)) (pw_and1 (pt_cmpR op_notNo (pv 8) pe_non (nomark _))))) (pss_cons (ps_set (i := 9) sc_law.nd rfl (Or.inl rfl) (pv 8))
      (pss_cons (ps_set (i := 10) sc_law.nd rfl (Or.inl rfl) pe_non)
      (pss_one (ps_if (PW.pt (pw_and (pt_cmpR op_eq (pe_op op_mod (pe_op op_fdiv (pe_callD D__law_cell (hr.mono (by decide)) rfl (pa_cons (pv 0) (pa_cons pe_int pa_nil))) pe_int) pe_int) pe_int (nomark _)) (pw_and1 (pt_cmpR op_ltS (pv 8) pe_str (nomark _))))) (pss_one (ps_set (i := 10) sc_law.nd rfl (Or.inl rfl) pe_str)) pss_nil)))) pss_nil)
      (pss_cons (ps_set (i := 2) sc_law.nd rfl (Or.inl rfl) (pe_callM E D__law_filled (hr.mono (by decide)) rfl (pa_cons (pv 0) (pa_cons pe_int (pa_cons (pv 7) (pa_cons (pv 8) (pa_cons (pe_op op_add pe_int (pe_op op_mod (pe_op op_fdiv (pe_callD D__law_cell (hr.mono (by decide)) rfl (pa_cons (pv 0) (pa_cons pe_int pa_nil))) pe_int) pe_int)) pa_nil)))))))
      (pss_cons (ps_set (i := 3) sc_law.nd rfl (Or.inl rfl) (pe_callM E D__law_filled (hr.mono (by decide)) rfl (pa_cons (pv 0) (pa_cons pe_int (pa_cons (pv 9) (pa_cons (pv 10) (pa_cons (pe_op op_add pe_int (pe_op op_mod (pe_callD D__law_cell (hr.mono (by decide)) rfl (pa_cons (pv 0) (pa_cons pe_int pa_nil))) pe_int)) pa_nil)))))))
      (pss_cons (ps_set (i := 4) sc_law.nd rfl (Or.inl rfl) (pe_lst (pa_cons (pe_methD0 E0 M_Shard_content (hr.mono (by decide)) (pv 2)) (pa_cons (pe_methD0 E0 M_Shard_content (hr.mono (by decide)) (pv 3)) pa_nil))))
      (pss_cons (ps_set (i := 5) sc_law.nd rfl (Or.inl rfl) (pe_callM E D__law_join (hr.mono (by decide)) rfl (pa_cons (pv 2) (pa_cons (pv 3) pa_nil))))
      (pss_cons (ps_if (pt_cmpR (op_neD hr.units) (pe_lst (pa_cons (pe_methD0 E0 M_Shard_content (hr.mono (by decide)) (pv 2)) (pa_cons (pe_methD0 E0 M_Shard_content (hr.mono (by decide)) (pv 3)) pa_nil))) (pv 4) (nomark _)) (pss_one (ps_ret pe_bl)) pss_nil)
      (pss_cons (ps_if (PW.pt (pw_or (pt_cmpR op_isNo (pv 8) pe_non (nomark _)) (pw_or1 (pt_cmpR op_ne (pv 8) (pv 9) (nomark _))))) (pss_one (ps_ret (pe_cmpR op_isNo (pv 5) pe_non (nomark _)))) pss_nil)
      (pss_cons (ps_if (PW.pt (pw_or (pt_cmpR op_isNo (pv 5) pe_non (nomark _)) (pw_or (pt_cmpR (op_neD hr.units) (pe_lst (pa_cons (pe_fld (pv 5) rfl) (pa_cons (pe_fld (pv 5) rfl) pa_nil))) (pe_lst (pa_cons (pv 7) (pa_cons (pv 10) pa_nil))) (nomark _)) (pw_or1 (pt_cmpR op_ne (pe_fld (pv 5) rfl) (pe_op op_add (pe_callB (cr_maxI rfl) (by rfl) z_max (by decide +kernel) (pa_cons (pe_fld (pv 2) rfl) (pa_cons (pe_fld (pv 3) rfl) pa_nil))) pe_int) (nomark _)))))) (pss_one (ps_ret pe_bl)) pss_nil)
      (pss_cons (ps_set (i := 6) sc_law.nd rfl (Or.inl rfl) (pe_callM E D__law_merged (hr.mono (by decide)) rfl (pa_cons (pe_ix ix_tup (pe_ix ix_list (pv 4) pe_int (fun _ _ => rfl)) pe_int (fun _ _ => rfl)) (pa_cons (pe_ix ix_tup (pe_ix ix_list (pv 4) pe_int (fun _ _ => rfl)) pe_int (fun _ _ => rfl)) pa_nil))))
      (pss_cons (ps_if (pt_cmpR (op_neD hr.units) (pe_methD0 E0 M_Shard_content (hr.mono (by decide)) (pv 5)) (pe_tup (pa_cons (pe_op op_catA (pe_ix ix_tup (pe_ix ix_list (pv 4) pe_int (fun _ _ => rfl)) pe_int (fun _ _ => rfl)) (pe_ix ix_tup (pe_ix ix_list (pv 4) pe_int (fun _ _ => rfl)) pe_int (fun _ _ => rfl))) (pa_cons (pv 6) pa_nil))) (nomark _)) (pss_one (ps_ret pe_bl)) pss_nil)
      (pss_cons (ps_expr (pe_methN M_Shard_serve (hr.mono (by decide)) (pv 5) (pa_cons (pe_un un_neg pe_int) (pa_cons pe_int (pa_cons (pe_tup (pa_cons pe_str (pa_cons (pv 8) pa_nil))) pa_nil)))))
      (pss_cons (ps_expr (pe_methN M_Shard_serve (hr.mono (by decide)) (pv 5) (pa_cons (pe_un un_neg pe_int) (pa_cons pe_int (pa_cons (pe_tup (pa_cons pe_str (pa_cons (pv 8) (pa_cons pe_str pa_nil)))) pa_nil)))))
      (pss_one (ps_ret (pe_cmpR (op_eqD hr.units) (pe_lst (pa_cons (pe_methD0 E0 M_Shard_content (hr.mono (by decide)) (pv 2)) (pa_cons (pe_methD0 E0 M_Shard_content (hr.mono (by decide)) (pv 3)) pa_nil))) (pv 4) (nomark _)))))))))))))))))), ?_⟩
    refine rm_set (ed_call (es_cons (ed_call (es_cons (ed_var rfl) (es_cons ed_int es_nil)) (W__law_cell.mk l (by decide))) (es_cons ed_int es_nil)) W__law_rich.mk) ?_
    generalize Pd.rich (Pd.cell ns 0) 0 = r
    refine rm_pair (x := .str (Pd.rangeF r).1) (y := oW (Pd.rangeF r).2) (ed_call (es_cons (ed_var rfl) es_nil) W__law_range.mk) ?_
    refine rm_pair (x := .str (Pd.rangeF (r / 100)).1) (y := oW (Pd.rangeF (r / 100)).2) (ed_call (es_cons (ed_div (ed_var rfl) ed_int ⟨by decide, by decide⟩) es_nil) W__law_range.mk) ?_
    have hR := rng_F r
    have hS := okS_range r
    have hR2 := rng_F (r / 100)
    have hS2 := okS_range (r / 100)
    generalize (Pd.rangeF r).1 = lo at hR hS
    generalize (Pd.rangeF r).2 = hi at hR hS
    generalize (Pd.rangeF (r / 100)).1 = lo0 at hR2 hS2
    generalize (Pd.rangeF (r / 100)).2 = hi0 at hR2 hS2
    refine rm_seq (M := fun ρ μ' => ∃ lo2 hi2, Rng lo2 hi2 ∧ okS lo2 ∧ (∀ z, hi2 = some z → okS z) ∧ ρ = [some (.ref a), some (.int r), none, none, none, none, none, some (.str lo), some (oW hi), some (.str lo2), some (oW hi2)] ∧ μ' = μ) ?_ fun ρ μ' hM => ?_
    · cases hi with
      | none =>
        refine rm_if (ec_and (ec_test (ed_gt (ed_mod (ed_call (es_cons (ed_var rfl) (es_cons ed_int es_nil)) (W__law_cell.mk l (by decide))) ed_int (by decide)) ed_int)) fun _ => ec_test (ed_notN (ed_var rfl))) (fun q => ?_) (fun _ => rm_next ⟨lo0, hi0, hR2, hS2.1, hS2.2, rfl, rfl⟩)
        exact absurd (show false = true from (Bool.and_eq_true_iff.mp q).2) (by decide)
      | some z =>
        have hz := hR.high z rfl
        have oz := hS.2 z rfl
        have bz : boundB (.str z) = true := by
          show (keyS z || decide (z = "")) = true
          rw [hz.1]
          rfl
        refine rm_if (ec_and (ec_test (ed_gt (ed_mod (ed_call (es_cons (ed_var rfl) (es_cons ed_int es_nil)) (W__law_cell.mk l (by decide))) ed_int (by decide)) ed_int)) fun _ => ec_test (ed_notN (ed_var rfl))) (fun q => ?_) (fun _ => rm_next ⟨lo0, hi0, hR2, hS2.1, hS2.2, rfl, rfl⟩)
        refine rm_set (d := .str z) (ed_var rfl) (rm_set ed_non ?_)
        refine rm_if (ec_and (ec_test (ed_eqI (ed_mod (ed_div (ed_call (es_cons (ed_var rfl) (es_cons ed_int es_nil)) (W__law_cell.mk l (by decide))) ed_int ⟨by decide, by decide⟩) ed_int (by decide)) ed_int)) fun _ => ec_test (ed_ltS (ed_var rfl) ed_str)) (fun q2 => ?_) (fun _ => rm_next ⟨z, none, ⟨bz, fun y e => by cases e⟩, oz, fun y e => (by cases e), rfl, rfl⟩)
        have q3 : Pd.sLt z "zzz" = true := (Bool.and_eq_true_iff.mp q2).2
        exact rm_asg ed_str ⟨z, some "zzzz", ⟨bz, fun y e => by cases e; exact ⟨by decide +kernel, Pd.sLt_tr q3 (by decide +kernel)⟩⟩, oz, fun y e => (by cases e; exact okS_lit (by decide +kernel)), rfl, rfl⟩
    obtain ⟨lo2, hi2, hR3, ko2, kh2, rfl, rfl⟩ := hM
    clear hR2 hS2
    obtain ⟨ep1, ee1⟩ : ∃ e : Int, 1 + Pd.cell ns 1 / 6 % 50 = e := ⟨_, rfl⟩
    obtain ⟨ep2, ee2⟩ : ∃ e : Int, 1 + Pd.cell ns 2 % 50 = e := ⟨_, rfl⟩
    have u1 := Int.emod_nonneg (Pd.cell ns 1 / 6) (show (50 : Int) ≠ 0 by decide)
    have u2 := Int.emod_lt_of_pos (Pd.cell ns 1 / 6) (show (0 : Int) < 50 by decide)
    have u3 := Int.emod_nonneg (Pd.cell ns 2) (show (50 : Int) ≠ 0 by decide)
    have u4 := Int.emod_lt_of_pos (Pd.cell ns 2) (show (0 : Int) < 50 by decide)
    have B1 : Bd lo hi ep1 := ⟨hR, hS.1, hS.2, by omega, by omega⟩
    have B2 : Bd lo2 hi2 ep2 := ⟨hR3, ko2, kh2, by omega, by omega⟩
    have he : ep1 + 1 ≤ 1000000000000 ∧ ep2 + 1 ≤ 1000000000000 := ⟨by omega, by omega⟩
    refine rm_setW (P := fun w μ1 => ∃ s dx it so sx la m tb, w = .ref s ∧ Grow μ' μ1 ∧ Sh μ1 s dx lo hi ep1 it so sx la m tb ∧ okM m ∧ okT tb ∧ (m.map (·.1)).Nodup ∧ m.length ≤ 20 ∧ tb.length ≤ 20 ∧ (∀ p ∈ tb, -4 ≤ p.1) ∧ (∀ p ∈ m, containsF lo hi p.1 = true)) (ew_call (es_cons (ed_var rfl) (es_cons ed_int (es_cons (ed_var rfl) (es_cons (ed_var rfl) (es_cons (EvD.is (ed_add ed_int (ed_mod (ed_div (ed_call (es_cons (ed_var rfl) (es_cons ed_int es_nil)) (W__law_cell.mk l (by decide))) ed_int ⟨by decide, by decide⟩) ed_int (by decide))) (congrArg W.int ee1)) es_nil))))) (W__law_filled.mk l h ⟨by decide, by decide⟩ B1 fun s dx it so sx la m tb μ1 g S q1 q2 q3 q4 q5 q6 q7 => ⟨s, dx, it, so, sx, la, m, tb, rfl, g, S, q1, q2, q3, q4, q5, q6, q7⟩)) fun w μ1 hP => ?_
    obtain ⟨s1, dx1, it1, so1, sx1, la1, m1, t1, rfl, g1, S1, om1, ot1, nd1, lm1, lt1, cb1, kb1⟩ := hP
    have l1 := g1 _ _ l
    refine rm_setW (P := fun w μ2 => ∃ s dx it so sx la m tb, w = .ref s ∧ Grow μ1 μ2 ∧ Sh μ2 s dx lo2 hi2 ep2 it so sx la m tb ∧ okM m ∧ okT tb ∧ (m.map (·.1)).Nodup ∧ m.length ≤ 20 ∧ tb.length ≤ 20 ∧ (∀ p ∈ tb, -4 ≤ p.1) ∧ (∀ p ∈ m, containsF lo2 hi2 p.1 = true)) (ew_call (es_cons (ed_var rfl) (es_cons ed_int (es_cons (ed_var rfl) (es_cons (ed_var rfl) (es_cons (EvD.is (ed_add ed_int (ed_mod (ed_call (es_cons (ed_var rfl) (es_cons ed_int es_nil)) (W__law_cell.mk l1 (by decide))) ed_int (by decide))) (congrArg W.int ee2)) es_nil))))) (W__law_filled.mk l1 h ⟨by decide, by decide⟩ B2 fun s dx it so sx la m tb μ2 g S q1 q2 q3 q4 q5 q6 q7 => ⟨s, dx, it, so, sx, la, m, tb, rfl, g, S, q1, q2, q3, q4, q5, q6, q7⟩)) fun w μ2 hP => ?_
    obtain ⟨s2, dx2, it2, so2, sx2, la2, m2, t2, rfl, g2, S2, om2, ot2, nd2, lm2, lt2, cb2, kb2⟩ := hP
    clear u1 u2 u3 u4 ee1 ee2
    have S1 := S1.grow g2
    have below : hi = some lo2 → ∀ p ∈ m1, ∀ q ∈ m2, Pd.sLt p.1 q.1 = true := fun hh p hp q hq => by
      have h1 := kb1 p hp
      have h2 := kb2 q hq
      rw [hh] at h1
      have h3 : Pd.sLt p.1 lo2 = true := (Bool.and_eq_true_iff.mp h1).2
      have h4 : Pd.sLt q.1 lo2 = false := nt (Bool.and_eq_true_iff.mp h2).1
      by_cases e : q.1 = lo2
      · rw [e]
        exact h3
      · exact Pd.sLt_tr h3 (sLt_total e h4)
    have ndA : hi = some lo2 → ((m1 ++ m2).map (·.1)).Nodup := fun hh => by
      rw [List.map_append]
      refine List.nodup_append.mpr ⟨nd1, nd2, fun x hx y hy e => ?_⟩
      obtain ⟨p, hp, rfl⟩ := List.mem_map.mp hx
      obtain ⟨q, hq, rfl⟩ := List.mem_map.mp hy
      have := below hh p hp q hq
      rw [e, Pd.sLt_irr] at this
      cases this
    refine rm_setW (P := fun w μ3 => ∃ q, w = .ref q ∧ Grow μ2 μ3 ∧ isL μ3 q [.tup [.tup (pairsW m1), .tup (rowsW t1)], .tup [.tup (pairsW m2), .tup (rowsW t2)]]) (ew_oneL (es_cons (ed_meth (xs := []) (ed_var rfl) S1.o rfl es_nil (W_Shard_content.mk S1 (by omega) (by omega))) (es_cons (ed_meth (xs := []) (ed_var rfl) S2.o rfl es_nil (W_Shard_content.mk S2 (by omega) (by omega))) es_nil)) (Nat.le_of_ble_eq_true rfl)) fun w μ3 hP => ?_
    obtain ⟨cq, rfl, g3, iL⟩ := hP
    have S1 := S1.grow g3
    have S2 := S2.grow g3
    refine rm_setW (P := fun w μ4 => (hi = some lo2 ∧ ∃ p dp ip sp xp lp, w = .ref p ∧ Grow μ3 μ4 ∧ μ3 ip = none ∧ μ3 lp = none ∧ Sh μ4 p dp lo hi2 ((if ep2 > ep1 then ep2 else ep1) + 1) ip sp xp lp (m1 ++ m2) (foldP t1 (rowsL t2))) ∨ (hi ≠ some lo2 ∧ w = .non ∧ μ4 = μ3)) (ew_call (es_cons (ed_var rfl) (es_cons (ed_var rfl) es_nil)) (W__law_join.mk S1 S2 B1 B2 he ndA (by omega) ⟨by omega, by omega⟩ (fun hh p dp ip sp xp lp μ' g f1 f2 S => .inl ⟨hh, p, dp, ip, sp, xp, lp, rfl, g, f1, f2, S⟩) fun q => .inr ⟨q, rfl, rfl⟩)) fun w μ4 hP => ?_
    have g4 : Grow μ3 μ4 := by
      rcases hP with ⟨-, p, dp, ip, sp, xp, lp, -, g, -⟩ | ⟨-, -, rfl⟩
      · exact g
      · exact Grow.refl _
    have T1 := S1.grow g4
    have T2 := S2.grow g4
    have iL4 : isL μ4 cq _ := iL.imp (fun h => g4 _ _ h) (fun h => g4 _ _ h)
    have cgood : ∀ μx : Mu, ∀ w ∈ ([.tup [.tup (pairsW m1), .tup (rowsW t1)], .tup [.tup (pairsW m2), .tup (rowsW t2)]] : List W), Good 12 μx w := fun μx => gcons (content_good om1 ot1.2 μx) (gcons (content_good om2 ot2.2 μx) gnil)
    refine rm_ifsW (P := fun b μ5 => b = false ∧ Grow μ4 μ5) (ecw_test (ew_imp (ew_neLV (n := 12) (es_cons (ed_meth (xs := []) (ed_var rfl) T1.o rfl es_nil (W_Shard_content.mk T1 (by omega) (by omega))) (es_cons (ed_meth (xs := []) (ed_var rfl) T2.o rfl es_nil (W_Shard_content.mk T2 (by omega) (by omega))) es_nil)) (fun μx _ => ed_var rfl) iL4 (Nat.le_of_ble_eq_true rfl) (fun μx _ => cgood μx) (by decide)) fun w μ5 hw => ⟨false, hw.1, rfl, hw.2⟩)) (fun _ q => absurd q.1 (by decide)) (fun μ5 q => rm_nexts ?_)
    have g5 := q.2
    rcases hP with ⟨hh, pb, dp, ip, sp, xp, lp, rfl, -, f1, f2, N4⟩ | ⟨hne, rfl, -⟩
    case inr =>
      refine rm_ifs (b := true) ?_ (fun _ => rm_retS (ed_isN (ed_var rfl)) (p _)) (fun q => by cases q)
      cases hi with
      | none => exact EvC.is (ec_or (b := false) (ec_test (ed_isN (ed_var rfl))) fun h => by cases h) rfl
      | some z => exact EvC.is (ec_or (ec_test (ed_isN (ed_var rfl))) fun _ => ec_test (ed_neS (ed_var rfl) (ed_var rfl))) (by rw [decide_eq_false (fun e => hne (by rw [e]))]; rfl)
    subst hh
    have T1 := T1.grow g5
    have T2 := T2.grow g5
    have N5 := N4.grow g5
    have iL5 : isL μ5 cq _ := iL4.imp (fun h => g5 _ _ h) (fun h => g5 _ _ h)
    refine rm_ifs (b := false) (ec_or (a := false) (b := false) (ec_test (EvD.is (ed_isN (x := .str lo2) (ed_var rfl)) rfl)) fun _ => ec_test (EvD.is (ed_neS (ed_var rfl) (ed_var rfl)) (by rw [decide_eq_true rfl]; rfl))) (fun q => by cases q) (fun _ => rm_nexts ?_)
    refine rm_ifsW (P := fun b μ6 => b = false ∧ Grow μ5 μ6) (ecw_or (P1 := fun b μ6 => b = false ∧ μ6 = μ5) (ecw_pure (b := false) (ec_test (EvD.is (ed_isN (x := .ref pb) (ed_var rfl)) rfl)) ⟨rfl, rfl⟩) (fun _ q => absurd q.1 (by decide)) (fun μ6 q => ?_)) (fun _ q => absurd q.1 (by decide)) (fun μ6 q => rm_nexts ?_)
    · obtain ⟨-, rfl⟩ := q
      refine ecw_or (P1 := fun b μ7 => b = false ∧ Grow μ6 μ7) (ecw_test (ew_imp (ew_neL (n := 1) (xs := [.str lo, oW hi2]) (es_cons (ed_fld (ed_var rfl) N5.o l_Shard n_Shard_low rfl) (es_cons (ed_fld (ed_var rfl) N5.o l_Shard n_Shard_high rfl) es_nil)) (fun μx _ => es_cons (ed_var rfl) (es_cons (ed_var rfl) es_nil)) (Nat.le_of_ble_eq_true rfl) (fun μx _ => gcons (good_str hS.1) (gcons (good_oW kh2) gnil)) (by decide)) fun w μ7 hw => ⟨false, hw.1, rfl, hw.2⟩)) (fun _ q => absurd q.1 (by decide)) (fun μ7 q => ?_)
      have g7 := q.2
      exact ecw_pure (b := false) (ec_test (EvD.is (ed_neI (ed_fld (ed_var rfl) (g7 _ _ N5.o) l_Shard n_Shard_epoch rfl) (ed_add (ed_maxI (es_cons (ed_fld (ed_var rfl) (g7 _ _ T1.o) l_Shard n_Shard_epoch rfl) (es_cons (ed_fld (ed_var rfl) (g7 _ _ T2.o) l_Shard n_Shard_epoch rfl) es_nil))) ed_int)) (by rw [decide_eq_true rfl]; rfl))) ⟨rfl, g7⟩
    have g6 := q.2
    have T1 := T1.grow g6
    have T2 := T2.grow g6
    have N6 := N5.grow g6
    have iL6 : isL μ6 cq _ := iL5.imp (fun h => g6 _ _ h) (fun h => g6 _ _ h)
    refine rm_setW (P := fun w μ7 => w = .tup (rowsW (foldP t1 (rowsL t2))) ∧ Grow μ6 μ7) (ew_call (es_cons (ed_ixT (xs := [.tup (pairsW m1), .tup (rowsW t1)]) (ed_ixL (x := .tup [.tup (pairsW m1), .tup (rowsW t1)]) (ed_var rfl) ed_int iL6 (by decide) rfl) ed_int (by decide) rfl) (es_cons (ed_ixT (xs := [.tup (pairsW m2), .tup (rowsW t2)]) (ed_ixL (x := .tup [.tup (pairsW m2), .tup (rowsW t2)]) (ed_var rfl) ed_int iL6 (by decide) rfl) ed_int (by decide) rfl) es_nil)) (W__law_merged.mk ot1.1 ot2.1 (by omega) (by omega) fun μ' g => ⟨rfl, g⟩)) fun w μ7 hP => ?_
    obtain ⟨rfl, g7⟩ := hP
    have T1 := T1.grow g7
    have T2 := T2.grow g7
    have N7 := N6.grow g7
    have iL6 : isL μ7 cq _ := iL6.imp (fun h => g7 _ _ h) (fun h => g7 _ _ h)
    have nA := ndA rfl
    have omA : okM (m1 ++ m2) := fun p hp => by
      rcases List.mem_append.mp hp with q | q
      · exact om1 p q
      · exact om2 p q
    have otA := okT_merge ot1 ot2
    have lA : (m1 ++ m2).length ≤ 40 := by rw [List.length_append]; omega
    have ltA : (foldP t1 (rowsL t2)).length ≤ 40 := by
      have h3 := foldP_len (rowsL t2) t1
      rw [rowsL_len] at h3
      omega
    have no9 : getT (foldP t1 (rowsL t2)) (-9) = none := getT_none fun q => by
      rcases keys_foldP _ _ _ q with e | e
      · obtain ⟨p, hp, e2⟩ := List.mem_map.mp e
        have := cb1 p hp
        omega
      · rw [keys_rows] at e
        obtain ⟨p, hp, e2⟩ := List.mem_map.mp ((sortI_perm _).mem_iff.mp e)
        have := cb2 p hp
        omega
    have pl1 : (pairsW m1).length ≤ 20 := by
      unfold pairsW
      rw [List.length_map, (sortS_perm _).length_eq, List.length_map]
      exact lm1
    have pl2 : (pairsW m2).length ≤ 20 := by
      unfold pairsW
      rw [List.length_map, (sortS_perm _).length_eq, List.length_map]
      exact lm2
    refine rm_ifs (b := false) (ec_test (ed_neSame (ed_meth (xs := []) (ed_var rfl) N7.o rfl es_nil (W_Shard_content.mk N7 (by omega) (by omega))) (EvD.is (ed_tup (es_cons (ed_catA (ed_ixT (xs := [.tup (pairsW m1), .tup (rowsW t1)]) (ed_ixL (x := .tup [.tup (pairsW m1), .tup (rowsW t1)]) (ed_var rfl) ed_int iL6 (by decide) rfl) ed_int (by decide) rfl) (ed_ixT (xs := [.tup (pairsW m2), .tup (rowsW t2)]) (ed_ixL (x := .tup [.tup (pairsW m2), .tup (rowsW t2)]) (ed_var rfl) ed_int iL6 (by decide) rfl) ed_int (by decide) rfl) (by omega)) (es_cons (ed_var rfl) es_nil)) (Nat.le_of_ble_eq_true rfl)) (by rw [pairs_app nA (below rfl)])) (content_good omA otA.2 μ7) (by decide))) (fun q => by cases q) (fun _ => rm_nexts ?_)
    have hz := hR.high lo2 rfl
    have cN : containsF lo hi2 lo2 = true := by
      show ((!Pd.sLt lo2 lo) && Pd.belowF (some lo2) hi2) = true
      rw [sLt_asym hz.2]
      cases hi2 with
      | none => rfl
      | some z =>
        show (true && Pd.sLt lo2 z) = true
        rw [(hR3.high z rfl).2]
        rfl
    have new9 : newB (getT (foldP t1 (rowsL t2)) (-9)) 1 = true := by rw [no9]; rfl
    generalize foldP t1 (rowsL t2) = tA at N7 new9 no9 otA ltA
    generalize m1 ++ m2 = mA at N7 omA lA nA
    have none_ne : ∀ {μx : Mu} {b p : Addr} {o : O}, μx p = none → μx b = some o → b ≠ p := fun h q e => by
      rw [e, h] at q
      cases q
    have c1 := none_ne f1 S1.i
    have c2 := none_ne f1 S1.t
    have c3 := none_ne f1 S2.i
    have c4 := none_ne f1 S2.t
    have c5 := none_ne f2 S1.i
    have c6 := none_ne f2 S1.t
    have c7 := none_ne f2 S2.i
    have c8 := none_ne f2 S2.t
    refine rm_drop (P := fun w μ8 => μ8 ip = some (.dk (encS (resM mA (.drop lo2)))) ∧ μ8 lp = some (.dk (encG gP (putT tA (-9) (1, resW mA (.drop lo2) (oW hi2))))) ∧ ∀ b o, b ≠ ip → b ≠ lp → μ7 b = some o → μ8 b = some o) (ew_methN (xs := [.int (-9), .int 1, opW (.drop lo2)]) (ed_var rfl) N7.o rfl (es_cons (ed_neg (i := 9) ed_int) (es_cons ed_int (es_cons (ed_tup (es_cons ed_str (es_cons (ed_var rfl) es_nil)) (Nat.le_of_ble_eq_true rfl)) es_nil)))
      (W_Shard_serve.mk N7 ko2 hz.1 (by omega) (by omega) (fun _ e => absurd (new9.symm.trans (stale_new e)) (by decide)) (fun _ z e e2 => by
        rw [no9] at e
        cases e) (fun _ _ μ3 q1 q2 q3 => ⟨q1, q2, q3⟩) fun e => absurd (cN.symm.trans e) (by decide))) fun w μ8 hP => ?_
    obtain ⟨ri, rl, rf⟩ := hP
    have N8 := N7.step ri rl rf
    have lm8 : (resM mA (.drop lo2)).length ≤ 41 := by
      have := resM_len mA (.drop lo2)
      omega
    have lt8 : (putT tA (-9) (1, resW mA (.drop lo2) (oW hi2))).length ≤ 41 := by
      have := putT_len tA (-9) (1, resW mA (.drop lo2) (oW hi2))
      omega
    have g9 : getT (putT tA (-9) (1, resW mA (.drop lo2) (oW hi2))) (-9) = some (1, resW mA (.drop lo2) (oW hi2)) := by rw [getT_put, if_pos rfl]
    have new92 : newB (getT (putT tA (-9) (1, resW mA (.drop lo2) (oW hi2))) (-9)) 2 = true := by
      rw [g9]
      rfl
    refine rm_drop (P := fun w μ9 => ∀ b o, b ≠ ip → b ≠ lp → μ8 b = some o → μ9 b = some o) (ew_methN (xs := [.int (-9), .int 2, opW (.put lo2 "new")]) (ed_var rfl) N8.o rfl (es_cons (ed_neg (i := 9) ed_int) (es_cons ed_int (es_cons (ed_tup (es_cons ed_str (es_cons (ed_var rfl) (es_cons ed_str es_nil))) (Nat.le_of_ble_eq_true rfl)) es_nil)))
      (W_Shard_serve.mk N8 ⟨ko2, okS_lit (by decide +kernel)⟩ ⟨hz.1, by decide +kernel⟩ (by omega) (by omega) (fun _ e => absurd (new92.symm.trans (stale_new e)) (by decide)) (fun _ z e e2 => by
        rw [g9] at e
        cases e
        exact absurd (show (2 : Int) = 1 from e2) (by decide)) (fun _ _ μ3 q1 q2 q3 => q3) fun e => absurd (cN.symm.trans e) (by decide))) fun w μ9 lf => ?_
    have fr : ∀ b o, b ≠ ip → b ≠ lp → μ7 b = some o → μ9 b = some o := fun b o n1 n2 hb => lf b o n1 n2 (rf b o n1 n2 hb)
    have E1 := T1.keep (μ' := μ9) fun b o hb q => fr b o (by
      rcases q with rfl | rfl | rfl | rfl
      · exact ne_ins T1.o N7.i
      · exact c1
      · exact ne_ins T1.s N7.i
      · exact c2) (by
      rcases q with rfl | rfl | rfl | rfl
      · exact ne_ins T1.o N7.t
      · exact c5
      · exact ne_ins T1.s N7.t
      · exact c6) hb
    have E2 := T2.keep (μ' := μ9) fun b o hb q => fr b o (by
      rcases q with rfl | rfl | rfl | rfl
      · exact ne_ins T2.o N7.i
      · exact c3
      · exact ne_ins T2.s N7.i
      · exact c4) (by
      rcases q with rfl | rfl | rfl | rfl
      · exact ne_ins T2.o N7.t
      · exact c7
      · exact ne_ins T2.s N7.t
      · exact c8) hb
    have iL9 : isL μ9 cq _ := iL6.imp (fun h => fr _ _ (ne_ls h N7.i) (ne_ls h N7.t) h) (fun h => fr _ _ (ne_rl h N7.i) (ne_rl h N7.t) h)
    refine rm_retW (ew_imp (ew_eqLV (n := 12) (es_cons (ed_meth (xs := []) (ed_var rfl) E1.o rfl es_nil (W_Shard_content.mk E1 (by omega) (by omega))) (es_cons (ed_meth (xs := []) (ed_var rfl) E2.o rfl es_nil (W_Shard_content.mk E2 (by omega) (by omega))) es_nil)) (fun μx _ => ed_var rfl) iL9 (Nat.le_of_ble_eq_true rfl) (fun μx _ => cgood μx) (by decide)) fun w μx hw => ?_)
    rw [hw.1]
    exact p μx
end
end K25

namespace K25
open PySem L2 Evl Pw
/-! ### the head -/
def d_is_key : He.DefD := ⟨("is_key", none), "is_key", "is_key", defArgs s_is_key, defBody s_is_key, defScope s_is_key, [], []⟩
def d_is_bound : He.DefD := ⟨("is_bound", none), "is_bound", "is_bound", defArgs s_is_bound, defBody s_is_bound, defScope s_is_bound, [], []⟩
def d_is_range : He.DefD := ⟨("is_range", none), "is_range", "is_range", defArgs s_is_range, defBody s_is_range, defScope s_is_range, [], []⟩
def d_below : He.DefD := ⟨("below", none), "below", "below", defArgs s_below, defBody s_below, defScope s_below, [], []⟩
def d_contains : He.DefD := ⟨("contains", none), "contains", "contains", defArgs s_contains, defBody s_contains, defScope s_contains, [], []⟩
def d_is_printable : He.DefD := ⟨("is_printable", none), "is_printable", "is_printable", defArgs s_is_printable, defBody s_is_printable, defScope s_is_printable, [], []⟩
def d_is_integer : He.DefD := ⟨("is_integer", none), "is_integer", "is_integer", defArgs s_is_integer, defBody s_is_integer, defScope s_is_integer, [], []⟩
def d_kind_of : He.DefD := ⟨("kind_of", none), "kind_of", "kind_of", defArgs s_kind_of, defBody s_kind_of, defScope s_kind_of, [], []⟩
def d_is_value : He.DefD := ⟨("is_value", none), "is_value", "is_value", defArgs s_is_value, defBody s_is_value, defScope s_is_value, [], []⟩
def d__is_key_alone : He.DefD := ⟨("_is_key_alone", none), "_is_key_alone", "_is_key_alone", defArgs s__is_key_alone, defBody s__is_key_alone, defScope s__is_key_alone, [], []⟩
def d__is_put : He.DefD := ⟨("_is_put", none), "_is_put", "_is_put", defArgs s__is_put, defBody s__is_put, defScope s__is_put, [], []⟩
def d__is_swap : He.DefD := ⟨("_is_swap", none), "_is_swap", "_is_swap", defArgs s__is_swap, defBody s__is_swap, defScope s__is_swap, [], []⟩
def d__is_page : He.DefD := ⟨("_is_page", none), "_is_page", "_is_page", defArgs s__is_page, defBody s__is_page, defScope s__is_page, [], []⟩
def d_is_operation : He.DefD := ⟨("is_operation", none), "is_operation", "is_operation", defArgs s_is_operation, defBody s_is_operation, defScope s_is_operation, [], []⟩
def d_place : He.DefD := ⟨("place", none), "place", "place", defArgs s_place, defBody s_place, defScope s_place, [], []⟩
def d_is_within : He.DefD := ⟨("is_within", none), "is_within", "is_within", defArgs s_is_within, defBody s_is_within, defScope s_is_within, [], []⟩
def d__get : He.DefD := ⟨("_get", none), "_get", "_get", defArgs s__get, defBody s__get, defScope s__get, [], []⟩
def d__put : He.DefD := ⟨("_put", none), "_put", "_put", defArgs s__put, defBody s__put, defScope s__put, [], []⟩
def d__drop : He.DefD := ⟨("_drop", none), "_drop", "_drop", defArgs s__drop, defBody s__drop, defScope s__drop, [], []⟩
def d__swap : He.DefD := ⟨("_swap", none), "_swap", "_swap", defArgs s__swap, defBody s__swap, defScope s__swap, [], []⟩
def d__page : He.DefD := ⟨("_page", none), "_page", "_page", defArgs s__page, defBody s__page, defScope s__page, [], []⟩
def d_apply : He.DefD := ⟨("apply", none), "apply", "apply", defArgs s_apply, defBody s_apply, defScope s_apply, [], []⟩
def d__filled : He.DefD := ⟨("_filled", none), "_filled", "_filled", defArgs s__filled, defBody s__filled, defScope s__filled, [], []⟩
def d__law_cell : He.DefD := ⟨("_law_cell", none), "_law_cell", "_law_cell", defArgs s__law_cell, defBody s__law_cell, defScope s__law_cell, [], []⟩
def d__law_rich : He.DefD := ⟨("_law_rich", none), "_law_rich", "_law_rich", defArgs s__law_rich, defBody s__law_rich, defScope s__law_rich, [], []⟩
def d__law_word : He.DefD := ⟨("_law_word", none), "_law_word", "_law_word", defArgs s__law_word, defBody s__law_word, defScope s__law_word, [], []⟩
def d__law_key : He.DefD := ⟨("_law_key", none), "_law_key", "_law_key", defArgs s__law_key, defBody s__law_key, defScope s__law_key, [], []⟩
def d__law_bound : He.DefD := ⟨("_law_bound", none), "_law_bound", "_law_bound", defArgs s__law_bound, defBody s__law_bound, defScope s__law_bound, [], []⟩
def d__law_value : He.DefD := ⟨("_law_value", none), "_law_value", "_law_value", defArgs s__law_value, defBody s__law_value, defScope s__law_value, [], []⟩
def d__law_range : He.DefD := ⟨("_law_range", none), "_law_range", "_law_range", defArgs s__law_range, defBody s__law_range, defScope s__law_range, [], []⟩
def d__law_filled : He.DefD := ⟨("_law_filled", none), "_law_filled", "_law_filled", defArgs s__law_filled, defBody s__law_filled, defScope s__law_filled, [], []⟩
def d__law_join : He.DefD := ⟨("_law_join", none), "_law_join", "_law_join", defArgs s__law_join, defBody s__law_join, defScope s__law_join, [], []⟩
def d__law_merged : He.DefD := ⟨("_law_merged", none), "_law_merged", "_law_merged", defArgs s__law_merged, defBody s__law_merged, defScope s__law_merged, [], []⟩
def d_law : He.DefD := ⟨("law", none), "law", "law", defArgs s_law, defBody s_law, defScope s_law, [], []⟩
def d_Sessions___init__ : He.DefD := ⟨("Sessions", some "__init__"), "__init__", "Sessions.__init__", defArgs s_Sessions___init__, defBody s_Sessions___init__, defScope s_Sessions___init__, [], []⟩
def d_Sessions_status : He.DefD := ⟨("Sessions", some "status"), "status", "Sessions.status", defArgs s_Sessions_status, defBody s_Sessions_status, defScope s_Sessions_status, [], []⟩
def d_Sessions_answer : He.DefD := ⟨("Sessions", some "answer"), "answer", "Sessions.answer", defArgs s_Sessions_answer, defBody s_Sessions_answer, defScope s_Sessions_answer, [], []⟩
def d_Sessions_remember : He.DefD := ⟨("Sessions", some "remember"), "remember", "Sessions.remember", defArgs s_Sessions_remember, defBody s_Sessions_remember, defScope s_Sessions_remember, [], []⟩
def d_Sessions_rows : He.DefD := ⟨("Sessions", some "rows"), "rows", "Sessions.rows", defArgs s_Sessions_rows, defBody s_Sessions_rows, defScope s_Sessions_rows, [], []⟩
def d_Sessions_merged : He.DefD := ⟨("Sessions", some "merged"), "merged", "Sessions.merged", defArgs s_Sessions_merged, defBody s_Sessions_merged, defScope s_Sessions_merged, [], []⟩
def d_Sessions_clone : He.DefD := ⟨("Sessions", some "clone"), "clone", "Sessions.clone", defArgs s_Sessions_clone, defBody s_Sessions_clone, defScope s_Sessions_clone, [], []⟩
def d_Shard___init__ : He.DefD := ⟨("Shard", some "__init__"), "__init__", "Shard.__init__", defArgs s_Shard___init__, defBody s_Shard___init__, defScope s_Shard___init__, [], []⟩
def d_Shard_has : He.DefD := ⟨("Shard", some "has"), "has", "Shard.has", defArgs s_Shard_has, defBody s_Shard_has, defScope s_Shard_has, [], []⟩
def d_Shard_status : He.DefD := ⟨("Shard", some "status"), "status", "Shard.status", defArgs s_Shard_status, defBody s_Shard_status, defScope s_Shard_status, [], []⟩
def d_Shard_answer : He.DefD := ⟨("Shard", some "answer"), "answer", "Shard.answer", defArgs s_Shard_answer, defBody s_Shard_answer, defScope s_Shard_answer, [], []⟩
def d_Shard_serve : He.DefD := ⟨("Shard", some "serve"), "serve", "Shard.serve", defArgs s_Shard_serve, defBody s_Shard_serve, defScope s_Shard_serve, [], []⟩
def d_Shard_join : He.DefD := ⟨("Shard", some "join"), "join", "Shard.join", defArgs s_Shard_join, defBody s_Shard_join, defScope s_Shard_join, [], []⟩
def d_Shard_content : He.DefD := ⟨("Shard", some "content"), "content", "Shard.content", defArgs s_Shard_content, defBody s_Shard_content, defScope s_Shard_content, [], []⟩
def fn : List He.DefD := [d_is_key, d_is_bound, d_is_range, d_below, d_contains, d_is_printable, d_is_integer, d_kind_of, d_is_value, d__is_key_alone, d__is_put, d__is_swap, d__is_page, d_is_operation, d_place, d_is_within, d__get, d__put, d__drop, d__swap, d__page, d_apply, d__filled, d__law_cell, d__law_rich, d__law_word, d__law_key, d__law_bound, d__law_value, d__law_range, d__law_filled, d__law_join, d__law_merged, d_law, d_Sessions___init__, d_Sessions_status, d_Sessions_answer, d_Sessions_remember, d_Sessions_rows, d_Sessions_merged, d_Sessions_clone, d_Shard___init__, d_Shard_has, d_Shard_status, d_Shard_answer, d_Shard_serve, d_Shard_join, d_Shard_content]
def fa : List He.Fa := [.glo "is_key", .glo "is_bound", .glo "is_range", .glo "below", .glo "contains", .glo "is_printable", .glo "is_integer", .glo "kind_of", .glo "is_value", .glo "_is_key_alone", .glo "_is_put", .glo "_is_swap", .glo "_is_page", .glo "is_operation", .glo "place", .glo "is_within", .glo "_get", .glo "_put", .glo "_drop", .glo "_swap", .glo "_page", .glo "apply", .glo "_filled", .glo "_law_cell", .glo "_law_rich", .glo "_law_word", .glo "_law_key", .glo "_law_bound", .glo "_law_value", .glo "_law_range", .glo "_law_filled", .glo "_law_join", .glo "_law_merged", .glo "law", .glo "OPERATIONS", .glo "ACTIONS", .glo "NONE", .glo "DONE", .glo "BadOperation", .glo "BadShard", .glo "Sessions", .glo "Shard", .free "len", .free "isinstance", .free "str", .free "ord", .free "bool", .free "int", .free "tuple", .free "sorted", .free "range", .free "max", .free "min", .free "dict", .int "MOST_KEY" 8, .int "BARRED" 37, .int "MOST_VALUE" 40, .int "MOST_PAGE" 50, .int "MOST_NUMBER" 1000000000000, .exc "BadOperation", .exc "BadShard", .exm "BadShard" "BadShard" true, .cls "Sessions", .cls "Shard", .noat "Sessions" "_last", .noat "Shard" "_items", .noat "Shard" "_sessions", .noat "Shard" "epoch", .noat "Shard" "high", .noat "Shard" "low", .meth "Sessions" "status", .meth "Sessions" "answer", .meth "Sessions" "remember", .meth "Sessions" "rows", .meth "Sessions" "merged", .meth "Sessions" "clone", .meth "Shard" "has", .meth "Shard" "status", .meth "Shard" "answer", .meth "Shard" "serve", .meth "Shard" "join", .meth "Shard" "content", .mkr "Shard", .mkr "Sessions"]
def k_OPERATIONS : List (Str × Str) := [("get", "_is_key_alone"), ("put", "_is_put"), ("drop", "_is_key_alone"), ("swap", "_is_swap"), ("page", "_is_page")]
def k_ACTIONS : List (Str × Str) := [("get", "_get"), ("put", "_put"), ("drop", "_drop"), ("swap", "_swap"), ("page", "_page")]
def ts : List He.Tab := [(fun K => He.ga K "OPERATIONS", k_OPERATIONS.map (·.1)), (fun K => He.ga K "ACTIONS", k_ACTIONS.map (·.1))]
def ex (K : Frag) : Bool := Pw.noLst K && He.valsB K (He.ga K "OPERATIONS") (k_OPERATIONS.map fun p => (p.1, He.Dv.glo p.2)) && He.valsB K (He.ga K "ACTIONS") (k_ACTIONS.map fun p => (p.1, He.Dv.glo p.2))
 && Pw.tupB K (He.ga K "NONE") ["none"] && Pw.tupB K (He.ga K "DONE") ["done"]abbrev R : PySem.W.OpenRow := PySem.W.OpenLaw.row PySem.Challenge.rw_boundstone_k25_joins
abbrev hk : PySem.W.Hook := He.hookX 5 fa fn ts [] ex
def ob (s : PySem.W.SharedT) : He.AlX := He.obsX 5 fa fn ts [] ex (HandSHeadRun.getT s)
theorem ob_eq (s : PySem.W.SharedT) : ob s = hk.obs s.abs := He.obsX_eq (HandSHeadRun.getT_eq s)
def loose : List PySem.Str := (["_wall", "is_key", "is_bound", "is_range", "below", "contains", "is_printable", "is_integer", "kind_of", "is_value", "_is_key_alone", "_is_put", "_is_swap", "_is_page", "is_operation", "place", "is_within", "_get", "_put", "_drop"] : List PySem.Str) ++ (["_swap", "_page", "apply", "_filled", "_law_cell", "_law_rich", "_law_word", "_law_key", "_law_bound", "_law_value", "_law_range", "_law_filled", "_law_join", "_law_merged", "TableError", "BadOperation", "BadShard", "MOST_KEY", "MOST_VALUE", "MOST_PAGE"] : List PySem.Str) ++ (["MOST_NUMBER", "BARRED", "NONE", "DONE", "OPERATIONS", "ACTIONS", "Sessions", "Shard"] : List PySem.Str)
theorem run1 (w : World) : HandSHeadRun.RunEq R (PySem.W.view R.prog [55]) hk ob 8000 loose (w.withFollow "special-get-raises" false) := fun os => by kernel_rfl
theorem run2 (w : World) : HandSHeadRun.RunEq R (PySem.W.view R.prog [55]) hk ob 8000 loose (w.withFollow "special-get-raises" true) := fun os => by kernel_rfl
theorem run (w : World) : HandSHeadRun.RunEq R (PySem.W.view R.prog [55]) hk ob 8000 loose w :=
  PySem.W.byRow2 "special-get-raises" (P := fun w => HandSHeadRun.RunEq R (PySem.W.view R.prog [55]) hk ob 8000 loose w) run1 run2 w
theorem facts {P : Program} {w : World} {K : Frag} {h : Heap} {mg : Str → Option Value} {f : Addr} (X : K.In h) (G : h.Ns mainGlobals mg) (hfa : mg ("law" : Str) = some (.ref f)) (y : He.SaysX fa fn ts [] ex w h K) :
    ∃ fd : FuncData, (∀ (s : Shared) (v : Value), BindsTo s fd ⟨[v], []⟩ [("script", v)]) ∧ ∀ base : Heap, K.In base → base.Ns mainGlobals mg → FnOk P w K mg base CX0 9 f fd ["script"] (spM K W_law) := by
  have c := y.t.d
  obtain ⟨fd_is_key, F_is_key⟩ := c.def_ 0 (d := d_is_key) rfl
  obtain ⟨fd_is_bound, F_is_bound⟩ := c.def_ 1 (d := d_is_bound) rfl
  obtain ⟨fd_is_range, F_is_range⟩ := c.def_ 2 (d := d_is_range) rfl
  obtain ⟨fd_below, F_below⟩ := c.def_ 3 (d := d_below) rfl
  obtain ⟨fd_contains, F_contains⟩ := c.def_ 4 (d := d_contains) rfl
  obtain ⟨fd_is_printable, F_is_printable⟩ := c.def_ 5 (d := d_is_printable) rfl
  obtain ⟨fd_is_integer, F_is_integer⟩ := c.def_ 6 (d := d_is_integer) rfl
  obtain ⟨fd_kind_of, F_kind_of⟩ := c.def_ 7 (d := d_kind_of) rfl
  obtain ⟨fd_is_value, F_is_value⟩ := c.def_ 8 (d := d_is_value) rfl
  obtain ⟨fd__is_key_alone, F__is_key_alone⟩ := c.def_ 9 (d := d__is_key_alone) rfl
  obtain ⟨fd__is_put, F__is_put⟩ := c.def_ 10 (d := d__is_put) rfl
  obtain ⟨fd__is_swap, F__is_swap⟩ := c.def_ 11 (d := d__is_swap) rfl
  obtain ⟨fd__is_page, F__is_page⟩ := c.def_ 12 (d := d__is_page) rfl
  obtain ⟨fd_is_operation, F_is_operation⟩ := c.def_ 13 (d := d_is_operation) rfl
  obtain ⟨fd_place, F_place⟩ := c.def_ 14 (d := d_place) rfl
  obtain ⟨fd_is_within, F_is_within⟩ := c.def_ 15 (d := d_is_within) rfl
  obtain ⟨fd__get, F__get⟩ := c.def_ 16 (d := d__get) rfl
  obtain ⟨fd__put, F__put⟩ := c.def_ 17 (d := d__put) rfl
  obtain ⟨fd__drop, F__drop⟩ := c.def_ 18 (d := d__drop) rfl
  obtain ⟨fd__swap, F__swap⟩ := c.def_ 19 (d := d__swap) rfl
  obtain ⟨fd__page, F__page⟩ := c.def_ 20 (d := d__page) rfl
  obtain ⟨fd_apply, F_apply⟩ := c.def_ 21 (d := d_apply) rfl
  obtain ⟨fd__filled, F__filled⟩ := c.def_ 22 (d := d__filled) rfl
  obtain ⟨fd__law_cell, F__law_cell⟩ := c.def_ 23 (d := d__law_cell) rfl
  obtain ⟨fd__law_rich, F__law_rich⟩ := c.def_ 24 (d := d__law_rich) rfl
  obtain ⟨fd__law_word, F__law_word⟩ := c.def_ 25 (d := d__law_word) rfl
  obtain ⟨fd__law_key, F__law_key⟩ := c.def_ 26 (d := d__law_key) rfl
  obtain ⟨fd__law_bound, F__law_bound⟩ := c.def_ 27 (d := d__law_bound) rfl
  obtain ⟨fd__law_value, F__law_value⟩ := c.def_ 28 (d := d__law_value) rfl
  obtain ⟨fd__law_range, F__law_range⟩ := c.def_ 29 (d := d__law_range) rfl
  obtain ⟨fd__law_filled, F__law_filled⟩ := c.def_ 30 (d := d__law_filled) rfl
  obtain ⟨fd__law_join, F__law_join⟩ := c.def_ 31 (d := d__law_join) rfl
  obtain ⟨fd__law_merged, F__law_merged⟩ := c.def_ 32 (d := d__law_merged) rfl
  obtain ⟨fd_law, F_law⟩ := c.def_ 33 (d := d_law) rfl
  obtain ⟨fd_Sessions___init__, F_Sessions___init__⟩ := c.def_ 34 (d := d_Sessions___init__) rfl
  obtain ⟨fd_Sessions_status, F_Sessions_status⟩ := c.def_ 35 (d := d_Sessions_status) rfl
  obtain ⟨fd_Sessions_answer, F_Sessions_answer⟩ := c.def_ 36 (d := d_Sessions_answer) rfl
  obtain ⟨fd_Sessions_remember, F_Sessions_remember⟩ := c.def_ 37 (d := d_Sessions_remember) rfl
  obtain ⟨fd_Sessions_rows, F_Sessions_rows⟩ := c.def_ 38 (d := d_Sessions_rows) rfl
  obtain ⟨fd_Sessions_merged, F_Sessions_merged⟩ := c.def_ 39 (d := d_Sessions_merged) rfl
  obtain ⟨fd_Sessions_clone, F_Sessions_clone⟩ := c.def_ 40 (d := d_Sessions_clone) rfl
  obtain ⟨fd_Shard___init__, F_Shard___init__⟩ := c.def_ 41 (d := d_Shard___init__) rfl
  obtain ⟨fd_Shard_has, F_Shard_has⟩ := c.def_ 42 (d := d_Shard_has) rfl
  obtain ⟨fd_Shard_status, F_Shard_status⟩ := c.def_ 43 (d := d_Shard_status) rfl
  obtain ⟨fd_Shard_answer, F_Shard_answer⟩ := c.def_ 44 (d := d_Shard_answer) rfl
  obtain ⟨fd_Shard_serve, F_Shard_serve⟩ := c.def_ 45 (d := d_Shard_serve) rfl
  obtain ⟨fd_Shard_join, F_Shard_join⟩ := c.def_ 46 (d := d_Shard_join) rfl
  obtain ⟨fd_Shard_content, F_Shard_content⟩ := c.def_ 47 (d := d_Shard_content) rfl
  have g_is_key := He.glo_ok X G (c.fact 0 (f := .glo "is_key") rfl)
  have g_is_bound := He.glo_ok X G (c.fact 1 (f := .glo "is_bound") rfl)
  have g_is_range := He.glo_ok X G (c.fact 2 (f := .glo "is_range") rfl)
  have g_below := He.glo_ok X G (c.fact 3 (f := .glo "below") rfl)
  have g_contains := He.glo_ok X G (c.fact 4 (f := .glo "contains") rfl)
  have g_is_printable := He.glo_ok X G (c.fact 5 (f := .glo "is_printable") rfl)
  have g_is_integer := He.glo_ok X G (c.fact 6 (f := .glo "is_integer") rfl)
  have g_kind_of := He.glo_ok X G (c.fact 7 (f := .glo "kind_of") rfl)
  have g_is_value := He.glo_ok X G (c.fact 8 (f := .glo "is_value") rfl)
  have g__is_key_alone := He.glo_ok X G (c.fact 9 (f := .glo "_is_key_alone") rfl)
  have g__is_put := He.glo_ok X G (c.fact 10 (f := .glo "_is_put") rfl)
  have g__is_swap := He.glo_ok X G (c.fact 11 (f := .glo "_is_swap") rfl)
  have g__is_page := He.glo_ok X G (c.fact 12 (f := .glo "_is_page") rfl)
  have g_is_operation := He.glo_ok X G (c.fact 13 (f := .glo "is_operation") rfl)
  have g_place := He.glo_ok X G (c.fact 14 (f := .glo "place") rfl)
  have g_is_within := He.glo_ok X G (c.fact 15 (f := .glo "is_within") rfl)
  have g__get := He.glo_ok X G (c.fact 16 (f := .glo "_get") rfl)
  have g__put := He.glo_ok X G (c.fact 17 (f := .glo "_put") rfl)
  have g__drop := He.glo_ok X G (c.fact 18 (f := .glo "_drop") rfl)
  have g__swap := He.glo_ok X G (c.fact 19 (f := .glo "_swap") rfl)
  have g__page := He.glo_ok X G (c.fact 20 (f := .glo "_page") rfl)
  have g_apply := He.glo_ok X G (c.fact 21 (f := .glo "apply") rfl)
  have g__filled := He.glo_ok X G (c.fact 22 (f := .glo "_filled") rfl)
  have g__law_cell := He.glo_ok X G (c.fact 23 (f := .glo "_law_cell") rfl)
  have g__law_rich := He.glo_ok X G (c.fact 24 (f := .glo "_law_rich") rfl)
  have g__law_word := He.glo_ok X G (c.fact 25 (f := .glo "_law_word") rfl)
  have g__law_key := He.glo_ok X G (c.fact 26 (f := .glo "_law_key") rfl)
  have g__law_bound := He.glo_ok X G (c.fact 27 (f := .glo "_law_bound") rfl)
  have g__law_value := He.glo_ok X G (c.fact 28 (f := .glo "_law_value") rfl)
  have g__law_range := He.glo_ok X G (c.fact 29 (f := .glo "_law_range") rfl)
  have g__law_filled := He.glo_ok X G (c.fact 30 (f := .glo "_law_filled") rfl)
  have g__law_join := He.glo_ok X G (c.fact 31 (f := .glo "_law_join") rfl)
  have g__law_merged := He.glo_ok X G (c.fact 32 (f := .glo "_law_merged") rfl)
  have g_law := He.glo_ok X G (c.fact 33 (f := .glo "law") rfl)
  have g_OPERATIONS := He.glo_ok X G (c.fact 34 (f := .glo "OPERATIONS") rfl)
  have g_ACTIONS := He.glo_ok X G (c.fact 35 (f := .glo "ACTIONS") rfl)
  have g_NONE := He.glo_ok X G (c.fact 36 (f := .glo "NONE") rfl)
  have g_DONE := He.glo_ok X G (c.fact 37 (f := .glo "DONE") rfl)
  have g_BadOperation := He.glo_ok X G (c.fact 38 (f := .glo "BadOperation") rfl)
  have g_BadShard := He.glo_ok X G (c.fact 39 (f := .glo "BadShard") rfl)
  have g_Sessions := He.glo_ok X G (c.fact 40 (f := .glo "Sessions") rfl)
  have g_Shard := He.glo_ok X G (c.fact 41 (f := .glo "Shard") rfl)
  have z_len := He.free_ok X G (c.fact 42 (f := .free "len") rfl)
  have z_isinstance := He.free_ok X G (c.fact 43 (f := .free "isinstance") rfl)
  have z_str := He.free_ok X G (c.fact 44 (f := .free "str") rfl)
  have z_ord := He.free_ok X G (c.fact 45 (f := .free "ord") rfl)
  have z_bool := He.free_ok X G (c.fact 46 (f := .free "bool") rfl)
  have z_int := He.free_ok X G (c.fact 47 (f := .free "int") rfl)
  have z_tuple := He.free_ok X G (c.fact 48 (f := .free "tuple") rfl)
  have z_sorted := He.free_ok X G (c.fact 49 (f := .free "sorted") rfl)
  have z_range := He.free_ok X G (c.fact 50 (f := .free "range") rfl)
  have z_max := He.free_ok X G (c.fact 51 (f := .free "max") rfl)
  have z_min := He.free_ok X G (c.fact 52 (f := .free "min") rfl)
  have z_dict := He.free_ok X G (c.fact 53 (f := .free "dict") rfl)
  have c_MOST_KEY := He.int_ok X G (c.fact 54 (f := .int "MOST_KEY" 8) rfl)
  have c_BARRED := He.int_ok X G (c.fact 55 (f := .int "BARRED" 37) rfl)
  have c_MOST_VALUE := He.int_ok X G (c.fact 56 (f := .int "MOST_VALUE" 40) rfl)
  have c_MOST_PAGE := He.int_ok X G (c.fact 57 (f := .int "MOST_PAGE" 50) rfl)
  have c_MOST_NUMBER := He.int_ok X G (c.fact 58 (f := .int "MOST_NUMBER" 1000000000000) rfl)
  have mo : ex K = true := y.more
  have x_BadOperation : ExcOf K mg "BadOperation" _ := Pw.exc_of (h := h) g_BadOperation (c.fact 59 (f := .exc "BadOperation") rfl)
  have x_BadShard : ExcOf K mg "BadShard" _ := Pw.exc_of (h := h) g_BadShard (c.fact 60 (f := .exc "BadShard") rfl)
  have m_BadShard : PySem.W.exmOne K (.ref (He.ga K "BadShard")) (.ref (He.ga K "BadShard")) = some true := of_decide_eq_true (c.fact 61 (f := .exm "BadShard" "BadShard" true) rfl)
  obtain ⟨mo, w_DONE⟩ := Bool.and_eq_true_iff.mp mo
  have u_DONE : TupOf K mg "DONE" _ := Pw.tup_of g_DONE w_DONE
  obtain ⟨mo, w_NONE⟩ := Bool.and_eq_true_iff.mp mo
  have u_NONE : TupOf K mg "NONE" _ := Pw.tup_of g_NONE w_NONE
  obtain ⟨mo, v_ACTIONS⟩ := Bool.and_eq_true_iff.mp mo
  obtain ⟨mo, v_OPERATIONS⟩ := Bool.and_eq_true_iff.mp mo
  have t_OPERATIONS : TabOf K w mg "OPERATIONS" _ := Pw.tab_of k_OPERATIONS g_OPERATIONS (Pw.saysT_dic y.t 0 rfl) v_OPERATIONS (fun p hp => by
    simp only [k_OPERATIONS, List.mem_cons, List.not_mem_nil, or_false] at hp
    rcases hp with rfl | rfl | rfl | rfl | rfl
    · exact g__is_key_alone
    · exact g__is_put
    · exact g__is_key_alone
    · exact g__is_swap
    · exact g__is_page)
  have t_ACTIONS : TabOf K w mg "ACTIONS" _ := Pw.tab_of k_ACTIONS g_ACTIONS (Pw.saysT_dic y.t 1 rfl) v_ACTIONS (fun p hp => by
    simp only [k_ACTIONS, List.mem_cons, List.not_mem_nil, or_false] at hp
    rcases hp with rfl | rfl | rfl | rfl | rfl
    · exact g__get
    · exact g__put
    · exact g__drop
    · exact g__swap
    · exact g__page)
  have e := hfa.symm.trans g_law
  cases e
  have b := L2.FunD.bindsA (ps := ["script"]) F_law fun _ _ _ _ _ _ us hl => match us, hl with | [_], _ => rfl
  refine ⟨fd_law, fun s v => b s [v] rfl, fun base _ _ => ?_⟩
  have l_Sessions := He.cls_ok (c.fact 62 (f := .cls "Sessions") rfl)
  have l_Shard := He.cls_ok (c.fact 63 (f := .cls "Shard") rfl)
  have n_Sessions__last := He.noat_ok (c.fact 64 (f := .noat "Sessions" "_last") rfl)
  have n_Shard__items := He.noat_ok (c.fact 65 (f := .noat "Shard" "_items") rfl)
  have n_Shard__sessions := He.noat_ok (c.fact 66 (f := .noat "Shard" "_sessions") rfl)
  have n_Shard_epoch := He.noat_ok (c.fact 67 (f := .noat "Shard" "epoch") rfl)
  have n_Shard_high := He.noat_ok (c.fact 68 (f := .noat "Shard" "high") rfl)
  have n_Shard_low := He.noat_ok (c.fact 69 (f := .noat "Shard" "low") rfl)
  have D_is_key : Def P w K mg base _ _ _ _ := ok_is_key F_is_key g_is_key z_len c_MOST_KEY z_isinstance z_str
  have D_below : Def P w K mg base _ _ _ _ := ok_below F_below g_below 
  have D_is_printable : Def P w K mg base _ _ _ _ := ok_is_printable F_is_printable g_is_printable z_isinstance z_str z_ord c_BARRED
  have D_kind_of : Def P w K mg base _ _ _ _ := ok_kind_of F_kind_of g_kind_of z_isinstance z_str z_len z_tuple
  have D_is_value : Def P w K mg base _ _ _ _ := ok_is_value F_is_value g_is_value z_len c_MOST_VALUE D_is_printable
  have D_is_bound : Def P w K mg base _ _ _ _ := ok_is_bound F_is_bound g_is_bound z_isinstance z_str D_is_key
  have D_is_range : Def P w K mg base _ _ _ _ := ok_is_range F_is_range g_is_range D_is_bound D_is_key
  have D_contains : Def P w K mg base _ _ _ _ := ok_contains F_contains g_contains D_below
  have D_is_integer : Def P w K mg base _ _ _ _ := ok_is_integer F_is_integer g_is_integer z_isinstance z_bool z_int
  have D__is_key_alone : Def P w K mg base _ _ _ _ := ok__is_key_alone F__is_key_alone g__is_key_alone D_is_key z_len
  have D__is_put : Def P w K mg base _ _ _ _ := ok__is_put F__is_put g__is_put D_is_value D_is_key z_len
  have D__is_swap : Def P w K mg base _ _ _ _ := ok__is_swap F__is_swap g__is_swap D_is_value D_is_key z_len
  have D__is_page : Def P w K mg base _ _ _ _ := ok__is_page F__is_page g__is_page D_is_integer c_MOST_PAGE D_is_bound z_len
  have D_is_operation : Def P w K mg base _ _ _ _ := ok_is_operation F_is_operation g_is_operation t_OPERATIONS D_kind_of D__is_key_alone D__is_put D__is_swap D__is_page
  have D_place : DefN P w K mg base _ _ _ _ := ok_place F_place g_place D_is_operation x_BadOperation
  have D_is_within : Def P w K mg base _ _ _ _ := ok_is_within F_is_within g_is_within D_contains D_place
  have D__get : Def P w K mg base _ _ _ _ := ok__get F__get g__get u_NONE
  have D__put : Def P w K mg base _ _ _ _ := ok__put F__put g__put u_DONE
  have D__drop : Def P w K mg base _ _ _ _ := ok__drop F__drop g__drop u_NONE u_DONE
  have D__swap : Def P w K mg base _ _ _ _ := ok__swap F__swap g__swap u_NONE u_DONE
  have D__page : Def P w K mg base _ _ _ _ := ok__page F__page g__page z_sorted z_tuple z_len
  have D_apply : Def P w K mg base _ _ _ _ := ok_apply F_apply g_apply t_ACTIONS D__get D__put D__drop D__swap D__page
  have D__law_cell : Def P w K mg base _ _ _ _ := ok__law_cell F__law_cell g__law_cell z_len z_int
  have D__law_rich : Def P w K mg base _ _ _ _ := ok__law_rich F__law_rich g__law_rich z_int
  have D__law_word : Def P w K mg base _ _ _ _ := ok__law_word F__law_word g__law_word z_int z_range z_len
  have D__law_key : Def P w K mg base _ _ _ _ := ok__law_key F__law_key g__law_key z_int D__law_word
  have D__law_bound : Def P w K mg base _ _ _ _ := ok__law_bound F__law_bound g__law_bound z_int D__law_key
  have D__law_value : Def P w K mg base _ _ _ _ := ok__law_value F__law_value g__law_value z_int D__law_word
  have D__law_range : Def P w K mg base _ _ _ _ := ok__law_range F__law_range g__law_range D__law_bound z_max z_min
  have K_Sessions : KDef P w K mg base CX0 _ "Sessions" _ _ := ⟨g_Sessions, _, _, ok_Sessions___init__ F_Sessions___init__ l_Sessions n_Sessions__last, He.mkr_ok (c.fact 83 (f := .mkr "Sessions") rfl), F_Sessions___init__.bindsN fun _ _ _ _ _ _ us hl => match us, hl with | [_], _ => rfl⟩
  have M_Sessions_status : MDef P w K mg base CX0 _ "Sessions" "status" _ _ := ⟨l_Sessions, _, _, ok_Sessions_status F_Sessions_status l_Sessions n_Sessions__last, He.meth_ok (c.fact 70 (f := .meth "Sessions" "status") rfl), F_Sessions_status.bindsN fun _ _ _ _ _ _ us hl => match us, hl with | [_, _, _], _ => rfl⟩
  have M_Sessions_answer : MDef P w K mg base (L2N.CX P w) _ "Sessions" "answer" _ _ := ⟨l_Sessions, _, _, ok_Sessions_answer F_Sessions_answer l_Sessions n_Sessions__last x_BadShard, He.meth_ok (c.fact 71 (f := .meth "Sessions" "answer") rfl), F_Sessions_answer.bindsN fun _ _ _ _ _ _ us hl => match us, hl with | [_, _], _ => rfl⟩
  have M_Sessions_remember : MDef P w K mg base (L2N.CX P w) _ "Sessions" "remember" _ _ := ⟨l_Sessions, _, _, ok_Sessions_remember F_Sessions_remember M_Sessions_status x_BadShard l_Sessions n_Sessions__last, He.meth_ok (c.fact 72 (f := .meth "Sessions" "remember") rfl), F_Sessions_remember.bindsN fun _ _ _ _ _ _ us hl => match us, hl with | [_, _, _, _], _ => rfl⟩
  have M_Sessions_rows : MDef P w K mg base CX0 _ "Sessions" "rows" _ _ := ⟨l_Sessions, _, _, ok_Sessions_rows F_Sessions_rows z_tuple z_sorted l_Sessions n_Sessions__last, He.meth_ok (c.fact 73 (f := .meth "Sessions" "rows") rfl), F_Sessions_rows.bindsN fun _ _ _ _ _ _ us hl => match us, hl with | [_], _ => rfl⟩
  have M_Sessions_clone : MDef P w K mg base CX0 _ "Sessions" "clone" _ _ := ⟨l_Sessions, _, _, ok_Sessions_clone F_Sessions_clone K_Sessions l_Sessions n_Sessions__last z_dict, He.meth_ok (c.fact 75 (f := .meth "Sessions" "clone") rfl), F_Sessions_clone.bindsN fun _ _ _ _ _ _ us hl => match us, hl with | [_], _ => rfl⟩
  have M_Sessions_merged : MDef P w K mg base CX0 _ "Sessions" "merged" _ _ := ⟨l_Sessions, _, _, ok_Sessions_merged F_Sessions_merged M_Sessions_clone M_Sessions_rows M_Sessions_status M_Sessions_remember, He.meth_ok (c.fact 74 (f := .meth "Sessions" "merged") rfl), F_Sessions_merged.bindsN fun _ _ _ _ _ _ us hl => match us, hl with | [_, _], _ => rfl⟩
  have K_Shard : KDef P w K mg base (L2N.CX P w) _ "Shard" _ _ := ⟨g_Shard, _, _, ok_Shard___init__ F_Shard___init__ D_is_integer c_MOST_NUMBER D_is_range x_BadShard l_Shard n_Shard_low n_Shard_high n_Shard_epoch n_Shard__items n_Shard__sessions K_Sessions, He.mkr_ok (c.fact 82 (f := .mkr "Shard") rfl), F_Shard___init__.bindsN fun _ _ _ _ _ _ us hl => match us, hl with | [_, _, _, _], _ => rfl⟩
  have D__filled : Def P w K mg base _ _ _ _ := ok__filled F__filled g__filled K_Shard l_Shard n_Shard__items n_Shard__sessions
  have M_Shard_has : MDef P w K mg base CX0 _ "Shard" "has" _ _ := ⟨l_Shard, _, _, ok_Shard_has F_Shard_has D_contains l_Shard n_Shard_high n_Shard_low, He.meth_ok (c.fact 76 (f := .meth "Shard" "has") rfl), F_Shard_has.bindsN fun _ _ _ _ _ _ us hl => match us, hl with | [_, _], _ => rfl⟩
  have M_Shard_status : MDef P w K mg base CX0 _ "Shard" "status" _ _ := ⟨l_Shard, _, _, ok_Shard_status F_Shard_status M_Sessions_status l_Shard n_Shard__sessions, He.meth_ok (c.fact 77 (f := .meth "Shard" "status") rfl), F_Shard_status.bindsN fun _ _ _ _ _ _ us hl => match us, hl with | [_, _, _], _ => rfl⟩
  have M_Shard_answer : MDef P w K mg base (L2N.CX P w) _ "Shard" "answer" _ _ := ⟨l_Shard, _, _, ok_Shard_answer F_Shard_answer M_Sessions_answer l_Shard n_Shard__sessions, He.meth_ok (c.fact 78 (f := .meth "Shard" "answer") rfl), F_Shard_answer.bindsN fun _ _ _ _ _ _ us hl => match us, hl with | [_, _], _ => rfl⟩
  have M_Shard_serve : MDef P w K mg base (L2N.CX P w) _ "Shard" "serve" _ _ := ⟨l_Shard, _, _, ok_Shard_serve F_Shard_serve D_is_within l_Shard n_Shard_high n_Shard_low x_BadShard M_Shard_status M_Sessions_remember n_Shard__sessions D_apply n_Shard__items M_Shard_answer, He.meth_ok (c.fact 79 (f := .meth "Shard" "serve") rfl), F_Shard_serve.bindsN fun _ _ _ _ _ _ us hl => match us, hl with | [_, _, _, _], _ => rfl⟩
  have M_Shard_content : MDef P w K mg base CX0 _ "Shard" "content" _ _ := ⟨l_Shard, _, _, ok_Shard_content F_Shard_content z_tuple z_sorted l_Shard n_Shard__items M_Sessions_rows n_Shard__sessions, He.meth_ok (c.fact 81 (f := .meth "Shard" "content") rfl), F_Shard_content.bindsN fun _ _ _ _ _ _ us hl => match us, hl with | [_], _ => rfl⟩
  have M_Shard_join : MDef P w K mg base (L2N.CX P w) _ "Shard" "join" _ _ := ⟨l_Shard, _, _, ok_Shard_join F_Shard_join l_Shard n_Shard_high n_Shard_low x_BadShard z_max n_Shard_epoch n_Shard__items D__filled M_Sessions_merged n_Shard__sessions, He.meth_ok (c.fact 80 (f := .meth "Shard" "join") rfl), F_Shard_join.bindsN fun _ _ _ _ _ _ us hl => match us, hl with | [_, _], _ => rfl⟩
  have D__law_join : Def P w K mg base _ _ _ _ := ok__law_join F__law_join g__law_join x_BadShard m_BadShard M_Shard_join
  have D__law_merged : Def P w K mg base _ _ _ _ := ok__law_merged F__law_merged g__law_merged z_tuple z_sorted
  have D__law_filled : Def P w K mg base _ _ _ _ := ok__law_filled F__law_filled g__law_filled K_Shard z_range z_min z_len D__law_rich D__law_key M_Shard_has M_Shard_serve D__law_value
  exact ok_law F_law D__law_rich D__law_cell D__law_range D__law_filled M_Shard_content D__law_join l_Shard n_Shard_epoch z_max n_Shard_high n_Shard_low D__law_merged M_Shard_serve
theorem law_end {K : Frag} {H : Hp} {a : Addr} {ns : List Int} (hn : Pw.noLst K = true) (hl : ns.length ≤ 63) (h : SqL K H a (ns.map V.int)) : spM K W_law [.ref a] H (fun v _ => v = .bl true) (fun _ _ _ => False) :=
  Pw.law_endM hn h fun μ l P p => .mk l hl p
end K25
open PySem PySem.W PySem.Calls PyProof.Rows
theorem PySem.Challenge.cw_boundstone_k25_joins_holds : PySem.Challenge.rw_boundstone_k25_joins.Holds := by
  w_on; o_law
  refine HandSHeadRun.head_any (r := OpenLaw.row PySem.Challenge.rw_boundstone_k25_joins) (q := view (OpenLaw.row PySem.Challenge.rw_boundstone_k25_joins).prog [55]) (H := K25.hk) (ob := K25.ob) (M := 8000) (loose := K25.loose) (d := HandSHeadRun.topDef (OpenLaw.row PySem.Challenge.rw_boundstone_k25_joins).prog 55) (kwd := []) K25.ob_eq
    (by kernel_rfl) (fun s => by kernel_rfl) K25.run (by kernel_rfl) (by kernel_rfl) (by kernel_rfl) (by rfl) (by first | assumption | decide +kernel) (by decide +kernel) ⟨rfl, rfl, rfl, rfl, rfl, by decide +kernel⟩ ?hw ?hc
  case hw => w_witness2
  case hc =>
    refine L2.walk_ofE (l := PySem.Challenge.rw_boundstone_k25_joins) (n := 63) (k := 9) (x := "script") (CX := L2.CX0) rfl (by decide) (by kernel_rfl) ⟨rfl, by decide, by decide⟩ ?F (fun _ _ _ _ z => z)
    intro w mg fa h Y G hmg0
    obtain ⟨K, KX, c⟩ := Y
    have hmg : mg ("law" : PySem.Str) = some (.ref fa) := by
      have e : (HandSHeadRun.topDef (OpenLaw.row PySem.Challenge.rw_boundstone_k25_joins).prog 55).name = ("law" : PySem.Str) := by kernel_rfl
      rw [← e]
      exact hmg0
    obtain ⟨fd, hb, hF⟩ := K25.facts (P := (PySem.Challenge.rw_boundstone_k25_joins).prog) (w := w) KX G hmg c
    have hn : Pw.noLst K = true := by
      have mo : K25.ex K = true := c.more
      have mo := (Bool.and_eq_true_iff.mp mo).1
      have mo := (Bool.and_eq_true_iff.mp mo).1
      have mo := (Bool.and_eq_true_iff.mp mo).1
      have mo := (Bool.and_eq_true_iff.mp mo).1
      exact mo
    exact ⟨K, fd, Pw.spM K K25.W_law, KX, hb, fun H a ns hl _ hS => K25.law_end hn hl hS, hF⟩


