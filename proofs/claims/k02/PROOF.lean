import PyProof.Rows.All
import Wide.All
import OpenK.AllK
import Wide.FinOn
import HandS.ForMost
import HandS.ForExc
import HandS.IsInst
import HandS.Evl
import HandS.Walk
import HandS.HeadHook2
import HandS.Head2
import HandS.HeadEnd
import HandS.HeadWalk
import HandS.Wide
import PySem.Challenge.RW_boundstone_k02_bounds_and_overlaps
set_option Elab.async false
set_option linter.all false
set_option maxRecDepth 100000
set_option maxHeartbeats 8000000
/-! Pd: what pieces of pure programs give, told over data (PyData) in place of addresses. -/
namespace Pd
open PySem L2 Evl

abbrev Frag := PySem.W.Frag
/-- the known data of the slots -/
abbrev Rho := List (Option PyData)

mutual
theorem dpm {K : Frag} {H H' : Hp} (e : Ex H H') : ∀ {v : V} {d : PyData}, Dp K H v d → Dp K H' v d
  | _, _, .non => .non
  | _, _, .bl b => .bl b
  | _, _, .int i => .int i
  | _, _, .str x => .str x
  | _, _, .lst h hs => .lst (ex_l e h) (dpms e hs)
  | _, _, .tup h hs => .tup (ex_t e h) (dpms e hs)
theorem dpms {K : Frag} {H H' : Hp} (e : Ex H H') : ∀ {vs : List V} {ds : List PyData}, DpAll K H vs ds → DpAll K H' vs ds
  | _, _, .nil => .nil
  | _, _, .cons h hs => .cons (dpm e h) (dpms e hs)
end

theorem dps_len {K : Frag} {H : Hp} : ∀ {vs : List V} {ds : List PyData}, DpAll K H vs ds → vs.length = ds.length
  | _, _, .nil => rfl
  | _, _, .cons _ hs => congrArg Nat.succ (dps_len hs)
theorem dps_at {K : Frag} {H : Hp} : ∀ {vs : List V} {ds : List PyData} (i : Nat) {d : PyData}, DpAll K H vs ds → ds[i]? = some d → ∃ v, vs[i]? = some v ∧ Dp K H v d
  | _, _, i, d, .nil, e => by simp at e
  | _, _, 0, d, .cons h _, e => by
    cases e
    exact ⟨_, rfl, h⟩
  | _, _, i + 1, d, .cons _ hs, e => dps_at i hs e
theorem dps_to {K : Frag} {H : Hp} : ∀ {vs : List V} {ds : List PyData} (i : Nat) {v : V}, DpAll K H vs ds → vs[i]? = some v → ∃ d, ds[i]? = some d ∧ Dp K H v d
  | _, _, i, d, .nil, e => by simp at e
  | _, _, 0, d, .cons h _, e => by
    cases e
    exact ⟨_, rfl, h⟩
  | _, _, i + 1, d, .cons _ hs, e => dps_to i hs e
theorem dps_app {K : Frag} {H : Hp} : ∀ {vs ws : List V} {ds es : List PyData}, DpAll K H vs ds → DpAll K H ws es → DpAll K H (vs ++ ws) (ds ++ es)
  | _, _, _, _, .nil, g => g
  | _, _, _, _, .cons h hs, g => .cons h (dps_app hs g)
theorem dps_take {K : Frag} {H : Hp} : ∀ {vs : List V} {ds : List PyData} (n : Nat), DpAll K H vs ds → DpAll K H (vs.take n) (ds.take n)
  | _, _, 0, _ => .nil
  | _, _, _ + 1, .nil => .nil
  | _, _, n + 1, .cons h hs => .cons h (dps_take n hs)
theorem dps_drop {K : Frag} {H : Hp} : ∀ {vs : List V} {ds : List PyData} (n : Nat), DpAll K H vs ds → DpAll K H (vs.drop n) (ds.drop n)
  | _, _, 0, h => h
  | _, _, _ + 1, .nil => .nil
  | _, _, n + 1, .cons _ hs => dps_drop n hs
theorem dps_ints {K : Frag} {H : Hp} : ∀ (ns : List Int), DpAll K H (ns.map V.int) (ns.map PyData.int)
  | [] => .nil
  | n :: r => .cons (.int n) (dps_ints r)

/-- the slots hold the data -/
def Holds (K : Frag) (H : Hp) (σ : L2.St) (ρ : Rho) : Prop := σ.length = ρ.length ∧ ∀ (i : Nat) (d : PyData), ρ[i]? = some (some d) → ∃ v, σ[i]? = some (some v) ∧ Dp K H v d
theorem Holds.mono {K : Frag} {H H' : Hp} {σ : L2.St} {ρ : Rho} (e : Ex H H') (h : Holds K H σ ρ) : Holds K H' σ ρ :=
  ⟨h.1, fun i d q => (h.2 i d q).imp fun _ z => ⟨z.1, dpm e z.2⟩⟩
theorem Holds.put {K : Frag} {H : Hp} {σ : L2.St} {ρ : Rho} {v : V} {d : PyData} (i : Nat) (h : Holds K H σ ρ) (hv : Dp K H v d) : Holds K H (σ.set i (some v)) (ρ.set i (some d)) := by
  refine ⟨by rw [List.length_set, List.length_set, h.1], fun j e q => ?_⟩
  rw [List.getElem?_set] at q ⊢
  by_cases hij : i = j
  · subst hij
    rw [if_pos rfl] at q ⊢
    rw [h.1]
    by_cases hl : i < ρ.length
    · rw [if_pos hl] at q ⊢
      cases q
      exact ⟨v, rfl, hv⟩
    · rw [if_neg hl] at q
      cases q
  · rw [if_neg hij] at q ⊢
    exact h.2 j e q
theorem dps_start {K : Frag} {H : Hp} {N : List Str} {vs : List V} {ds : List PyData} (h : DpAll K H vs ds) : Holds K H (L2.start N vs) (ds.map some ++ List.replicate (N.length - ds.length) none) := by
  have hl := dps_len h
  refine ⟨by unfold L2.start; simp [hl], fun i d q => ?_⟩
  unfold L2.start
  by_cases hi : i < ds.length
  · rw [List.getElem?_append_left (by simpa using hi), List.getElem?_map] at q
    rw [List.getElem?_append_left (by simpa [hl] using hi), List.getElem?_map]
    cases e : ds[i]? with
    | none =>
      rw [e] at q
      cases q
    | some d' =>
      rw [e] at q
      cases q
      obtain ⟨v, e1, e2⟩ := dps_at i h e
      exact ⟨v, by rw [e1]; rfl, e2⟩
  · rw [List.getElem?_append_right (by simpa using hi)] at q
    rw [List.getElem?_replicate] at q
    split at q <;> cases q

/-! ### expressions -/
def EvD (K : Frag) (te : TE) (ρ : Rho) (d : PyData) : Prop := ∀ (σ : L2.St) (H : Hp), Holds K H σ ρ → ∀ Q : VK, (∀ v H2, Ex H H2 → Dp K H2 v d → Q v H2) → te σ H Q
def EvC (K : Frag) (t : TT) (ρ : Rho) (b : Bool) : Prop := ∀ (σ : L2.St) (H : Hp), Holds K H σ ρ → ∀ Q : Bool → Hp → Prop, (∀ H2, Ex H H2 → Q b H2) → t σ H Q
def EvS (K : Frag) (ta : TA) (ρ : Rho) (ds : List PyData) : Prop := ∀ (σ : L2.St) (H : Hp), Holds K H σ ρ → ∀ Q : List V → Hp → Prop, (∀ vs H2, Ex H H2 → DpAll K H2 vs ds → Q vs H2) → ta σ H Q

section
variable {K : Frag} {ρ : Rho} {ta tb tc te : TE} {t u : TT} {d e : PyData}
theorem EvD.is (h : EvD K te ρ d) (q : d = e) : EvD K te ρ e := q ▸ h
theorem EvC.is {a b : Bool} (h : EvC K t ρ a) (q : a = b) : EvC K t ρ b := q ▸ h
theorem ed_var {i : Nat} (h : ρ[i]? = some (some d)) : EvD K (tVar i) ρ d := fun σ H g Q q => by
  obtain ⟨v, e1, e2⟩ := g.2 i d h
  exact ⟨v, e1, q v H (Ex.refl H) e2⟩
theorem ed_int {i : Int} : EvD K (tC (.int i)) ρ (.int i) := fun _ H _ _ q => q _ H (Ex.refl H) (.int i)
theorem ed_str {x : Str} : EvD K (tC (.str x)) ρ (.str x) := fun _ H _ _ q => q _ H (Ex.refl H) (.str x)
theorem ed_bl {x : Bool} : EvD K (tC (.bl x)) ρ (.bool x) := fun _ H _ _ q => q _ H (Ex.refl H) (.bl x)
theorem ed_non : EvD K (tC .non) ρ .none := fun _ H _ _ q => q _ H (Ex.refl H) .non
/-- two operands, then the operation on their values -/
theorem ed_two {r : R2} {x y z : PyData} (ha : EvD K ta ρ x) (hb : EvD K tb ρ y)
    (hr : ∀ (H : Hp) (v w : V) (Q : VK), Dp K H v x → Dp K H w y → (∀ u H2, Ex H H2 → Dp K H2 u z → Q u H2) → r v w H Q) : EvD K (tOp r ta tb) ρ z := fun σ H g Q q =>
  ha σ H g _ fun v H1 e1 d1 => hb σ H1 (g.mono e1) _ fun w H2 e2 d2 => hr H2 v w Q (dpm e2 d1) d2 fun u H3 e3 d3 => q u H3 ((e1.trans e2).trans e3) d3
theorem ed_I0 {f : Int → Int → V} {z : PyData} {i j : Int} (ha : EvD K ta ρ (.int i)) (hb : EvD K tb ρ (.int j)) (hz : ∀ H, Dp K H (f i j) z) : EvD K (tOp (rI0 f) ta tb) ρ z :=
  ed_two ha hb fun H v w Q dv dw k => by
    cases dv
    cases dw
    exact ⟨i, j, rfl, rfl, k _ H (Ex.refl H) (hz H)⟩
theorem ed_I {C : Int → Int → Prop} {f : Int → Int → V} {z : PyData} {i j : Int} (ha : EvD K ta ρ (.int i)) (hb : EvD K tb ρ (.int j)) (hc : C i j) (hz : ∀ H, Dp K H (f i j) z) : EvD K (tOp (rI C f) ta tb) ρ z :=
  ed_two ha hb fun H v w Q dv dw k => by
    cases dv
    cases dw
    exact ⟨i, j, rfl, rfl, hc, k _ H (Ex.refl H) (hz H)⟩
theorem ed_add {i j : Int} (ha : EvD K ta ρ (.int i)) (hb : EvD K tb ρ (.int j)) : EvD K (tOp (rI0 fun i j => .int (i + j)) ta tb) ρ (.int (i + j)) := ed_I0 ha hb fun _ => .int _
theorem ed_sub {i j : Int} (ha : EvD K ta ρ (.int i)) (hb : EvD K tb ρ (.int j)) : EvD K (tOp (rI0 fun i j => .int (i - j)) ta tb) ρ (.int (i - j)) := ed_I0 ha hb fun _ => .int _
theorem ed_mul {i j : Int} (ha : EvD K ta ρ (.int i)) (hb : EvD K tb ρ (.int j)) (hc : CMul i j) : EvD K (tOp (rI CMul fun i j => .int (i * j)) ta tb) ρ (.int (i * j)) := ed_I ha hb hc fun _ => .int _
theorem ed_div {i j : Int} (ha : EvD K ta ρ (.int i)) (hb : EvD K tb ρ (.int j)) (hc : CDiv i j) : EvD K (tOp (rI CDiv fun i j => .int (i / j)) ta tb) ρ (.int (i / j)) := ed_I ha hb hc fun _ => .int _
theorem ed_mod {i j : Int} (ha : EvD K ta ρ (.int i)) (hb : EvD K tb ρ (.int j)) (hc : 0 < j) : EvD K (tOp (rI (fun _ j => 0 < j) fun i j => .int (i % j)) ta tb) ρ (.int (i % j)) := ed_I ha hb hc fun _ => .int _
theorem ed_pow {i j : Int} (ha : EvD K ta ρ (.int i)) (hb : EvD K tb ρ (.int j)) (hc : CPow i j) : EvD K (tOp (rI CPow fun i j => .int (i ^ j.toNat)) ta tb) ρ (.int (i ^ j.toNat)) := ed_I ha hb hc fun _ => .int _
theorem ed_lt {i j : Int} (ha : EvD K ta ρ (.int i)) (hb : EvD K tb ρ (.int j)) : EvD K (tOp (rI0 fun i j => .bl (decide (i < j))) ta tb) ρ (.bool (decide (i < j))) := ed_I0 ha hb fun _ => .bl _
theorem ed_le {i j : Int} (ha : EvD K ta ρ (.int i)) (hb : EvD K tb ρ (.int j)) : EvD K (tOp (rI0 fun i j => .bl (decide (i ≤ j))) ta tb) ρ (.bool (decide (i ≤ j))) := ed_I0 ha hb fun _ => .bl _
theorem ed_gt {i j : Int} (ha : EvD K ta ρ (.int i)) (hb : EvD K tb ρ (.int j)) : EvD K (tOp (rI0 fun i j => .bl (decide (j < i))) ta tb) ρ (.bool (decide (j < i))) := ed_I0 ha hb fun _ => .bl _
theorem ed_ge {i j : Int} (ha : EvD K ta ρ (.int i)) (hb : EvD K tb ρ (.int j)) : EvD K (tOp (rI0 fun i j => .bl (decide (j ≤ i))) ta tb) ρ (.bool (decide (j ≤ i))) := ed_I0 ha hb fun _ => .bl _
theorem ed_neg {i : Int} (ha : EvD K ta ρ (.int i)) : EvD K (tUn (rU fun i => .int (-i)) ta) ρ (.int (-i)) := fun σ H g Q q => ha σ H g _ fun v H1 e1 dv => by
  cases dv
  exact ⟨i, rfl, q _ H1 e1 (.int _)⟩
/-- == and != of data -/
theorem ed_eq {x y : PyData} (ha : EvD K ta ρ x) (hb : EvD K tb ρ y) (hx : SeqAt.shaped x = true) (hy : SeqAt.shaped y = true) : EvD K (tOp (rEqD K) ta tb) ρ (.bool (PyData.eqv x y)) :=
  ed_two ha hb fun H v w Q dv dw k => ⟨x, y, dv, dw, hx, hy, k _ H (Ex.refl H) (.bl _)⟩
theorem ed_ne {x y : PyData} (ha : EvD K ta ρ x) (hb : EvD K tb ρ y) (hx : SeqAt.shaped x = true) (hy : SeqAt.shaped y = true) : EvD K (tOp (rNeD K) ta tb) ρ (.bool (!PyData.eqv x y)) :=
  ed_two ha hb fun H v w Q dv dw k => ⟨x, y, dv, dw, hx, hy, k _ H (Ex.refl H) (.bl _)⟩
/-- texts -/
def sLt (x y : Str) : Bool := decide (x.cps.toList < y.cps.toList)
def rLtS : R2 := fun x y H Q => ∃ i j, x = .str i ∧ y = .str j ∧ Q (.bl (decide (i.cps.toList < j.cps.toList))) H
def rLeS : R2 := fun x y H Q => ∃ i j, x = .str i ∧ y = .str j ∧ Q (.bl (!decide (j.cps.toList < i.cps.toList))) H
def rGtS : R2 := fun x y H Q => ∃ i j, x = .str i ∧ y = .str j ∧ Q (.bl (decide (j.cps.toList < i.cps.toList))) H
def rGeS : R2 := fun x y H Q => ∃ i j, x = .str i ∧ y = .str j ∧ Q (.bl (!decide (i.cps.toList < j.cps.toList))) H
def rAddT : R2 := fun x y H Q => ∃ i j, x = .str i ∧ y = .str j ∧ i.length + j.length ≤ sizeLine ∧ Q (.str (i ++ j)) H
theorem op_ltS {X : Cx} : OpR X (compareOp .Lt) rLtS := op_lt_str
theorem op_leS {X : Cx} : OpR X (compareOp .LtE) rLeS := op_le_str
theorem op_gtS {X : Cx} : OpR X (compareOp .Gt) rGtS := op_gt_str
theorem op_geS {X : Cx} : OpR X (compareOp .GtE) rGeS := op_ge_str
theorem op_addS {X : Cx} : OpR X (binaryOp .Add) rAddT := op_add_str
theorem ed_ltS {i j : Str} (ha : EvD K ta ρ (.str i)) (hb : EvD K tb ρ (.str j)) : EvD K (tOp rLtS ta tb) ρ (.bool (sLt i j)) := ed_two ha hb fun H v w Q dv dw k => by
  cases dv
  cases dw
  exact ⟨i, j, rfl, rfl, k _ H (Ex.refl H) (.bl _)⟩
theorem ed_leS {i j : Str} (ha : EvD K ta ρ (.str i)) (hb : EvD K tb ρ (.str j)) : EvD K (tOp rLeS ta tb) ρ (.bool (!sLt j i)) := ed_two ha hb fun H v w Q dv dw k => by
  cases dv
  cases dw
  exact ⟨i, j, rfl, rfl, k _ H (Ex.refl H) (.bl _)⟩
theorem ed_gtS {i j : Str} (ha : EvD K ta ρ (.str i)) (hb : EvD K tb ρ (.str j)) : EvD K (tOp rGtS ta tb) ρ (.bool (sLt j i)) := ed_two ha hb fun H v w Q dv dw k => by
  cases dv
  cases dw
  exact ⟨i, j, rfl, rfl, k _ H (Ex.refl H) (.bl _)⟩
theorem ed_geS {i j : Str} (ha : EvD K ta ρ (.str i)) (hb : EvD K tb ρ (.str j)) : EvD K (tOp rGeS ta tb) ρ (.bool (!sLt i j)) := ed_two ha hb fun H v w Q dv dw k => by
  cases dv
  cases dw
  exact ⟨i, j, rfl, rfl, k _ H (Ex.refl H) (.bl _)⟩
theorem ed_addS {i j : Str} (ha : EvD K ta ρ (.str i)) (hb : EvD K tb ρ (.str j)) (hl : i.length + j.length ≤ sizeLine) : EvD K (tOp rAddT ta tb) ρ (.str (i ++ j)) := ed_two ha hb fun H v w Q dv dw k => by
  cases dv
  cases dw
  exact ⟨i, j, rfl, rfl, hl, k _ H (Ex.refl H) (.str _)⟩
/-- is None -/
def isNone : PyData → Bool
  | .none => true
  | _ => false
theorem isNone_dp {H : Hp} {v : V} (h : Dp K H v d) : decide (v = .non) = isNone d := by cases h <;> rfl
def rIsNo : R2 := fun x y H Q => y = .non ∧ Q (.bl (decide (x = .non))) H
def rNotNo : R2 := fun x y H Q => y = .non ∧ Q (.bl (!decide (x = .non))) H
theorem op_isNo {X : Cx} : OpR X (compareOp .Is) rIsNo := op_isN
theorem op_notNo {X : Cx} : OpR X (compareOp .IsNot) rNotNo := op_notN
theorem ed_isN {x : PyData} (ha : EvD K ta ρ x) : EvD K (tOp rIsNo ta (tC .non)) ρ (.bool (isNone x)) := ed_two ha ed_non fun H v w Q dv dw k => by
  cases dw
  exact ⟨rfl, by rw [isNone_dp dv]; exact k _ H (Ex.refl H) (.bl _)⟩
theorem ed_notN {x : PyData} (ha : EvD K ta ρ x) : EvD K (tOp rNotNo ta (tC .non)) ρ (.bool (!isNone x)) := ed_two ha ed_non fun H v w Q dv dw k => by
  cases dw
  exact ⟨rfl, by rw [isNone_dp dv]; exact k _ H (Ex.refl H) (.bl _)⟩
/-- and, or, not of bools -/
theorem ed_and {a b : Bool} (ha : EvD K ta ρ (.bool a)) (hb : a = true → EvD K tb ρ (.bool b)) : EvD K (tAndV ta tb) ρ (.bool (a && b)) := fun σ H g Q q => ha σ H g _ fun v H1 e1 dv => by
  cases dv
  cases a with
  | true => exact ⟨true, rfl, iteT (hb rfl σ H1 (g.mono e1) Q fun v H2 e2 d2 => q v H2 (e1.trans e2) d2)⟩
  | false => exact ⟨false, rfl, iteF (q _ H1 e1 (.bl _))⟩
theorem ed_or {a b : Bool} (ha : EvD K ta ρ (.bool a)) (hb : a = false → EvD K tb ρ (.bool b)) : EvD K (tOrV ta tb) ρ (.bool (a || b)) := fun σ H g Q q => ha σ H g _ fun v H1 e1 dv => by
  cases dv
  cases a with
  | true => exact ⟨true, rfl, iteT (q _ H1 e1 (.bl _))⟩
  | false => exact ⟨false, rfl, iteF (hb rfl σ H1 (g.mono e1) Q fun v H2 e2 d2 => q v H2 (e1.trans e2) d2)⟩
theorem ed_not {a : Bool} (ha : EvD K ta ρ (.bool a)) : EvD K (tNotV ta) ρ (.bool (!a)) := fun σ H g Q q => ha σ H g _ fun v H1 e1 dv => by
  cases dv
  exact ⟨a, rfl, q _ H1 e1 (.bl _)⟩
theorem ec_val {b : Bool} (h : EvD K ta ρ (.bool b)) : EvC K (tB ta) ρ b := fun σ H g Q q => h σ H g _ fun v H1 e1 dv => by
  cases dv
  exact ⟨b, rfl, q H1 e1⟩
theorem ed_if {b : Bool} {x : PyData} (hc : EvC K t ρ b) (h1 : b = true → EvD K ta ρ x) (h2 : b = false → EvD K tb ρ x) : EvD K (tIf t ta tb) ρ x := fun σ H g Q q => hc σ H g _ fun H1 e1 => by
  cases b with
  | true => exact iteT (h1 rfl σ H1 (g.mono e1) Q fun v H2 e2 d2 => q v H2 (e1.trans e2) d2)
  | false => exact iteF (h2 rfl σ H1 (g.mono e1) Q fun v H2 e2 d2 => q v H2 (e1.trans e2) d2)
/-- a < b < c, both answers bools -/
theorem ed_chain {r r' : R2} {x y z : PyData} {a b : Bool} (ha : EvD K ta ρ x) (hb : EvD K tb ρ y) (hc : EvD K tc ρ z)
    (hr : ∀ (H : Hp) (v w : V) (Q : VK), Dp K H v x → Dp K H w y → (Q (.bl a) H) → r v w H Q)
    (hr' : ∀ (H : Hp) (v w : V) (Q : VK), Dp K H v y → Dp K H w z → (Q (.bl b) H) → r' v w H Q) : EvD K (tChain r r' ta tb tc) ρ (.bool (a && b)) := fun σ H g Q q =>
  ha σ H g _ fun v H1 e1 d1 => hb σ H1 (g.mono e1) _ fun w H2 e2 d2 => hr H2 v w _ (dpm e2 d1) d2 ⟨a, rfl, by
    cases a with
    | true => exact iteT (hc σ H2 (g.mono (e1.trans e2)) _ fun u H3 e3 d3 => hr' H3 w u Q (dpm e3 d2) d3 (q _ H3 ((e1.trans e2).trans e3) (.bl _)))
    | false => exact iteF (q _ H2 (e1.trans e2) (.bl _))⟩
theorem ch_le {i j : Int} (H : Hp) (v w : V) (Q : VK) (dv : Dp K H v (.int i)) (dw : Dp K H w (.int j)) (q : Q (.bl (decide (i ≤ j))) H) : (rI0 fun i j => .bl (decide (i ≤ j))) v w H Q := by
  cases dv
  cases dw
  exact ⟨i, j, rfl, rfl, q⟩
theorem ch_leS {i j : Str} (H : Hp) (v w : V) (Q : VK) (dv : Dp K H v (.str i)) (dw : Dp K H w (.str j)) (q : Q (.bl (!sLt j i)) H) : rLeS v w H Q := by
  cases dv
  cases dw
  exact ⟨i, j, rfl, rfl, q⟩
/-! ### arguments, displays -/
theorem es_nil : EvS K tNil ρ [] := fun _ H _ _ q => q [] H (Ex.refl H) .nil
theorem es_cons {tr : TA} {x : PyData} {xs : List PyData} (h : EvD K ta ρ x) (hs : EvS K tr ρ xs) : EvS K (tCons ta tr) ρ (x :: xs) := fun σ H g Q q =>
  h σ H g _ fun v H1 e1 d1 => hs σ H1 (g.mono e1) _ fun vs H2 e2 d2 => q (v :: vs) H2 (e1.trans e2) (.cons (dpm e2 d1) d2)
theorem EvS.is {ta : TA} {xs ys : List PyData} (h : EvS K ta ρ xs) (q : xs = ys) : EvS K ta ρ ys := q ▸ h
theorem ed_tup {ta : TA} {xs : List PyData} (h : EvS K ta ρ xs) (hl : xs.length ≤ 100000) : EvD K (tTup ta) ρ (.tuple xs) := fun σ H g Q q =>
  h σ H g _ fun vs H1 e1 d1 => ⟨sz_of (by rw [dps_len d1]; exact hl), fun p hp => q _ _ (e1.trans (Ex.new hp)) (.tup (st_of upd_same) (dpms (Ex.new hp) d1))⟩
theorem ed_lst {ta : TA} {xs : List PyData} (h : EvS K ta ρ xs) (hl : xs.length ≤ 100000) : EvD K (tLst ta) ρ (.list xs) := fun σ H g Q q =>
  h σ H g _ fun vs H1 e1 d1 => ⟨sz_of (by rw [dps_len d1]; exact hl), fun p hp => q _ _ (e1.trans (Ex.new hp)) (.lst (sq_of upd_same) (dpms (Ex.new hp) d1))⟩
/-! ### subscripts -/
theorem ixN_of {n : Nat} {i : Int} {k : Nat} (h : i = (k : Int)) (hk : k < n) : ixN n i = some k := by
  unfold ixN
  rw [if_pos (by omega), if_pos (by omega), h]
  rfl
/-- the item at a place that is counted from 0 -/
theorem ed_ixT {xs : List PyData} {i : Int} {x : PyData} (ha : EvD K ta ρ (.tuple xs)) (hb : EvD K tb ρ (.int i)) (hi : 0 ≤ i) (hx : xs[i.toNat]? = some x) : EvD K (tOp (rIxT K) ta tb) ρ x := ed_two ha hb fun H v w Q dv dw k => by
  cases dw
  cases dv with
  | tup h hs =>
    obtain ⟨v, e1, e2⟩ := dps_at i.toNat hs hx
    exact ⟨_, _, i, v, rfl, rfl, h, at_of (by omega) e1, k v H (Ex.refl H) e2⟩
theorem ed_ixL {xs : List PyData} {i : Int} {x : PyData} (ha : EvD K ta ρ (.list xs)) (hb : EvD K tb ρ (.int i)) (hi : 0 ≤ i) (hx : xs[i.toNat]? = some x) : EvD K (tOp (rIxL K) ta tb) ρ x := ed_two ha hb fun H v w Q dv dw k => by
  cases dw
  cases dv with
  | lst h hs =>
    obtain ⟨v, e1, e2⟩ := dps_at i.toNat hs hx
    exact ⟨_, _, i, v, rfl, rfl, h, at_of (by omega) e1, k v H (Ex.refl H) e2⟩
theorem ed_ixS {z : Str} {i : Int} {c : Nat} (ha : EvD K ta ρ (.str z)) (hb : EvD K tb ρ (.int i)) (hl : z.length ≤ sizeLine) (hi : 0 ≤ i) (hx : z.cps.toList[i.toNat]? = some c) : EvD K (tOp rIxS ta tb) ρ (.str ⟨#[c]⟩) := ed_two ha hb fun H v w Q dv dw k => by
  cases dw
  cases dv
  have e : atI z.cps.toList i = some c := by
    have h1 := atI_nat hx
    rw [show ((i.toNat : Nat) : Int) = i by omega] at h1
    exact h1
  exact ⟨z, i, c, rfl, rfl, hl, e, k _ H (Ex.refl H) (.str _)⟩
/-! ### calls -/
/-- the promise of a pure def, told over data -/
def spD (K : Frag) (W : List PyData → PyData → Prop) : Sp := fun vs H Q _ => ∃ ds d, DpAll K H vs ds ∧ W ds d ∧ ∀ v H', Ex H H' → Dp K H' v d → Q v H'
theorem ed_call {W : List PyData → PyData → Prop} {E : XK} {ta : TA} {xs : List PyData} {x : PyData} (h : EvS K ta ρ xs) (hw : W xs x) : EvD K (tCall (spD K W) [] E ta) ρ x := fun σ H g Q q =>
  h σ H g _ fun vs H1 e1 d1 => by
    show spD K W (vs ++ []) H1 Q E
    rw [List.append_nil]
    exact ⟨xs, x, d1, hw, fun v H2 e2 d2 => q v H2 (e1.trans e2) d2⟩
theorem ed_cb {r : List V → Hp → VK → Prop} {ta : TA} {xs : List PyData} {x : PyData} (h : EvS K ta ρ xs) (hr : ∀ (H : Hp) (vs : List V) (Q : VK), DpAll K H vs xs → (∀ v H2, Ex H H2 → Dp K H2 v x → Q v H2) → r vs H Q) : EvD K (tCB r ta) ρ x := fun σ H g Q q =>
  h σ H g _ fun vs H1 e1 d1 => hr H1 vs Q d1 fun v H2 e2 d2 => q v H2 (e1.trans e2) d2
theorem dps1 {H : Hp} {vs : List V} {x : PyData} (h : DpAll K H vs [x]) : ∃ v, vs = [v] ∧ Dp K H v x := by
  cases h with
  | cons a b =>
    cases b
    exact ⟨_, rfl, a⟩
theorem dps2 {H : Hp} {vs : List V} {x y : PyData} (h : DpAll K H vs [x, y]) : ∃ v w, vs = [v, w] ∧ Dp K H v x ∧ Dp K H w y := by
  cases h with
  | cons a b =>
    obtain ⟨w, rfl, c⟩ := dps1 b
    exact ⟨_, w, rfl, a, c⟩
def rInt1 : List V → Hp → VK → Prop := fun xs H Q => (∃ i, xs = [.int i] ∧ Q (.int i) H) ∨ ∃ k, xs = [.bl k] ∧ Q (.int (if k then 1 else 0)) H
theorem cr_int1 {X : Cx} : CallR X (.type "int") rInt1 := call_int1
theorem ed_toint {ta : TA} {i : Int} (h : EvS K ta ρ [.int i]) : EvD K (tCB rInt1 ta) ρ (.int i) := ed_cb h fun H vs Q d1 k => by
  obtain ⟨v, rfl, dv⟩ := dps1 d1
  cases dv
  exact .inl ⟨i, rfl, k _ H (Ex.refl H) (.int i)⟩
/-- len -/
def rLenD (K : Frag) : List V → Hp → VK → Prop := fun xs H Q => ∃ x n, xs = [x] ∧ LenV K x H n ∧ Q (.int n) H
theorem cr_len {X : Cx} : CallR X (.builtin "len") (rLenD X.K) := call_len
theorem ed_lenT {ta : TA} {xs : List PyData} (h : EvS K ta ρ [.tuple xs]) : EvD K (tCB (rLenD K) ta) ρ (.int (xs.length : Int)) := ed_cb h fun H vs Q d1 k => by
  obtain ⟨v, rfl, dv⟩ := dps1 d1
  cases dv with
  | tup h hs => exact ⟨_, _, rfl, .inr ⟨_, h, (dps_len hs).symm⟩, k _ H (Ex.refl H) (.int _)⟩
theorem ed_lenL {ta : TA} {xs : List PyData} (h : EvS K ta ρ [.list xs]) : EvD K (tCB (rLenD K) ta) ρ (.int (xs.length : Int)) := ed_cb h fun H vs Q d1 k => by
  obtain ⟨v, rfl, dv⟩ := dps1 d1
  cases dv with
  | lst h hs => exact ⟨_, _, rfl, .inl ⟨_, h, (dps_len hs).symm⟩, k _ H (Ex.refl H) (.int _)⟩
theorem ed_lenS {ta : TA} {z : Str} (h : EvS K ta ρ [.str z]) (hl : z.length ≤ sizeLine) : EvD K (tCB (rLenD K) ta) ρ (.int (z.length : Int)) := ed_cb h fun H vs Q d1 k => by
  obtain ⟨v, rfl, dv⟩ := dps1 d1
  cases dv
  exact ⟨_, _, rfl, ⟨hl, rfl⟩, k _ H (Ex.refl H) (.int _)⟩
def rMaxI : List V → Hp → VK → Prop := fun xs H Q => ∃ i j, xs = [.int i, .int j] ∧ Q (.int (if j > i then j else i)) H
def rMinI : List V → Hp → VK → Prop := fun xs H Q => ∃ i j, xs = [.int i, .int j] ∧ Q (.int (if j < i then j else i)) H
theorem cr_maxI {X : Cx} (hc : X.calm = true) : CallR X (.builtin "max") rMaxI := call_max2 hc
theorem cr_minI {X : Cx} (hc : X.calm = true) : CallR X (.builtin "min") rMinI := call_min2 hc
theorem ed_maxI {ta : TA} {i j : Int} (h : EvS K ta ρ [.int i, .int j]) : EvD K (tCB rMaxI ta) ρ (.int (if j > i then j else i)) := ed_cb h fun H vs Q d1 k => by
  obtain ⟨v, w, rfl, dv, dw⟩ := dps2 d1
  cases dv
  cases dw
  exact ⟨i, j, rfl, k _ H (Ex.refl H) (.int _)⟩
theorem ed_minI {ta : TA} {i j : Int} (h : EvS K ta ρ [.int i, .int j]) : EvD K (tCB rMinI ta) ρ (.int (if j < i then j else i)) := ed_cb h fun H vs Q d1 k => by
  obtain ⟨v, w, rfl, dv, dw⟩ := dps2 d1
  cases dv
  cases dw
  exact ⟨i, j, rfl, k _ H (Ex.refl H) (.int _)⟩
/-! ### isinstance -/
def tyN : PyData → String
  | .none => "NoneType"
  | .bool _ => "bool"
  | .int _ => "int"
  | .str _ => "str"
  | .list _ => "list"
  | .tuple _ => "tuple"
  | .dict _ => "dict"
theorem tyx_of {H : Hp} {v : V} (h : Dp K H v d) : TyX K H v (.type (tyN d)) := by
  cases h with
  | non => exact .base .non
  | bl b => exact .base (.bl b)
  | int i => exact .base (.int i)
  | str x => exact .base (.str x)
  | lst h hs =>
    rcases h with (h | ⟨o, h⟩) | ⟨o, its, n, h, c, _⟩
    · exact .base (.lst h)
    · exact .base (.frz h)
    · exact .kList h c
  | tup h hs =>
    rcases h with (h | ⟨o, h⟩) | ⟨o, its, n, h, c, _⟩
    · exact .base (.tup h)
    · exact .fTuple h
    · exact .kTuple h c
/-- isinstance(x, T), T the built-in class named n: the second argument's reading is the class itself -/
theorem ed_isi {n : String} {x : PyData} {b : Bool} (h : EvD K ta ρ x) (hb : kitB (tyN x) n = some b) : EvD K (tCB (rIsi K) (tCons ta (tCons (tC (.ty n)) tNil))) ρ (.bool b) := fun σ H g Q q =>
  h σ H g _ fun v H1 e1 d1 => ⟨v, .ty n, _, _, b, rfl, .ty n, tyx_of d1, kit_ty hb, q _ H1 e1 (.bl b)⟩
end

/-! ### statements: N what is known where they end, R what they return -/
def Run (K : Frag) (ts : TS) (ρ : Rho) (N : Rho → Prop) (R : PyData → Prop) : Prop := ∀ (D : Ends) (σ : L2.St) (H : Hp), Holds K H σ ρ →
  (∀ ρ' σ' H', N ρ' → Ex H H' → Holds K H' σ' ρ' → D.nx σ' H') → (∀ d v H', R d → Ex H H' → Dp K H' v d → D.rt v H') → ts D σ H
section
variable {K : Frag} {ρ : Rho} {te : TE} {t : TT} {ta : TA} {t1 t2 tb : TS} {N M : Rho → Prop} {R : PyData → Prop} {d : PyData}
theorem run_seq (h1 : Run K t1 ρ M R) (h2 : ∀ ρ', M ρ' → Run K t2 ρ' N R) : Run K (tSeq t1 t2) ρ N R := fun D σ H g hN hR =>
  h1 { D with nx := t2 D } σ H g (fun ρ' σ' H' m e1 g1 => h2 ρ' m D σ' H' g1 (fun ρ2 σ2 H2 n e2 g2 => hN ρ2 σ2 H2 n (e1.trans e2) g2) fun d v H2 r e2 dv => hR d v H2 r (e1.trans e2) dv) hR
theorem run_next (h : N ρ) : Run K tNext ρ N R := fun D σ H g hN _ => hN ρ σ H h (Ex.refl H) g
theorem run_ret (h : EvD K te ρ d) (hr : R d) : Run K (tRet te) ρ N R := fun D σ H g _ hR => h σ H g _ fun v H1 e1 d1 => hR d v H1 hr e1 d1
theorem run_asg {i : Nat} (h : EvD K te ρ d) (hn : N (ρ.set i (some d))) : Run K (tAsg te (gName i)) ρ N R := fun D σ H g hN _ => h σ H g _ fun v H1 e1 d1 => hN _ _ H1 hn e1 ((g.mono e1).put i d1)
/-- x = e, and what follows -/
theorem run_set {i : Nat} (h : EvD K te ρ d) (k : Run K t2 (ρ.set i (some d)) N R) : Run K (tSeq (tAsg te (gName i)) t2) ρ N R := run_seq (M := fun ρ' => ρ' = ρ.set i (some d)) (run_asg h rfl) fun ρ' e => e ▸ k
theorem run_if {b : Bool} (h : EvC K t ρ b) (h1 : b = true → Run K t1 ρ N R) (h2 : b = false → Run K t2 ρ N R) : Run K (tIfS t t1 t2) ρ N R := fun D σ H g hN hR => h σ H g _ fun H1 e1 => by
  cases b with
  | true => exact iteT (h1 rfl D σ H1 (g.mono e1) (fun ρ' σ' H' n e2 g2 => hN ρ' σ' H' n (e1.trans e2) g2) fun d v H' r e2 dv => hR d v H' r (e1.trans e2) dv)
  | false => exact iteF (h2 rfl D σ H1 (g.mono e1) (fun ρ' σ' H' n e2 g2 => hN ρ' σ' H' n (e1.trans e2) g2) fun d v H' r e2 dv => hR d v H' r (e1.trans e2) dv)
/-- an if whose branches are followed by the same rest -/
theorem run_ifs {b : Bool} (h : EvC K t ρ b) (h1 : b = true → Run K (tSeq t1 tb) ρ N R) (h2 : b = false → Run K (tSeq t2 tb) ρ N R) : Run K (tSeq (tIfS t t1 t2) tb) ρ N R := fun D σ H g hN hR => h σ H g _ fun H1 e1 => by
  cases b with
  | true => exact iteT (h1 rfl D σ H1 (g.mono e1) (fun ρ' σ' H' n e2 g2 => hN ρ' σ' H' n (e1.trans e2) g2) fun d v H' r e2 dv => hR d v H' r (e1.trans e2) dv)
  | false => exact iteF (h2 rfl D σ H1 (g.mono e1) (fun ρ' σ' H' n e2 g2 => hN ρ' σ' H' n (e1.trans e2) g2) fun d v H' r e2 dv => hR d v H' r (e1.trans e2) dv)
theorem run_nexts (k : Run K t2 ρ N R) : Run K (tSeq tNext t2) ρ N R := fun D σ H g hN hR => k D σ H g hN hR
theorem run_retS (h : EvD K te ρ d) (hr : R d) : Run K (tSeq (tRet te) t2) ρ N R := fun D σ H g _ hR => h σ H g _ fun v H1 e1 d1 => hR d v H1 hr e1 d1
theorem run_assoc {t3 : TS} (h : Run K (tSeq t1 (tSeq t2 t3)) ρ N R) : Run K (tSeq (tSeq t1 t2) t3) ρ N R := h
/-- a, b = e -/
theorem run_pair {i j : Nat} {x y : PyData} (h : EvD K te ρ (.tuple [x, y])) (k : Run K t2 ((ρ.set i (some x)).set j (some y)) N R) :
    Run K (tSeq (tAsg te (gTup K 2 (gCons (gName i) (gCons (gName j) gNil)))) t2) ρ N R := fun D σ H g hN hR => h σ H g _ fun v H1 e1 d1 => by
  cases d1 with
  | tup hq hs =>
    obtain ⟨v, w, rfl, dv, dw⟩ := dps2 hs
    refine ⟨_, _, rfl, hq, rfl, v, [w], rfl, w, [], rfl, rfl, ?_⟩
    exact k D _ H1 (((g.mono e1).put i dv).put j dw) (fun ρ' σ' H' n e2 g2 => hN ρ' σ' H' n (e1.trans e2) g2) fun d v H' r e2 dv => hR d v H' r (e1.trans e2) dv
/-- a, b = e, f -/
theorem run_par {i j : Nat} {x y : PyData} (h : EvS K ta ρ [x, y]) (k : Run K t2 ((ρ.set i (some x)).set j (some y)) N R) : Run K (tSeq (tPar i j ta) t2) ρ N R := fun D σ H g hN hR => h σ H g _ fun vs H1 e1 d1 => by
  obtain ⟨v, w, rfl, dv, dw⟩ := dps2 d1
  exact ⟨v, w, rfl, k D _ H1 (((g.mono e1).put i dv).put j dw) (fun ρ' σ' H' n e2 g2 => hN ρ' σ' H' n (e1.trans e2) g2) fun d v H' r e2 dv => hR d v H' r (e1.trans e2) dv⟩
/-! loops: I the word, by the turn -/
theorem run_range {j : Nat} {n : Int} (h : EvS K ta ρ [.int n]) (hn : -(2 ^ 62) ≤ n ∧ n < 2 ^ 62) (I : Nat → Rho → Prop) (h0 : I 0 ρ)
    (hs : ∀ (i : Nat) ρ', (i : Int) < n → I i ρ' → Run K tb (ρ'.set j (some (.int (i : Int)))) (I (i + 1)) R) (hd : ∀ ρ', I n.toNat ρ' → Run K t2 ρ' N R) : Run K (tSeq (tFor (iRng1 ta) (gName j) tb) t2) ρ N R := fun D σ H g hN hR =>
  h σ H g _ fun vs H1 e1 d1 => by
    obtain ⟨v, rfl, dv⟩ := dps1 d1
    cases dv
    refine ⟨n, rfl, hn.1, hn.2, for_range (lo := 0) (n := n.toNat) (fun i σ' H' => ∃ ρ', I i ρ' ∧ Ex H H' ∧ Holds K H' σ' ρ') ⟨ρ, h0, e1, g.mono e1⟩ (fun i σ' H' hi w => ?_) fun σ' H' w => ?_⟩
    · obtain ⟨ρ', p, e2, g2⟩ := w
      have q := hs i ρ' (by omega) p
      show tb _ (σ'.set j (some (.int ((0 : Int) + (i : Int))))) H'
      rw [Int.zero_add]
      exact q _ _ H' (g2.put j (.int _)) (fun ρ3 σ3 H3 p3 e3 g3 => ⟨ρ3, p3, e2.trans e3, g3⟩) fun d v H3 r e3 dv => hR d v H3 r (e2.trans e3) dv
    · obtain ⟨ρ', p, e2, g2⟩ := w
      exact hd ρ' p D σ' H' g2 (fun ρ3 σ3 H3 p3 e3 g3 => hN ρ3 σ3 H3 p3 (e2.trans e3) g3) fun d v H3 r e3 dv => hR d v H3 r (e2.trans e3) dv
theorem run_forT {j : Nat} {xs : List PyData} (h : EvD K te ρ (.tuple xs)) (I : Nat → Rho → Prop) (h0 : I 0 ρ)
    (hs : ∀ (i : Nat) x ρ', xs[i]? = some x → I i ρ' → Run K tb (ρ'.set j (some x)) (I (i + 1)) R) (hd : ∀ ρ', I xs.length ρ' → Run K t2 ρ' N R) : Run K (tSeq (tFor (iTup K te) (gName j) tb) t2) ρ N R := fun D σ H g hN hR =>
  h σ H g _ fun v H1 e1 d1 => by
    cases d1 with
    | tup hq hds =>
      refine ⟨_, rfl, ⟨_, hq⟩, for_tup (K := K) (fun i σ' H' => ∃ ρ', I i ρ' ∧ Ex H1 H' ∧ Holds K H' σ' ρ') ⟨ρ, h0, Ex.refl _, g.mono e1⟩ (fun i σ' H' _ w => ex_t w.choose_spec.2.1 hq) (fun i v σ' H' hv w => ?_) fun σ' H' w => ?_⟩
      · obtain ⟨ρ', p, e2, g2⟩ := w
        obtain ⟨x, hx, dx⟩ := dps_to i hds hv
        exact hs i x ρ' hx p _ _ H' (g2.put j (dpm e2 dx)) (fun ρ3 σ3 H3 p3 e3 g3 => ⟨ρ3, p3, e2.trans e3, g3⟩) fun d v H3 r e3 dv => hR d v H3 r ((e1.trans e2).trans e3) dv
      · obtain ⟨ρ', p, e2, g2⟩ := w
        rw [dps_len hds] at p
        exact hd ρ' p D σ' H' g2 (fun ρ3 σ3 H3 p3 e3 g3 => hN ρ3 σ3 H3 p3 ((e1.trans e2).trans e3) g3) fun d v H3 r e3 dv => hR d v H3 r ((e1.trans e2).trans e3) dv
theorem run_forL {j : Nat} {xs : List PyData} (h : EvD K te ρ (.list xs)) (I : Nat → Rho → Prop) (h0 : I 0 ρ)
    (hs : ∀ (i : Nat) x ρ', xs[i]? = some x → I i ρ' → Run K tb (ρ'.set j (some x)) (I (i + 1)) R) (hd : ∀ ρ', I xs.length ρ' → Run K t2 ρ' N R) : Run K (tSeq (tFor (iList K te) (gName j) tb) t2) ρ N R := fun D σ H g hN hR =>
  h σ H g _ fun v H1 e1 d1 => by
    cases d1 with
    | lst hq hds =>
      refine ⟨_, rfl, ⟨_, hq⟩, for_list (K := K) (fun i σ' H' => ∃ ρ', I i ρ' ∧ Ex H1 H' ∧ Holds K H' σ' ρ') ⟨ρ, h0, Ex.refl _, g.mono e1⟩ (fun i σ' H' _ w => ex_l w.choose_spec.2.1 hq) (fun i v σ' H' hv w => ?_) fun σ' H' w => ?_⟩
      · obtain ⟨ρ', p, e2, g2⟩ := w
        obtain ⟨x, hx, dx⟩ := dps_to i hds hv
        exact hs i x ρ' hx p _ _ H' (g2.put j (dpm e2 dx)) (fun ρ3 σ3 H3 p3 e3 g3 => ⟨ρ3, p3, e2.trans e3, g3⟩) fun d v H3 r e3 dv => hR d v H3 r ((e1.trans e2).trans e3) dv
      · obtain ⟨ρ', p, e2, g2⟩ := w
        rw [dps_len hds] at p
        exact hd ρ' p D σ' H' g2 (fun ρ3 σ3 H3 p3 e3 g3 => hN ρ3 σ3 H3 p3 ((e1.trans e2).trans e3) g3) fun d v H3 r e3 dv => hR d v H3 r ((e1.trans e2).trans e3) dv
theorem run_forS {j : Nat} {z : Str} (h : EvD K te ρ (.str z)) (I : Nat → Rho → Prop) (h0 : I 0 ρ)
    (hs : ∀ (i : Nat) c ρ', z.cps.toList[i]? = some c → I i ρ' → Run K tb (ρ'.set j (some (.str ⟨#[c]⟩))) (I (i + 1)) R) (hd : ∀ ρ', I z.cps.toList.length ρ' → Run K t2 ρ' N R) : Run K (tSeq (tFor (iStr te) (gName j) tb) t2) ρ N R := fun D σ H g hN hR =>
  h σ H g _ fun v H1 e1 d1 => by
    cases d1
    refine ⟨z, rfl, for_it (walk_str (z := z)) (fun i σ' H' => ∃ ρ', I i ρ' ∧ Ex H H' ∧ Holds K H' σ' ρ') ⟨ρ, h0, e1, g.mono e1⟩ (fun _ _ _ _ _ => trivial) (fun i v σ' H' H2 hi w y => ?_) fun σ' H' w => ?_⟩
    · obtain ⟨ρ', p, e2, g2⟩ := w
      obtain ⟨rfl, c, hc, rfl⟩ := y
      exact hs i c ρ' (by rw [Array.getElem?_toList]; exact hc) p _ _ _ (g2.put j (.str _)) (fun ρ3 σ3 H3 p3 e3 g3 => ⟨ρ3, p3, e2.trans e3, g3⟩) fun d v H3 r e3 dv => hR d v H3 r (e2.trans e3) dv
    · obtain ⟨ρ', p, e2, g2⟩ := w
      exact hd ρ' (by rw [Array.length_toList]; exact p) D σ' H' g2 (fun ρ3 σ3 H3 p3 e3 g3 => hN ρ3 σ3 H3 p3 (e2.trans e3) g3) fun d v H3 r e3 dv => hR d v H3 r (e2.trans e3) dv
end

/-! ### a pure def keeps its promise -/
section
variable {P : Program} {w : World} {K : Frag} {mg : Str → Option Value} {base : Heap}
abbrev FnP (K : Frag) (x : Str) (st : Stmt) (f : Addr) (fd : FuncData) : Prop := L2.FunD K x x (defArgs st) (defBody st) (defScope st) [] [] f fd
def rho0 (n : Nat) (ds : List PyData) : Rho := ds.map some ++ List.replicate (n - ds.length) none
theorem fn_data {x : Str} {st : Stmt} {f : Addr} {fd : FuncData} {N ps : List Str} {k : Nat} {W : List PyData → PyData → Prop} (F : FnP K x st f fd) (S : FnScope N ps (defScope st)) (len : ∀ ds d, W ds d → ds.length = ps.length)
    (body : ∀ ds d, W ds d → ∀ (cdv : Value) (A : Around) (outer : List PySem.Env) (s : Shared) (H : Hp) (E : XK), Room k (A.deeper (PyProof.Rows.envOfC x (defScope st) s.heap.objs.size f cdv)) →
      ∃ t, PSs (cxOf CX0 P w K mg base N x (defScope st) f cdv A outer s H E).nox (defBody st) t ∧ Run K t (rho0 N.length ds) (fun _ => d = .none) (fun e => e = d)) : FnOk P w K mg base CX0 (k + 1) f fd ps (spD K W) := by
  refine L2.FunD.ok F S (fun vs H Q E h => ?_) (fun cdv A outer s H vs Q E hr h => ?_)
  · obtain ⟨ds, d, h1, h2, _⟩ := h
    rw [dps_len h1]
    exact len ds d h2
  · obtain ⟨ds, d, h1, h2, q⟩ := h
    obtain ⟨t, ht, hrun⟩ := body ds d h2 cdv A outer s H E hr
    refine ⟨t, PSs.nox ht, hrun _ _ H (dps_start h1) (fun ρ' σ' H' e e1 _ => ?_) fun e v H' q1 e1 dv => ?_⟩
    · subst e
      exact q .non H' e1 .non
    · subst q1
      exact q v H' e1 dv
/-- the script as data -/
def dScr (ns : List Int) : PyData := .list (ns.map PyData.int)
def WLaw : List PyData → PyData → Prop := fun ds d => ∃ ns : List Int, ds = [dScr ns] ∧ ns.length ≤ 63 ∧ d = .bool true
theorem law_end {H : Hp} {a : Addr} {ns : List Int} (hl : ns.length ≤ 63) (h : SqL K H a (ns.map V.int)) : spD K WLaw [.ref a] H (fun v _ => v = .bl true) (fun _ _ _ => False) :=
  ⟨[dScr ns], .bool true, .cons (.lst h (dps_ints ns)) .nil, ⟨ns, rfl, hl, rfl⟩, fun v _ _ dv => by
    cases dv
    rfl⟩
end
end Pd

namespace Pd
open PySem L2 Evl
theorem cmpS_gt {P : Program} {w : World} {A : Around} {B : Nat → Value → Prop} (z : Nat → Str) (hz : ∀ i v, B i v → ∃ t, v = .str (z i) t) : CmpOf P w A .Gt B (fun i j => decide ((z j).cps.toList < (z i).cps.toList)) := by
  intro i j vi vj s Q E bi bj h
  obtain ⟨t, rfl⟩ := hz i vi bi
  obtain ⟨u, rfl⟩ := hz j vj bj
  refine richCompare_gives (op := .Gt) (typeIs_str s _ t) (typeIs_str s _ u) F.slot_str_gt F.entry_str_gt ?_ (gives_str_gt _ _ t u) (fun q => nomatch q) h
  exact F.args_str_gt_2 _ _
theorem cmpS_lt {P : Program} {w : World} {A : Around} {B : Nat → Value → Prop} (z : Nat → Str) (hz : ∀ i v, B i v → ∃ t, v = .str (z i) t) : CmpOf P w A .Lt B (fun i j => decide ((z i).cps.toList < (z j).cps.toList)) := by
  intro i j vi vj s Q E bi bj h
  obtain ⟨t, rfl⟩ := hz i vi bi
  obtain ⟨u, rfl⟩ := hz j vj bj
  refine richCompare_gives (op := .Lt) (typeIs_str s _ t) (typeIs_str s _ u) F.slot_str_lt F.entry_str_lt ?_ (gives_str_lt _ _ t u) (fun q => nomatch q) h
  exact F.args_str_lt_2 _ _
section
variable {prog : Program} {w : World} {A : Around} {E : Value → Shared → Prop} {s : Shared}
/-- the walk over the pair that max, min lay down -/
theorem pair_walk {op : CmpOp} {a b : Value} {bt : Nat → Nat → Bool} {Q : Value → Shared → Prop} (hh : A.handled = none) (hc : CmpOf prog w A.in1 op (fun i v => (#[a, b] : Array Value)[i]? = some v) bt)
    (h : ∀ h' tk, (∀ c o, s.heap.get? c = some o → h'.get? c = some o) → Q (if bt 1 0 = true then b else a) { s with heap := h', toks := tk }) :
    wpAny (model prog w) A.in1 (pyIter (.ref s.heap.objs.size)) (fun it s₂ => ∃ I fp wr n P St bt, it = .ref I ∧ Walks prog w A.in1 I fp wr n P St ∧ St 0 s₂.heap ∧ (∀ b ∈ fp, b < s₂.heap.objs.size) ∧ 0 < n ∧ CmpOf prog w A.in1 op P bt ∧
      ∀ v h' tk, P (argBest bt (n - 1)) v → (∀ b o, b ∉ wr → s₂.heap.get? b = some o → h'.get? b = some o) → Q v { s₂ with heap := h', toks := tk }) E
      { s with heap := s.heap.push { cls := .type "tuple", data := .seq #[a, b] } } := by
  have new : (s.heap.push { cls := .type "tuple", data := .seq #[a, b] }).IsTuple s.heap.objs.size #[a, b] := ⟨_, Heap.get?_push_size _ rfl, rfl, 0, rfl⟩
  have sz : (s.heap.push { cls := .type "tuple", data := .seq #[a, b] }).objs.size = s.heap.objs.size + 1 := Heap.size_push ..
  refine wpAny_pyIter_tuple new ?_
  refine ⟨_, [_, s.heap.objs.size], [_], 2, _, _, bt, rfl, Walks.tuple (A := A.in1) hh _ s.heap.objs.size (fun z => Nat.succ_ne_self _ (sz.symm.trans z.symm)) #[a, b], ?_, ?_, by decide, hc, ?_⟩
  · exact ⟨⟨_, Heap.get?_push_size _ rfl, rfl, rfl⟩, new.push _⟩
  · intro c hm
    show c < ((s.heap.push _).push _).objs.size
    rw [Heap.size_push, sz]
    simp only [List.mem_cons, List.not_mem_nil, or_false] at hm
    rcases hm with rfl | rfl
    · rw [sz]
      exact Nat.lt_succ_self _
    · exact Nat.lt_succ_of_lt (Nat.lt_succ_self _)
  · intro v h' tk hP hk
    have old : ∀ c o, s.heap.get? c = some o → h'.get? c = some o := by
      intro c o e
      refine hk c o ?_ (Heap.get?_push_of_some _ (Heap.get?_push_of_some _ e))
      intro hm
      simp only [List.mem_cons, List.not_mem_nil, or_false] at hm
      have l := Heap.lt_size e
      rw [hm, sz] at l
      exact Nat.lt_irrefl _ (Nat.lt_of_succ_lt l)
    have q := h h' tk old
    have hv : v = if bt 1 0 = true then b else a := by
      have hb : argBest bt (2 - 1) = if bt 1 0 = true then 1 else 0 := by simp [argBest]
      rw [hb] at hP
      by_cases c : bt 1 0 = true
      · rw [if_pos c] at hP ⊢
        simpa using hP.symm
      · rw [if_neg c] at hP ⊢
        simpa using hP.symm
    rw [hv]
    exact q
theorem sAt {x y : Str} {t u : Tok} (i : Nat) (v : Value) (h : (#[Value.str x t, Value.str y u] : Array Value)[i]? = some v) : ∃ t', v = .str (if i = 0 then x else y) t' := by
  match i, h with
  | 0, h => exact ⟨t, by simpa using h.symm⟩
  | 1, h => exact ⟨u, by simpa using h.symm⟩
  | n + 2, h => simp at h
end
def sMax (x y : Str) : Str := if sLt x y = true then y else x
def sMin (x y : Str) : Str := if sLt y x = true then y else x
def rMaxS : List V → Hp → VK → Prop := fun xs H Q => ∃ x y, xs = [.str x, .str y] ∧ Q (.str (sMax x y)) H
def rMinS : List V → Hp → VK → Prop := fun xs H Q => ∃ x y, xs = [.str x, .str y] ∧ Q (.str (sMin x y)) H
theorem cr_maxS {X : Cx} (hc : X.calm = true) : CallR X (.builtin "max") rMaxS := by
  intro pins s σ H xs us Q I r h
  obtain ⟨x, y, rfl, q⟩ := h
  obtain ⟨u1, u2, rfl, ⟨t, rfl⟩, ⟨t', rfl⟩⟩ := vals2 r
  refine call_max_two (pair_walk (I.ok.hd hc) (cmpS_gt (fun i => if i = 0 then x else y) (fun i v => sAt i v)) fun h' tk k => ⟨_, H, I.kept k, ?_, q⟩)
  unfold sMax sLt
  by_cases c : x.cps.toList < y.cps.toList
  · simp [c]
    exact ⟨_, rfl⟩
  · simp [c]
    exact ⟨_, rfl⟩
theorem cr_minS {X : Cx} (hc : X.calm = true) : CallR X (.builtin "min") rMinS := by
  intro pins s σ H xs us Q I r h
  obtain ⟨x, y, rfl, q⟩ := h
  obtain ⟨u1, u2, rfl, ⟨t, rfl⟩, ⟨t', rfl⟩⟩ := vals2 r
  refine call_min_two (pair_walk (I.ok.hd hc) (cmpS_lt (fun i => if i = 0 then x else y) (fun i v => sAt i v)) fun h' tk k => ⟨_, H, I.kept k, ?_, q⟩)
  unfold sMin sLt
  by_cases c : y.cps.toList < x.cps.toList
  · simp [c]
    exact ⟨_, rfl⟩
  · simp [c]
    exact ⟨_, rfl⟩
section
variable {K : Frag} {ρ : Rho} {ta tb tc te : TE} {t u : TT} {d e : PyData}
theorem ed_maxS {ta : TA} {i j : Str} (h : EvS K ta ρ [.str i, .str j]) : EvD K (tCB rMaxS ta) ρ (.str (sMax i j)) := ed_cb h fun H vs Q d1 k => by
  obtain ⟨v, w, rfl, dv, dw⟩ := dps2 d1
  cases dv
  cases dw
  exact ⟨i, j, rfl, k _ H (Ex.refl H) (.str _)⟩
theorem ed_minS {ta : TA} {i j : Str} (h : EvS K ta ρ [.str i, .str j]) : EvD K (tCB rMinS ta) ρ (.str (sMin i j)) := ed_cb h fun H vs Q d1 k => by
  obtain ⟨v, w, rfl, dv, dw⟩ := dps2 d1
  cases dv
  cases dw
  exact ⟨i, j, rfl, k _ H (Ex.refl H) (.str _)⟩
/-! tests -/
theorem ec_test {b : Bool} (h : EvD K ta ρ (.bool b)) : EvC K (tTest ta) ρ b := fun σ H g Q q => h σ H g _ fun v H1 e1 dv => by
  cases dv
  exact ⟨b, rfl, q H1 e1⟩
theorem ec_and {a b : Bool} (h1 : EvC K t ρ a) (h2 : a = true → EvC K u ρ b) : EvC K (tAnd t u) ρ (a && b) := fun σ H g Q q => h1 σ H g _ fun H1 e1 => by
  cases a with
  | true => exact iteT (h2 rfl σ H1 (g.mono e1) Q fun H2 e2 => q H2 (e1.trans e2))
  | false => exact iteF (q H1 e1)
theorem ec_or {a b : Bool} (h1 : EvC K t ρ a) (h2 : a = false → EvC K u ρ b) : EvC K (tOr t u) ρ (a || b) := fun σ H g Q q => h1 σ H g _ fun H1 e1 => by
  cases a with
  | true => exact iteT (q H1 e1)
  | false => exact iteF (h2 rfl σ H1 (g.mono e1) Q fun H2 e2 => q H2 (e1.trans e2))
theorem ec_not {a : Bool} (h1 : EvC K t ρ a) : EvC K (tNot t) ρ (!a) := fun σ H g Q q => h1 σ H g _ fun H1 e1 => q H1 e1
end
/-! // and % by a number that is known to be positive, of any kind -/
/-! ### defs by their names -/
structure Def (P : Program) (w : World) (K : Frag) (mg : Str → Option Value) (base : Heap) (k : Nat) (x : Str) (ps : List Str) (sp : Sp) : Prop where
  ex : ∃ (f : Addr) (fd : FuncData), FnOk P w K mg base CX0 k f fd ps sp ∧ mg x = some (.ref f) ∧ PySem.W.keepIn K (.ref f) = true ∧ Binds K fd ps []
section
variable {P : Program} {w : World} {K : Frag} {mg : Str → Option Value} {base : Heap}
theorem def_mk {k : Nat} {x : Str} {st : Stmt} {f : Addr} {fd : FuncData} {ps : List Str} {sp : Sp} (F : FnP K x st f fd) (g : mg x = some (.ref f)) (b : Binds K fd ps []) (h : FnOk P w K mg base CX0 k f fd ps sp) : Def P w K mg base k x ps sp := ⟨f, fd, h, g, F.kp, b⟩
end
theorem pe_callD {X : Cx} {k : Nat} {x : Str} {ps : List Str} {sp : Sp} {e : Expr} {es : List Expr} {p pos : Pos} {t : TA} (D : Def X.prog X.w X.K X.mg X.base k x ps sp) (hr : Room k X.A) (hg : Gl X x) (ha : PA X (e :: es) t) (hdb : (x == ("__debug__" : Str)) = false := by decide)
    (he : starEach (e :: es) X.env = (false, eval e X.env) :: starEach es X.env := by rfl) (hpl : (backTo pos (starEach es X.env)).any (·.1) = false := by rfl) : PE X (.Call (.Name x p) (e :: es) [] pos) (tCall sp [] E0 t) := by
  obtain ⟨f, fd, h, g, kp, b⟩ := D.ex
  exact pe_call h hr hg g kp b .nil pass0 ha hdb he hpl
end Pd
namespace Pd
open PySem L2 Evl
theorem sh_int {x : Int} : SeqAt.shaped (.int x) = true := rfl
theorem sh_bl {x : Bool} : SeqAt.shaped (.bool x) = true := rfl
theorem sh_non : SeqAt.shaped .none = true := rfl
section
variable {K : Frag} {ρ : Rho} {ta tb tc te : TE} {t u : TT} {d e : PyData}
theorem ed_eqI {i j : Int} (ha : EvD K ta ρ (.int i)) (hb : EvD K tb ρ (.int j)) : EvD K (tOp rEq ta tb) ρ (.bool (decide (i = j))) := ed_two ha hb fun H v w Q dv dw k => by
  cases dv
  cases dw
  refine ⟨rfl, ?_⟩
  rw [show decide (V.int i = V.int j) = decide (i = j) by simp]
  exact k _ H (Ex.refl H) (.bl _)
theorem ed_neI {i j : Int} (ha : EvD K ta ρ (.int i)) (hb : EvD K tb ρ (.int j)) : EvD K (tOp rNe ta tb) ρ (.bool (!decide (i = j))) := ed_two ha hb fun H v w Q dv dw k => by
  cases dv
  cases dw
  refine ⟨rfl, ?_⟩
  rw [show decide (V.int i = V.int j) = decide (i = j) by simp]
  exact k _ H (Ex.refl H) (.bl _)
theorem ed_eqS {i j : Str} (ha : EvD K ta ρ (.str i)) (hb : EvD K tb ρ (.str j)) : EvD K (tOp rEq ta tb) ρ (.bool (decide (i = j))) := ed_two ha hb fun H v w Q dv dw k => by
  cases dv
  cases dw
  refine ⟨rfl, ?_⟩
  rw [show decide (V.str i = V.str j) = decide (i = j) by simp]
  exact k _ H (Ex.refl H) (.bl _)
theorem ed_neS {i j : Str} (ha : EvD K ta ρ (.str i)) (hb : EvD K tb ρ (.str j)) : EvD K (tOp rNe ta tb) ρ (.bool (!decide (i = j))) := ed_two ha hb fun H v w Q dv dw k => by
  cases dv
  cases dw
  refine ⟨rfl, ?_⟩
  rw [show decide (V.str i = V.str j) = decide (i = j) by simp]
  exact k _ H (Ex.refl H) (.bl _)
theorem ed_eqB {i j : Bool} (ha : EvD K ta ρ (.bool i)) (hb : EvD K tb ρ (.bool j)) : EvD K (tOp rEq ta tb) ρ (.bool (decide (i = j))) := ed_two ha hb fun H v w Q dv dw k => by
  cases dv
  cases dw
  refine ⟨rfl, ?_⟩
  rw [show decide (V.bl i = V.bl j) = decide (i = j) by simp]
  exact k _ H (Ex.refl H) (.bl _)
theorem ed_neB {i j : Bool} (ha : EvD K ta ρ (.bool i)) (hb : EvD K tb ρ (.bool j)) : EvD K (tOp rNe ta tb) ρ (.bool (!decide (i = j))) := ed_two ha hb fun H v w Q dv dw k => by
  cases dv
  cases dw
  refine ⟨rfl, ?_⟩
  rw [show decide (V.bl i = V.bl j) = decide (i = j) by simp]
  exact k _ H (Ex.refl H) (.bl _)
/-- a statement's known end -/
theorem run_post {ts : TS} {N M : Rho → Prop} {R : PyData → Prop} (h : Run K ts ρ M R) (q : ∀ ρ', M ρ' → N ρ') : Run K ts ρ N R := fun D σ H g hN hR => h D σ H g (fun ρ' σ' H' m => hN ρ' σ' H' (q ρ' m)) hR
end
end Pd

/-! what the laws draw, as functions over ints and texts -/
namespace Pd
open PySem L2 Evl
/-- the cell of the script -/
def cell (ns : List Int) (k : Int) : Int := if k < (ns.length : Int) then ns.getD k.toNat 0 else 0
def rich (c k : Int) : Int :=
  if (10 : Int) ^ (18 : Int).toNat ≤ c then c else
    (c * 48271 + k * 69621 + 11) % 2147483647 * 2147483629 + ((c * 48271 + k * 69621 + 11) % 2147483647 * 16807 + c) % 2147483629
def sign (ch : Str) (r : Int) : Nat := ch.cps.toList.getD (r % (ch.length : Int)).toNat 0
/-- the word so far and the rest of the seed -/
def wst (ch : Str) (seed : Int) : Nat → Str × Int
  | 0 => ("", seed)
  | n + 1 => ((wst ch seed n).1 ++ ⟨#[sign ch (wst ch seed n).2]⟩, (wst ch seed n).2 / (ch.length : Int))
def word (n : Int) (ch : Str) (seed : Int) : Str := (wst ch seed n.toNat).1
theorem len_app (x y : Str) : (x ++ y).length = x.length + y.length := by
  show (x.cps ++ y.cps).size = _
  rw [Array.size_append]
  rfl
theorem wst_len (ch : Str) (seed : Int) : ∀ n, (wst ch seed n).1.length = n
  | 0 => rfl
  | n + 1 => by
    show ((wst ch seed n).1 ++ (⟨#[sign ch (wst ch seed n).2]⟩ : Str)).length = n + 1
    rw [len_app, wst_len ch seed n]
    rfl
def keys8 : List Str := ["a", "b", "c", "d", "k", "m", "kk", "z"]
def abc : Str := "abcdefghijklmnopqrstuvwxyz"
def keyF (r : Int) : Str := if r % 4 < 3 then keys8.getD (r / 4 % 8).toNat "" else word (1 + r / 4 % 8) abc (r / 32)
def boundF (r : Int) : Str := if r % 6 = 5 then "" else keyF (r / 6)
/-- None or a text, as data -/
def oD : Option Str → PyData
  | none => .none
  | some x => .str x
def rangeF (r : Int) : Str × Option Str :=
  if boundF r = boundF (r / 1000) ∨ r / 7 % 5 = 0 then (boundF r, none) else (sMin (boundF r) (boundF (r / 1000)), some (sMax (boundF r) (boundF (r / 1000))))
def belowF : Option Str → Option Str → Bool
  | none, _ => false
  | some _, none => true
  | some x, some y => sLt x y
/-! the order of texts -/
theorem sLt_irr (x : Str) : sLt x x = false := by
  unfold sLt
  exact decide_eq_false (List.lt_irrefl _)
theorem sLt_tr {x y z : Str} (h1 : sLt x y = true) (h2 : sLt y z = true) : sLt x z = true := by
  unfold sLt at *
  exact decide_eq_true (List.lt_trans (of_decide_eq_true h1) (of_decide_eq_true h2))
theorem str_eq {x y : Str} (h : x.cps.toList = y.cps.toList) : x = y := by
  cases x
  cases y
  exact congrArg _ (Array.toList_inj.mp h)
theorem sLt_tri (x y : Str) : sLt x y = true ∨ x = y ∨ sLt y x = true := by
  unfold sLt
  by_cases h1 : x.cps.toList < y.cps.toList
  · exact .inl (decide_eq_true h1)
  · by_cases h2 : y.cps.toList < x.cps.toList
    · exact .inr (.inr (decide_eq_true h2))
    · exact .inr (.inl (str_eq (List.le_antisymm (List.not_lt.mp h2) (List.not_lt.mp h1))))
theorem sLt_as {x y : Str} (h : sLt x y = true) : sLt y x = false := by
  cases e : sLt y x with
  | false => rfl
  | true =>
    have q := sLt_tr h e
    rw [sLt_irr] at q
    cases q
end Pd

namespace K02
open PySem L2 Evl Pd
def top (i : Nat) : Stmt := PySem.Challenge.pw_boundstone_k02_bounds_and_overlaps.main.body.getD i (.Pass ⟨0, 0, 0, 0⟩)
abbrev s_below : Stmt := top 1
abbrev s_contains : Stmt := top 2
abbrev s_overlap : Stmt := top 3
abbrev s__law_cell : Stmt := top 5
abbrev s__law_rich : Stmt := top 6
abbrev s__law_word : Stmt := top 7
abbrev s__law_key : Stmt := top 8
abbrev s__law_bound : Stmt := top 9
abbrev s__law_range : Stmt := top 10
abbrev s__law_below : Stmt := top 11
abbrev s__law_in : Stmt := top 12
abbrev s__law_same : Stmt := top 13
abbrev s_law : Stmt := top 14

inductive W_below : List PyData → PyData → Prop
  | mk {a b : Option Str} : W_below [oD a, oD b] (.bool (belowF a b))
inductive W_contains : List PyData → PyData → Prop
  | mk {lo bo : Str} {hi : Option Str} : W_contains [.str lo, oD hi, .str bo] (.bool (!sLt bo lo && belowF (some bo) hi))
inductive W_overlap : List PyData → PyData → Prop
  | mk {lo lo2 : Str} {hi hi2 : Option Str} : W_overlap [.str lo, oD hi, .str lo2, oD hi2] (.bool (belowF (some lo) hi2 && belowF (some lo2) hi))
inductive W__law_cell : List PyData → PyData → Prop
  | mk {ns : List Int} {k : Int} (h : 0 ≤ k) : W__law_cell [dScr ns, .int k] (.int (cell ns k))
inductive W__law_rich : List PyData → PyData → Prop
  | mk {c k : Int} : W__law_rich [.int c, .int k] (.int (rich c k))
inductive W__law_word : List PyData → PyData → Prop
  | mk {n : Int} {ch : Str} {seed : Int} (h : 0 ≤ n ∧ n ≤ 1000 ∧ 0 < ch.length ∧ ch.length ≤ 1000) : W__law_word [.int n, .str ch, .int seed] (.str (word n ch seed))
inductive W__law_key : List PyData → PyData → Prop
  | mk {r : Int} : W__law_key [.int r] (.str (keyF r))
inductive W__law_bound : List PyData → PyData → Prop
  | mk {r : Int} : W__law_bound [.int r] (.str (boundF r))
inductive W__law_range : List PyData → PyData → Prop
  | mk {r : Int} : W__law_range [.int r] (.tuple [.str (rangeF r).1, oD (rangeF r).2])
inductive W__law_below : List PyData → PyData → Prop
  | mk {a b : Option Str} : W__law_below [oD a, oD b] (.bool (belowF a b))
inductive W__law_in : List PyData → PyData → Prop
  | mk {lo bo : Str} {hi : Option Str} : W__law_in [.tuple [.str lo, oD hi], .str bo] (.bool (!sLt bo lo && belowF (some bo) hi))
inductive W__law_same : List PyData → PyData → Prop
  | mk {a b : Bool} : W__law_same [.bool a, .bool b] (.bool (a == b))
/-- the low bound is below the high one -/
def okR (q : Str × Option Str) : Prop := belowF (some q.1) q.2 = true
theorem ok_range (r : Int) : okR (rangeF r) := by
  unfold okR rangeF
  by_cases c : boundF r = boundF (r / 1000) ∨ r / 7 % 5 = 0
  · rw [if_pos c]
    rfl
  · rw [if_neg c]
    show sLt (sMin _ _) (sMax _ _) = true
    have ne : boundF r ≠ boundF (r / 1000) := fun q => c (.inl q)
    unfold sMin sMax
    rcases sLt_tri (boundF r) (boundF (r / 1000)) with h | h | h
    · rw [sLt_as h, h]
      exact h
    · exact absurd h ne
    · rw [sLt_as h, h]
      exact h
theorem below_tr {x y : Str} {h : Option Str} (a : sLt x y = true) (b : belowF (some y) h = true) : belowF (some x) h = true := by
  cases h with
  | none => rfl
  | some z => exact sLt_tr a b
theorem over_eq {lo l2 : Str} {hi1 h2 : Option Str} (v1 : okR (lo, hi1)) (v2 : okR (l2, h2)) :
    ((!sLt (sMax lo l2) lo && belowF (some (sMax lo l2)) hi1) && (!sLt (sMax lo l2) l2 && belowF (some (sMax lo l2)) h2)) = (belowF (some lo) h2 && belowF (some l2) hi1) := by
  have w1 : belowF (some lo) hi1 = true := v1
  have w2 : belowF (some l2) h2 = true := v2
  unfold sMax
  rcases sLt_tri lo l2 with h | h | h
  · rw [if_pos h, sLt_as h, sLt_irr, w2, below_tr h w2]
    simp
  · subst h
    rw [sLt_irr, if_neg Bool.false_ne_true, sLt_irr, w1, w2]
    rfl
  · rw [sLt_as h, if_neg Bool.false_ne_true, sLt_irr, sLt_as h, w1, below_tr h w1]
    simp
inductive W_law : List PyData → PyData → Prop
  | mk {ns : List Int} (h : ns.length ≤ 63) : W_law [dScr ns] (.bool true)
section
variable {P : Program} {w : World} {K : Frag} {mg : Str → Option Value} {base : Heap}
theorem sc_below : FnScope ["one", "other"] ["one", "other"] (defScope s_below) := ⟨rfl, rfl, rfl, by decide +kernel, rfl, by decide +kernel, by decide +kernel⟩
theorem ok_below {f : Addr} {fd : FuncData} (F : FnP K "below" s_below f fd) (g : mg "below" = some (.ref f))
     : Def P w K mg base 1 "below" ["one", "other"] (spD K W_below) := by
  refine def_mk F g (F.bindsN fun _ _ _ _ _ _ us hl => match us, hl with | [_, _], _ => rfl) (fn_data F sc_below ?_ ?_)
  · rintro _ _ ⟨⟩
    rfl
  · intro ds d W
    cases W
    rename_i a b
    intro cdv A outer s H E hr
    refine ⟨_, pss_cons (ps_if (pt_cmpR op_isNo (pv 0) pe_non (nomark _)) (pss_one (ps_ret pe_bl)) pss_nil)
      (pss_one (ps_ret (pe_or (pe_cmpR op_isNo (pv 1) pe_non (nomark _)) (pe_one (pe_cmpR op_ltS (pv 0) (pv 1) (nomark _)))))), ?_⟩
    refine run_ifs (ec_test (ed_isN (ed_var rfl))) (fun c => ?_) (fun c => ?_)
    · refine run_ret ed_bl ?_
      cases a with
      | none => rfl
      | some x => cases c
    · refine run_nexts ?_
      cases a with
      | none => cases c
      | some x =>
        cases b with
        | none => exact run_ret (ed_or (b := false) (ed_isN (ed_var rfl)) fun h => by cases h) rfl
        | some y => exact run_ret (ed_or (ed_isN (ed_var rfl)) fun _ => ed_ltS (ed_var rfl) (ed_var rfl)) rfl


theorem sc_contains : FnScope ["low", "high", "bound"] ["low", "high", "bound"] (defScope s_contains) := ⟨rfl, rfl, rfl, by decide +kernel, rfl, by decide +kernel, by decide +kernel⟩
theorem ok_contains {f : Addr} {fd : FuncData} (F : FnP K "contains" s_contains f fd) (g : mg "contains" = some (.ref f))
    (D_below : Def P w K mg base 1 "below" ["one", "other"] (spD K W_below)) : Def P w K mg base 2 "contains" ["low", "high", "bound"] (spD K W_contains) := by
  refine def_mk F g (F.bindsN fun _ _ _ _ _ _ us hl => match us, hl with | [_, _, _], _ => rfl) (fn_data F sc_contains ?_ ?_)
  · rintro _ _ ⟨⟩
    rfl
  · intro ds d W
    cases W
    rename_i lo bo hi
    intro cdv A outer s H E hr
    refine ⟨_, pss_one (ps_ret (pe_and (pe_cmpR op_leS (pv 0) (pv 2) (nomark _)) (pe_one (pe_callD D_below (hr.mono (by decide)) rfl (pa_cons (pv 2) (pa_cons (pv 1) pa_nil)))))), ?_⟩
    refine run_ret (ed_and (ed_leS (ed_var rfl) (ed_var rfl)) fun _ => (ed_call (es_cons (ed_var rfl) (es_cons (ed_var rfl) es_nil)) ((W_below.mk (a := some bo) (b := hi))))) ?_
    rfl

theorem sc_overlap : FnScope ["low", "high", "other_low", "other_high"] ["low", "high", "other_low", "other_high"] (defScope s_overlap) := ⟨rfl, rfl, rfl, by decide +kernel, rfl, by decide +kernel, by decide +kernel⟩
theorem ok_overlap {f : Addr} {fd : FuncData} (F : FnP K "overlap" s_overlap f fd) (g : mg "overlap" = some (.ref f))
    (D_below : Def P w K mg base 1 "below" ["one", "other"] (spD K W_below)) : Def P w K mg base 2 "overlap" ["low", "high", "other_low", "other_high"] (spD K W_overlap) := by
  refine def_mk F g (F.bindsN fun _ _ _ _ _ _ us hl => match us, hl with | [_, _, _, _], _ => rfl) (fn_data F sc_overlap ?_ ?_)
  · rintro _ _ ⟨⟩
    rfl
  · intro ds d W
    cases W
    rename_i lo lo2 hi hi2
    intro cdv A outer s H E hr
    refine ⟨_, pss_one (ps_ret (pe_and (pe_callD D_below (hr.mono (by decide)) rfl (pa_cons (pv 0) (pa_cons (pv 3) pa_nil))) (pe_one (pe_callD D_below (hr.mono (by decide)) rfl (pa_cons (pv 2) (pa_cons (pv 1) pa_nil)))))), ?_⟩
    refine run_ret (ed_and (ed_call (es_cons (ed_var rfl) (es_cons (ed_var rfl) es_nil)) ((W_below.mk (a := some lo) (b := hi2)))) fun _ => (ed_call (es_cons (ed_var rfl) (es_cons (ed_var rfl) es_nil)) ((W_below.mk (a := some lo2) (b := hi))))) ?_
    rfl

theorem sc__law_cell : FnScope ["script", "k"] ["script", "k"] (defScope s__law_cell) := ⟨rfl, rfl, rfl, by decide +kernel, rfl, by decide +kernel, by decide +kernel⟩
theorem ok__law_cell {f : Addr} {fd : FuncData} (F : FnP K "_law_cell" s__law_cell f fd) (g : mg "_law_cell" = some (.ref f))
    (z_len : mg "len" = none) (z_int : mg "int" = none) : Def P w K mg base 1 "_law_cell" ["script", "k"] (spD K W__law_cell) := by
  refine def_mk F g (F.bindsN fun _ _ _ _ _ _ us hl => match us, hl with | [_, _], _ => rfl) (fn_data F sc__law_cell ?_ ?_)
  · rintro _ _ ⟨⟩
    rfl
  · intro ds d W
    cases W
    rename_i ns k h
    intro cdv A outer s H E hr
    refine ⟨_, pss_cons (ps_if (pt_cmpR op_lt (pv 1) (pe_callB cr_len (by rfl) z_len (by decide +kernel) (pa_cons (pv 0) pa_nil)) (nomark _)) (pss_one (ps_ret (pe_callTy cr_int1 (by rfl) z_int (by decide +kernel) (pa_cons (pe_ix ix_list (pv 0) (pv 1) (fun _ _ => rfl)) pa_nil)))) pss_nil)
      (pss_one (ps_ret pe_int)), ?_⟩
    refine run_ifs (ec_test (ed_lt (ed_var rfl) (ed_lenL (es_cons (ed_var rfl) es_nil)))) (fun c => ?_) (fun c => ?_)
    · have c' : k < ((ns.map PyData.int).length : Int) := of_decide_eq_true c
      rw [List.length_map] at c'
      refine run_ret (ed_toint (es_cons (ed_ixL (x := .int (ns.getD k.toNat 0)) (ed_var rfl) (ed_var rfl) h ?_) es_nil)) ?_
      · rw [List.getElem?_map, List.getD_eq_getElem?_getD]
        have q : k.toNat < ns.length := by omega
        rw [List.getElem?_eq_getElem q]
        rfl
      · unfold cell
        rw [if_pos c']
    · have c' := of_decide_eq_false c
      rw [List.length_map] at c'
      refine run_nexts (run_ret ed_int ?_)
      unfold cell
      rw [if_neg c']


theorem sc__law_rich : FnScope ["cell", "k", "mixed"] ["cell", "k"] (defScope s__law_rich) := ⟨rfl, rfl, rfl, by decide +kernel, rfl, by decide +kernel, by decide +kernel⟩
theorem ok__law_rich {f : Addr} {fd : FuncData} (F : FnP K "_law_rich" s__law_rich f fd) (g : mg "_law_rich" = some (.ref f))
    (z_int : mg "int" = none) : Def P w K mg base 1 "_law_rich" ["cell", "k"] (spD K W__law_rich) := by
  refine def_mk F g (F.bindsN fun _ _ _ _ _ _ us hl => match us, hl with | [_, _], _ => rfl) (fn_data F sc__law_rich ?_ ?_)
  · rintro _ _ ⟨⟩
    rfl
  · intro ds d W
    cases W
    rename_i c k
    intro cdv A outer s H E hr
    refine ⟨_, pss_cons (ps_if (pt_cmpR op_ge (pv 0) (pe_op op_pow pe_int pe_int) (nomark _)) (pss_one (ps_ret (pe_callTy cr_int1 (by rfl) z_int (by decide +kernel) (pa_cons (pv 0) pa_nil)))) pss_nil)
      (pss_cons (ps_set (i := 2) sc__law_rich.nd rfl (Or.inl rfl) (pe_op op_mod (pe_callTy cr_int1 (by rfl) z_int (by decide +kernel) (pa_cons (pe_op op_add (pe_op op_add (pe_op op_mul (pv 0) pe_int) (pe_op op_mul (pv 1) pe_int)) pe_int) pa_nil)) pe_int))
      (pss_one (ps_ret (pe_op op_add (pe_op op_mul (pv 2) pe_int) (pe_op op_mod (pe_callTy cr_int1 (by rfl) z_int (by decide +kernel) (pa_cons (pe_op op_add (pe_op op_mul (pv 2) pe_int) (pv 0)) pa_nil)) pe_int))))), ?_⟩
    refine run_ifs (ec_test (ed_ge (ed_var rfl) (ed_pow ed_int ed_int ⟨by decide, by decide, by decide⟩))) (fun q => ?_) (fun q => ?_)
    · refine run_ret (ed_toint (es_cons (ed_var rfl) es_nil)) ?_
      unfold rich
      rw [if_pos (of_decide_eq_true q)]
    · refine run_nexts ?_
      refine run_set (ed_mod (ed_toint (es_cons (ed_add (ed_add (ed_mul (ed_var rfl) ed_int (.inr ⟨by decide, by decide⟩)) (ed_mul (ed_var rfl) ed_int (.inr ⟨by decide, by decide⟩))) ed_int) es_nil)) ed_int (by decide)) ?_
      refine run_ret (ed_add (ed_mul (ed_var rfl) ed_int (.inr ⟨by decide, by decide⟩)) (ed_mod (ed_toint (es_cons (ed_add (ed_mul (ed_var rfl) ed_int (.inr ⟨by decide, by decide⟩)) (ed_var rfl)) es_nil)) ed_int (by decide))) ?_
      unfold rich
      rw [if_neg (of_decide_eq_false q)]


theorem sc__law_word : FnScope ["size", "chars", "seed", "word", "rest", "k"] ["size", "chars", "seed"] (defScope s__law_word) := ⟨rfl, rfl, rfl, by decide +kernel, rfl, by decide +kernel, by decide +kernel⟩
theorem ok__law_word {f : Addr} {fd : FuncData} (F : FnP K "_law_word" s__law_word f fd) (g : mg "_law_word" = some (.ref f))
    (z_int : mg "int" = none) (z_range : mg "range" = none) (z_len : mg "len" = none) : Def P w K mg base 1 "_law_word" ["size", "chars", "seed"] (spD K W__law_word) := by
  refine def_mk F g (F.bindsN fun _ _ _ _ _ _ us hl => match us, hl with | [_, _, _], _ => rfl) (fn_data F sc__law_word ?_ ?_)
  · rintro _ _ ⟨⟩
    rfl
  · intro ds d W
    cases W
    rename_i n ch seed h
    intro cdv A outer s H E hr
    refine ⟨_, pss_cons (ps_set (i := 3) sc__law_word.nd rfl (Or.inl rfl) pe_str)
      (pss_cons (ps_set (i := 4) sc__law_word.nd rfl (Or.inl rfl) (pe_callTy cr_int1 (by rfl) z_int (by decide +kernel) (pa_cons (pv 2) pa_nil)))
      (pss_cons (ps_for PassesOwn.never rfl (pi_range1 rfl z_range (pa_cons (pv 0) pa_nil)) (pg_name (i := 5) sc__law_word.nd rfl (Or.inl rfl)) (pss_cons (ps_set (i := 3) sc__law_word.nd rfl (Or.inl rfl) (pe_op op_addS (pv 3) (pe_ix ix_str (pv 1) (pe_op op_mod (pe_callTy cr_int1 (by rfl) z_int (by decide +kernel) (pa_cons (pv 4) pa_nil)) (pe_callB cr_len (by rfl) z_len (by decide +kernel) (pa_cons (pv 1) pa_nil))) (fun _ _ => rfl))))
      (pss_one (ps_set (i := 4) sc__law_word.nd rfl (Or.inl rfl) (pe_op op_fdiv (pv 4) (pe_callB cr_len (by rfl) z_len (by decide +kernel) (pa_cons (pv 1) pa_nil)))))))
      (pss_one (ps_ret (pv 3))))), ?_⟩
    obtain ⟨h0, h1, h2, h3⟩ := h
    refine run_set ed_str ?_
    refine run_set (ed_toint (es_cons (ed_var rfl) es_nil)) ?_
    refine run_range (es_cons (ed_var rfl) es_nil) ⟨by omega, by omega⟩ (fun i ρ => ∃ kk : Option PyData, ρ = [some (.int n), some (.str ch), some (.int seed), some (.str (wst ch seed i).1), some (.int (wst ch seed i).2), kk]) ⟨_, rfl⟩ (fun i ρ hi hI => ?_) (fun ρ hI => ?_)
    · obtain ⟨kk, rfl⟩ := hI
      have hl : ch.length ≤ sizeLine := sz_of (by omega)
      have hj : 0 ≤ (wst ch seed i).2 % (ch.length : Int) := Int.emod_nonneg _ (by omega)
      have hj2 : (wst ch seed i).2 % (ch.length : Int) < (ch.length : Int) := Int.emod_lt_of_pos _ (by omega)
      refine run_set (ed_addS (ed_var rfl) (ed_ixS (c := sign ch (wst ch seed i).2) (ed_var rfl) (ed_mod (ed_toint (es_cons (ed_var rfl) es_nil)) (ed_lenS (es_cons (ed_var rfl) es_nil) hl) (by omega)) hl hj ?_) ?_) ?_
      · unfold sign
        have q : ((wst ch seed i).2 % (ch.length : Int)).toNat < ch.cps.toList.length := by
          have e : ch.cps.toList.length = ch.length := Array.length_toList
          omega
        rw [List.getElem?_eq_getElem q, List.getD_eq_getElem?_getD, List.getElem?_eq_getElem q]
        rfl
      · rw [wst_len]
        show i + 1 ≤ sizeLine
        exact sz_of (by omega)
      · exact run_asg (ed_div (ed_var rfl) (ed_lenS (es_cons (ed_var rfl) es_nil) hl) ⟨by omega, by omega⟩) ⟨_, rfl⟩
    · obtain ⟨kk, rfl⟩ := hI
      exact run_ret (ed_var rfl) rfl


theorem sc__law_key : FnScope ["rich"] ["rich"] (defScope s__law_key) := ⟨rfl, rfl, rfl, by decide +kernel, rfl, by decide +kernel, by decide +kernel⟩
theorem ok__law_key {f : Addr} {fd : FuncData} (F : FnP K "_law_key" s__law_key f fd) (g : mg "_law_key" = some (.ref f))
    (z_int : mg "int" = none) (D__law_word : Def P w K mg base 1 "_law_word" ["size", "chars", "seed"] (spD K W__law_word)) : Def P w K mg base 2 "_law_key" ["rich"] (spD K W__law_key) := by
  refine def_mk F g (F.bindsN fun _ _ _ _ _ _ us hl => match us, hl with | [_], _ => rfl) (fn_data F sc__law_key ?_ ?_)
  · rintro _ _ ⟨⟩
    rfl
  · intro ds d W
    cases W
    rename_i r
    intro cdv A outer s H E hr
    refine ⟨_, pss_cons (ps_if (pt_cmpR op_lt (pe_op op_mod (pe_callTy cr_int1 (by rfl) z_int (by decide +kernel) (pa_cons (pv 0) pa_nil)) pe_int) pe_int (nomark _)) (pss_one (ps_ret (pe_ix ix_list (pe_lst (pa_cons pe_str (pa_cons pe_str (pa_cons pe_str (pa_cons pe_str (pa_cons pe_str (pa_cons pe_str (pa_cons pe_str (pa_cons pe_str pa_nil))))))))) (pe_op op_mod (pe_op op_fdiv (pv 0) pe_int) pe_int) (fun _ _ => rfl)))) pss_nil)
      (pss_one (ps_ret (pe_callD D__law_word (hr.mono (by decide)) rfl (pa_cons (pe_op op_add pe_int (pe_op op_mod (pe_op op_fdiv (pv 0) pe_int) pe_int)) (pa_cons pe_str (pa_cons (pe_op op_fdiv (pv 0) pe_int) pa_nil)))))), ?_⟩
    refine run_ifs (ec_test (ed_lt (ed_mod (ed_toint (es_cons (ed_var rfl) es_nil)) ed_int (by decide)) ed_int)) (fun c => ?_) (fun c => ?_)
    · have b1 : 0 ≤ r / 4 % 8 := Int.emod_nonneg _ (by decide)
      have b2 : r / 4 % 8 < 8 := Int.emod_lt_of_pos _ (by decide)
      refine run_ret (ed_ixL (x := .str (keys8.getD (r / 4 % 8).toNat "")) (ed_lst (xs := keys8.map PyData.str) (es_cons ed_str (es_cons ed_str (es_cons ed_str (es_cons ed_str (es_cons ed_str (es_cons ed_str (es_cons ed_str (es_cons ed_str es_nil)))))))) (Nat.le_of_ble_eq_true rfl)) (ed_mod (ed_div (ed_var rfl) ed_int ⟨by decide, by decide⟩) ed_int (by decide)) b1 ?_) ?_
      · have q : (r / 4 % 8).toNat < keys8.length := by
          show (r / 4 % 8).toNat < 8
          omega
        rw [List.getElem?_map, List.getD_eq_getElem?_getD, List.getElem?_eq_getElem q]
        rfl
      · unfold keyF
        rw [if_pos (of_decide_eq_true c)]
    · have b1 : 0 ≤ r / 4 % 8 := Int.emod_nonneg _ (by decide)
      have b2 : r / 4 % 8 < 8 := Int.emod_lt_of_pos _ (by decide)
      refine run_nexts ?_
      refine run_ret (ed_call (es_cons (ed_add ed_int (ed_mod (ed_div (ed_var rfl) ed_int ⟨by decide, by decide⟩) ed_int (by decide))) (es_cons ed_str (es_cons (ed_div (ed_var rfl) ed_int ⟨by decide, by decide⟩) es_nil))) (W__law_word.mk (ch := abc) ⟨by omega, by omega, by decide, by decide⟩)) ?_
      unfold keyF
      rw [if_neg (of_decide_eq_false c)]


theorem sc__law_bound : FnScope ["rich"] ["rich"] (defScope s__law_bound) := ⟨rfl, rfl, rfl, by decide +kernel, rfl, by decide +kernel, by decide +kernel⟩
theorem ok__law_bound {f : Addr} {fd : FuncData} (F : FnP K "_law_bound" s__law_bound f fd) (g : mg "_law_bound" = some (.ref f))
    (z_int : mg "int" = none) (D__law_key : Def P w K mg base 2 "_law_key" ["rich"] (spD K W__law_key)) : Def P w K mg base 3 "_law_bound" ["rich"] (spD K W__law_bound) := by
  refine def_mk F g (F.bindsN fun _ _ _ _ _ _ us hl => match us, hl with | [_], _ => rfl) (fn_data F sc__law_bound ?_ ?_)
  · rintro _ _ ⟨⟩
    rfl
  · intro ds d W
    cases W
    rename_i r
    intro cdv A outer s H E hr
    refine ⟨_, pss_cons (ps_if (pt_cmpR op_eq (pe_op op_mod (pe_callTy cr_int1 (by rfl) z_int (by decide +kernel) (pa_cons (pv 0) pa_nil)) pe_int) pe_int (nomark _)) (pss_one (ps_ret pe_str)) pss_nil)
      (pss_one (ps_ret (pe_callD D__law_key (hr.mono (by decide)) rfl (pa_cons (pe_op op_fdiv (pv 0) pe_int) pa_nil)))), ?_⟩
    refine run_ifs (ec_test (ed_eqI (ed_mod (ed_toint (es_cons (ed_var rfl) es_nil)) ed_int (by decide)) ed_int)) (fun c => ?_) (fun c => ?_)
    · refine run_ret ed_str ?_
      unfold boundF
      rw [if_pos (of_decide_eq_true c)]
    · refine run_nexts ?_
      refine run_ret (ed_call (es_cons (ed_div (ed_var rfl) ed_int ⟨by decide, by decide⟩) es_nil) W__law_key.mk) ?_
      unfold boundF
      rw [if_neg (of_decide_eq_false c)]


theorem sc__law_range : FnScope ["rich", "one", "other"] ["rich"] (defScope s__law_range) := ⟨rfl, rfl, rfl, by decide +kernel, rfl, by decide +kernel, by decide +kernel⟩
theorem ok__law_range {f : Addr} {fd : FuncData} (F : FnP K "_law_range" s__law_range f fd) (g : mg "_law_range" = some (.ref f))
    (D__law_bound : Def P w K mg base 3 "_law_bound" ["rich"] (spD K W__law_bound)) (z_max : mg "max" = none) (z_min : mg "min" = none) : Def P w K mg base 4 "_law_range" ["rich"] (spD K W__law_range) := by
  refine def_mk F g (F.bindsN fun _ _ _ _ _ _ us hl => match us, hl with | [_], _ => rfl) (fn_data F sc__law_range ?_ ?_)
  · rintro _ _ ⟨⟩
    rfl
  · intro ds d W
    cases W
    rename_i r
    intro cdv A outer s H E hr
    refine ⟨_, pss_cons (ps_set (i := 1) sc__law_range.nd rfl (Or.inl rfl) (pe_callD D__law_bound (hr.mono (by decide)) rfl (pa_cons (pv 0) pa_nil)))
      (pss_cons (ps_set (i := 2) sc__law_range.nd rfl (Or.inl rfl) (pe_callD D__law_bound (hr.mono (by decide)) rfl (pa_cons (pe_op op_fdiv (pv 0) pe_int) pa_nil)))
      (pss_cons (ps_if (PW.pt (pw_or (pt_cmpR op_eq (pv 1) (pv 2) (nomark _)) (pw_or1 (pt_cmpR op_eq (pe_op op_mod (pe_op op_fdiv (pv 0) pe_int) pe_int) pe_int (nomark _))))) (pss_one (ps_ret (pe_tup (pa_cons (pv 1) (pa_cons pe_non pa_nil))))) pss_nil)
      (pss_one (ps_ret (pe_tup (pa_cons (pe_callB (cr_minS rfl) (by rfl) z_min (by decide +kernel) (pa_cons (pv 1) (pa_cons (pv 2) pa_nil))) (pa_cons (pe_callB (cr_maxS rfl) (by rfl) z_max (by decide +kernel) (pa_cons (pv 1) (pa_cons (pv 2) pa_nil))) pa_nil))))))), ?_⟩
    refine run_set (ed_call (es_cons (ed_var rfl) es_nil) (W__law_bound.mk)) ?_
    refine run_set (ed_call (es_cons (ed_div (ed_var rfl) ed_int ⟨by decide, by decide⟩) es_nil) (W__law_bound.mk)) ?_
    refine run_ifs (ec_or (ec_test (ed_eqS (ed_var rfl) (ed_var rfl))) fun _ => (ec_test (ed_eqI (ed_mod (ed_div (ed_var rfl) ed_int ⟨by decide, by decide⟩) ed_int (by decide)) ed_int))) (fun c => ?_) (fun c => ?_)
    · refine run_ret (ed_tup (es_cons (ed_var rfl) (es_cons ed_non es_nil)) (Nat.le_of_ble_eq_true rfl)) ?_
      unfold rangeF
      rw [if_pos]
      · rfl
      · rcases Bool.or_eq_true_iff.mp c with c | c
        · exact .inl (of_decide_eq_true c)
        · exact .inr (of_decide_eq_true c)
    · refine run_nexts ?_
      refine run_ret (ed_tup (es_cons (ed_minS (es_cons (ed_var rfl) (es_cons (ed_var rfl) es_nil))) (es_cons (ed_maxS (es_cons (ed_var rfl) (es_cons (ed_var rfl) es_nil))) es_nil)) (Nat.le_of_ble_eq_true rfl)) ?_
      unfold rangeF
      rw [if_neg]
      · rfl
      · obtain ⟨c1, c2⟩ := Bool.or_eq_false_iff.mp c
        rintro (q | q)
        · exact of_decide_eq_false c1 q
        · exact of_decide_eq_false c2 q


theorem sc__law_below : FnScope ["one", "other"] ["one", "other"] (defScope s__law_below) := ⟨rfl, rfl, rfl, by decide +kernel, rfl, by decide +kernel, by decide +kernel⟩
theorem ok__law_below {f : Addr} {fd : FuncData} (F : FnP K "_law_below" s__law_below f fd) (g : mg "_law_below" = some (.ref f))
     : Def P w K mg base 1 "_law_below" ["one", "other"] (spD K W__law_below) := by
  refine def_mk F g (F.bindsN fun _ _ _ _ _ _ us hl => match us, hl with | [_, _], _ => rfl) (fn_data F sc__law_below ?_ ?_)
  · rintro _ _ ⟨⟩
    rfl
  · intro ds d W
    cases W
    rename_i a b
    intro cdv A outer s H E hr
    refine ⟨_, pss_cons (ps_if (pt_cmpR op_isNo (pv 0) pe_non (nomark _)) (pss_one (ps_ret pe_bl)) pss_nil)
      (pss_one (ps_ret (pe_ifExp (pt_cmpR op_isNo (pv 1) pe_non (nomark _)) pe_bl (pe_cmpR op_ltS (pv 0) (pv 1) (nomark _))))), ?_⟩
    refine run_ifs (ec_test (ed_isN (ed_var rfl))) (fun c => ?_) (fun c => ?_)
    · refine run_ret ed_bl ?_
      cases a with
      | none => rfl
      | some x => cases c
    · refine run_nexts ?_
      cases a with
      | none => cases c
      | some x =>
        cases b with
        | none => exact run_ret (ed_if (ec_test (ed_isN (ed_var rfl))) (fun _ => ed_bl) (fun h => by cases h)) rfl
        | some y => exact run_ret (ed_if (ec_test (ed_isN (ed_var rfl))) (fun h => by cases h) (fun _ => ed_ltS (ed_var rfl) (ed_var rfl))) rfl


theorem sc__law_in : FnScope ["pair", "bound"] ["pair", "bound"] (defScope s__law_in) := ⟨rfl, rfl, rfl, by decide +kernel, rfl, by decide +kernel, by decide +kernel⟩
theorem ok__law_in {f : Addr} {fd : FuncData} (F : FnP K "_law_in" s__law_in f fd) (g : mg "_law_in" = some (.ref f))
     : Def P w K mg base 1 "_law_in" ["pair", "bound"] (spD K W__law_in) := by
  refine def_mk F g (F.bindsN fun _ _ _ _ _ _ us hl => match us, hl with | [_, _], _ => rfl) (fn_data F sc__law_in ?_ ?_)
  · rintro _ _ ⟨⟩
    rfl
  · intro ds d W
    cases W
    rename_i lo bo hi
    intro cdv A outer s H E hr
    refine ⟨_, pss_one (ps_ret (pe_and (pe_cmpR op_leS (pe_ix ix_tup (pv 0) pe_int (fun _ _ => rfl)) (pv 1) (nomark _)) (pe_one (pe_or (pe_cmpR op_isNo (pe_ix ix_tup (pv 0) pe_int (fun _ _ => rfl)) pe_non (nomark _)) (pe_one (pe_cmpR op_ltS (pv 1) (pe_ix ix_tup (pv 0) pe_int (fun _ _ => rfl)) (nomark _))))))), ?_⟩
    cases hi with
    | none => exact run_ret (ed_and (ed_leS (ed_ixT (ed_var rfl) ed_int (by decide) rfl) (ed_var rfl)) fun _ => (ed_or (b := false) (ed_isN (ed_ixT (ed_var rfl) ed_int (by decide) rfl)) fun h => by cases h)) rfl
    | some y => exact run_ret (ed_and (ed_leS (ed_ixT (ed_var rfl) ed_int (by decide) rfl) (ed_var rfl)) fun _ => (ed_or (ed_isN (ed_ixT (ed_var rfl) ed_int (by decide) rfl)) fun _ => (ed_ltS (ed_var rfl) (ed_ixT (ed_var rfl) ed_int (by decide) rfl)))) rfl


theorem sc__law_same : FnScope ["actual", "due"] ["actual", "due"] (defScope s__law_same) := ⟨rfl, rfl, rfl, by decide +kernel, rfl, by decide +kernel, by decide +kernel⟩
theorem ok__law_same {f : Addr} {fd : FuncData} (F : FnP K "_law_same" s__law_same f fd) (g : mg "_law_same" = some (.ref f))
    (z_isinstance : mg "isinstance" = none) (z_bool : mg "bool" = none) : Def P w K mg base 1 "_law_same" ["actual", "due"] (spD K W__law_same) := by
  refine def_mk F g (F.bindsN fun _ _ _ _ _ _ us hl => match us, hl with | [_, _], _ => rfl) (fn_data F sc__law_same ?_ ?_)
  · rintro _ _ ⟨⟩
    rfl
  · intro ds d W
    cases W
    rename_i a b
    intro cdv A outer s H E hr
    refine ⟨_, pss_one (ps_ret (pe_and (pe_callB call_isi (by rfl) z_isinstance (by decide +kernel) (pa_cons (pv 0) (pa_cons (pe_bltn (v := V.ty "bool") (by rfl) z_bool (by decide +kernel) rfl) pa_nil))) (pe_one (pe_cmpR op_eq (pv 0) (pv 1) (nomark _))))), ?_⟩
    refine run_ret (ed_and (ed_isi (b := true) (ed_var rfl) (show kitB "bool" "bool" = some true by decide +kernel)) fun _ => (ed_eqB (ed_var rfl) (ed_var rfl))) ?_
    rfl

theorem sc_law : FnScope ["script", "k", "rich", "one", "other", "bound", "most", "due"] ["script"] (defScope s_law) := ⟨rfl, rfl, rfl, by decide +kernel, rfl, by decide +kernel, by decide +kernel⟩
theorem ok_law {f : Addr} {fd : FuncData} (F : FnP K "law" s_law f fd)
    (z_range : mg "range" = none) (z_max : mg "max" = none) (z_min : mg "min" = none) (z_len : mg "len" = none) (D__law_rich : Def P w K mg base 1 "_law_rich" ["cell", "k"] (spD K W__law_rich)) (D__law_cell : Def P w K mg base 1 "_law_cell" ["script", "k"] (spD K W__law_cell)) (D__law_range : Def P w K mg base 4 "_law_range" ["rich"] (spD K W__law_range)) (D__law_bound : Def P w K mg base 3 "_law_bound" ["rich"] (spD K W__law_bound)) (D__law_same : Def P w K mg base 1 "_law_same" ["actual", "due"] (spD K W__law_same)) (D__law_below : Def P w K mg base 1 "_law_below" ["one", "other"] (spD K W__law_below)) (D_below : Def P w K mg base 1 "below" ["one", "other"] (spD K W_below)) (D__law_in : Def P w K mg base 1 "_law_in" ["pair", "bound"] (spD K W__law_in)) (D_contains : Def P w K mg base 2 "contains" ["low", "high", "bound"] (spD K W_contains)) (D_overlap : Def P w K mg base 2 "overlap" ["low", "high", "other_low", "other_high"] (spD K W_overlap)) : FnOk P w K mg base CX0 5 f fd ["script"] (spD K W_law) := by
  refine fn_data F sc_law ?_ ?_
  · rintro _ _ ⟨⟩
    rfl
  · intro ds d W
    cases W
    rename_i ns h
    intro cdv A outer s H E hr
    refine ⟨_, pss_cons (ps_for PassesOwn.never rfl (pi_range1 rfl z_range (pa_cons (pe_callB (cr_maxI rfl) (by rfl) z_max (by decide +kernel) (pa_cons pe_int (pa_cons (pe_callB (cr_minI rfl) (by rfl) z_min (by decide +kernel) (pa_cons pe_int (pa_cons (pe_callB cr_len (by rfl) z_len (by decide +kernel) (pa_cons (pv 0) pa_nil)) pa_nil))) pa_nil))) pa_nil)) (pg_name (i := 1) sc_law.nd rfl (Or.inl rfl)) (pss_cons (ps_set (i := 2) sc_law.nd rfl (Or.inl rfl) (pe_callD D__law_rich (hr.mono (by decide)) rfl (pa_cons (pe_callD D__law_cell (hr.mono (by decide)) rfl (pa_cons (pv 0) (pa_cons (pv 1) pa_nil))) (pa_cons (pv 1) pa_nil))))
      (pss_cons (ps_set (i := 3) sc_law.nd rfl (Or.inl rfl) (pe_callD D__law_range (hr.mono (by decide)) rfl (pa_cons (pv 2) pa_nil)))
      (pss_cons (ps_set (i := 4) sc_law.nd rfl (Or.inl rfl) (pe_callD D__law_range (hr.mono (by decide)) rfl (pa_cons (pe_op op_fdiv (pv 2) pe_int) pa_nil)))
      (pss_cons (ps_if (PW.pt (pw_and (pt_cmpR op_eq (pe_op op_mod (pv 2) pe_int) pe_int (nomark _)) (pw_and1 (pt_cmpR op_notNo (pe_ix ix_tup (pv 3) pe_int (fun _ _ => rfl)) pe_non (nomark _))))) (pss_one (ps_set (i := 4) sc_law.nd rfl (Or.inl rfl) (pe_tup (pa_cons (pe_ix ix_tup (pv 3) pe_int (fun _ _ => rfl)) (pa_cons pe_non pa_nil))))) pss_nil)
      (pss_cons (ps_set (i := 5) sc_law.nd rfl (Or.inl rfl) (pe_ix ix_list (pe_lst (pa_cons (pe_ix ix_tup (pv 3) pe_int (fun _ _ => rfl)) (pa_cons (pe_ix ix_tup (pv 4) pe_int (fun _ _ => rfl)) (pa_cons (pe_callD D__law_bound (hr.mono (by decide)) rfl (pa_cons (pe_op op_fdiv (pv 2) pe_int) pa_nil)) pa_nil)))) (pe_op op_mod (pv 2) pe_int) (fun _ _ => rfl)))
      (pss_cons (ps_if (pt_not (pt_val (pe_callD D__law_same (hr.mono (by decide)) rfl (pa_cons (pe_callD D_below (hr.mono (by decide)) rfl (pa_cons (pe_ix ix_tup (pv 3) pe_int (fun _ _ => rfl)) (pa_cons (pe_ix ix_tup (pv 4) pe_int (fun _ _ => rfl)) pa_nil))) (pa_cons (pe_callD D__law_below (hr.mono (by decide)) rfl (pa_cons (pe_ix ix_tup (pv 3) pe_int (fun _ _ => rfl)) (pa_cons (pe_ix ix_tup (pv 4) pe_int (fun _ _ => rfl)) pa_nil))) pa_nil))))) (pss_one (ps_ret pe_bl)) pss_nil)
      (pss_cons (ps_if (pt_not (pt_val (pe_callD D__law_same (hr.mono (by decide)) rfl (pa_cons (pe_callD D_below (hr.mono (by decide)) rfl (pa_cons (pe_ix ix_tup (pv 3) pe_int (fun _ _ => rfl)) (pa_cons (pe_ix ix_tup (pv 4) pe_int (fun _ _ => rfl)) pa_nil))) (pa_cons (pe_callD D__law_below (hr.mono (by decide)) rfl (pa_cons (pe_ix ix_tup (pv 3) pe_int (fun _ _ => rfl)) (pa_cons (pe_ix ix_tup (pv 4) pe_int (fun _ _ => rfl)) pa_nil))) pa_nil))))) (pss_one (ps_ret pe_bl)) pss_nil)
      (pss_cons (ps_if (pt_not (pt_val (pe_callD D__law_same (hr.mono (by decide)) rfl (pa_cons (pe_callD D_contains (hr.mono (by decide)) rfl (pa_cons (pe_ix ix_tup (pv 3) pe_int (fun _ _ => rfl)) (pa_cons (pe_ix ix_tup (pv 3) pe_int (fun _ _ => rfl)) (pa_cons (pv 5) pa_nil)))) (pa_cons (pe_callD D__law_in (hr.mono (by decide)) rfl (pa_cons (pv 3) (pa_cons (pv 5) pa_nil))) pa_nil))))) (pss_one (ps_ret pe_bl)) pss_nil)
      (pss_cons (ps_set (i := 6) sc_law.nd rfl (Or.inl rfl) (pe_callB (cr_maxS rfl) (by rfl) z_max (by decide +kernel) (pa_cons (pe_ix ix_tup (pv 3) pe_int (fun _ _ => rfl)) (pa_cons (pe_ix ix_tup (pv 4) pe_int (fun _ _ => rfl)) pa_nil))))
      (pss_cons (ps_set (i := 7) sc_law.nd rfl (Or.inl rfl) (pe_and (pe_callD D__law_in (hr.mono (by decide)) rfl (pa_cons (pv 3) (pa_cons (pv 6) pa_nil))) (pe_one (pe_callD D__law_in (hr.mono (by decide)) rfl (pa_cons (pv 4) (pa_cons (pv 6) pa_nil))))))
      (pss_cons (ps_if (pt_not (pt_val (pe_callD D__law_same (hr.mono (by decide)) rfl (pa_cons (pe_callD D_overlap (hr.mono (by decide)) rfl (pa_cons (pe_ix ix_tup (pv 3) pe_int (fun _ _ => rfl)) (pa_cons (pe_ix ix_tup (pv 3) pe_int (fun _ _ => rfl)) (pa_cons (pe_ix ix_tup (pv 4) pe_int (fun _ _ => rfl)) (pa_cons (pe_ix ix_tup (pv 4) pe_int (fun _ _ => rfl)) pa_nil))))) (pa_cons (pv 7) pa_nil))))) (pss_one (ps_ret pe_bl)) pss_nil)
      (pss_one (ps_if (pt_not (pt_val (pe_callD D__law_same (hr.mono (by decide)) rfl (pa_cons (pe_callD D_overlap (hr.mono (by decide)) rfl (pa_cons (pe_ix ix_tup (pv 4) pe_int (fun _ _ => rfl)) (pa_cons (pe_ix ix_tup (pv 4) pe_int (fun _ _ => rfl)) (pa_cons (pe_ix ix_tup (pv 3) pe_int (fun _ _ => rfl)) (pa_cons (pe_ix ix_tup (pv 3) pe_int (fun _ _ => rfl)) pa_nil))))) (pa_cons (pv 7) pa_nil))))) (pss_one (ps_ret pe_bl)) pss_nil))))))))))))))
      (pss_one (ps_ret pe_bl)), ?_⟩
    refine run_range (es_cons (ed_maxI (es_cons ed_int (es_cons (ed_minI (es_cons ed_int (es_cons (ed_lenL (es_cons (ed_var rfl) es_nil)) es_nil))) es_nil))) es_nil) ?_ (fun i ρ => ∃ a1 a2 a3 a4 a5 a6 a7, ρ = [some (dScr ns), a1, a2, a3, a4, a5, a6, a7]) ⟨_, _, _, _, _, _, _, rfl⟩ (fun i ρ hi hI => ?_) (fun ρ hI => ?_)
    · have e : (ns.map PyData.int).length = ns.length := List.length_map _
      rw [e]
      constructor
      · split <;> split <;> omega
      · split <;> split <;> omega
    · obtain ⟨a1, a2, a3, a4, a5, a6, a7, rfl⟩ := hI
      refine run_set (ed_call (es_cons (ed_call (es_cons (ed_var rfl) (es_cons (ed_var rfl) es_nil)) (W__law_cell.mk (Int.natCast_nonneg i))) (es_cons (ed_var rfl) es_nil)) W__law_rich.mk) ?_
      generalize hR : rich (cell ns (i : Int)) (i : Int) = R
      refine run_set (ed_call (es_cons (ed_var rfl) es_nil) W__law_range.mk) ?_
      refine run_set (ed_call (es_cons (ed_div (ed_var rfl) ed_int ⟨by decide, by decide⟩) es_nil) W__law_range.mk) ?_
      have v1 : okR (rangeF R) := ok_range R
      have v2 : okR (rangeF (R / 31)) := ok_range (R / 31)
      generalize rangeF R = q1 at v1 ⊢
      generalize rangeF (R / 31) = q2 at v2 ⊢
      obtain ⟨lo, hi1⟩ := q1
      obtain ⟨lo2, hi2⟩ := q2
      refine run_seq (M := fun ρ => ∃ (q : Str × Option Str), okR q ∧ ρ = [some (dScr ns), some (.int i), some (.int R), some (.tuple [.str lo, oD hi1]), some (.tuple [.str q.1, oD q.2]), a5, a6, a7]) (run_if (ec_and (ec_test (ed_eqI (ed_mod (ed_var rfl) ed_int (by decide)) ed_int)) fun _ => (ec_test (ed_notN (ed_ixT (ed_var rfl) ed_int (by decide) rfl)))) (fun c => ?_) (fun c => ?_)) (fun ρ hM => ?_)
      · cases hi1 with
        | none =>
          have c' : (decide (R % 9 = 0) && false) = true := c
          rw [Bool.and_false] at c'
          cases c'
        | some y => exact run_asg (ed_tup (es_cons (ed_ixT (ed_var rfl) ed_int (by decide) rfl) (es_cons ed_non es_nil)) (Nat.le_of_ble_eq_true rfl)) ⟨(y, none), rfl, rfl⟩
      · exact run_next ⟨(lo2, hi2), v2, rfl⟩
      obtain ⟨⟨l2, h2⟩, v2', rfl⟩ := hM
      have v1' : okR (lo, hi1) := v1
      have b1 : 0 ≤ R % 3 := Int.emod_nonneg _ (by decide)
      have b2 : R % 3 < 3 := Int.emod_lt_of_pos _ (by decide)
      refine run_set (ed_ixL (x := .str ([lo, l2, boundF (R / 77)].getD (R % 3).toNat "")) (ed_lst (xs := [lo, l2, boundF (R / 77)].map PyData.str) (es_cons (ed_ixT (ed_var rfl) ed_int (by decide) rfl) (es_cons (ed_ixT (ed_var rfl) ed_int (by decide) rfl) (es_cons (ed_call (es_cons (ed_div (ed_var rfl) ed_int ⟨by decide, by decide⟩) es_nil) W__law_bound.mk) es_nil))) (Nat.le_of_ble_eq_true rfl)) (ed_mod (ed_var rfl) ed_int (by decide)) b1 ?_) ?_
      · have q : (R % 3).toNat < [lo, l2, boundF (R / 77)].length := by
          show (R % 3).toNat < 3
          omega
        rw [List.getElem?_map, List.getD_eq_getElem?_getD, List.getElem?_eq_getElem q]
        rfl
      generalize [lo, l2, boundF (R / 77)].getD (R % 3).toNat "" = bd
      refine run_ifs (ec_not (ec_val (ed_call (es_cons (ed_call (es_cons (ed_ixT (ed_var rfl) ed_int (by decide) rfl) (es_cons (ed_ixT (ed_var rfl) ed_int (by decide) rfl) es_nil)) (W_below.mk (a := hi1) (b := some l2))) (es_cons (ed_call (es_cons (ed_ixT (ed_var rfl) ed_int (by decide) rfl) (es_cons (ed_ixT (ed_var rfl) ed_int (by decide) rfl) es_nil)) (W__law_below.mk (a := hi1) (b := some l2))) es_nil)) W__law_same.mk))) (fun c => ?_) (fun c => run_nexts ?_)
      · rw [beq_self_eq_true] at c
        cases c
      refine run_ifs (ec_not (ec_val (ed_call (es_cons (ed_call (es_cons (ed_ixT (ed_var rfl) ed_int (by decide) rfl) (es_cons (ed_ixT (ed_var rfl) ed_int (by decide) rfl) es_nil)) (W_below.mk (a := hi1) (b := h2))) (es_cons (ed_call (es_cons (ed_ixT (ed_var rfl) ed_int (by decide) rfl) (es_cons (ed_ixT (ed_var rfl) ed_int (by decide) rfl) es_nil)) (W__law_below.mk (a := hi1) (b := h2))) es_nil)) W__law_same.mk))) (fun c => ?_) (fun c => run_nexts ?_)
      · rw [beq_self_eq_true] at c
        cases c
      refine run_ifs (ec_not (ec_val (ed_call (es_cons (ed_call (es_cons (ed_ixT (ed_var rfl) ed_int (by decide) rfl) (es_cons (ed_ixT (ed_var rfl) ed_int (by decide) rfl) (es_cons (ed_var rfl) es_nil))) W_contains.mk) (es_cons (ed_call (es_cons (ed_var rfl) (es_cons (ed_var rfl) es_nil)) W__law_in.mk) es_nil)) W__law_same.mk))) (fun c => ?_) (fun c => run_nexts ?_)
      · rw [beq_self_eq_true] at c
        cases c
      refine run_set (ed_maxS (es_cons (ed_ixT (ed_var rfl) ed_int (by decide) rfl) (es_cons (ed_ixT (ed_var rfl) ed_int (by decide) rfl) es_nil))) ?_
      refine run_set (ed_and (ed_call (es_cons (ed_var rfl) (es_cons (ed_var rfl) es_nil)) W__law_in.mk) fun _ => (ed_call (es_cons (ed_var rfl) (es_cons (ed_var rfl) es_nil)) W__law_in.mk)) ?_
      rw [over_eq v1' v2']
      refine run_ifs (ec_not (ec_val (ed_call (es_cons (ed_call (es_cons (ed_ixT (ed_var rfl) ed_int (by decide) rfl) (es_cons (ed_ixT (ed_var rfl) ed_int (by decide) rfl) (es_cons (ed_ixT (ed_var rfl) ed_int (by decide) rfl) (es_cons (ed_ixT (ed_var rfl) ed_int (by decide) rfl) es_nil)))) W_overlap.mk) (es_cons (ed_var rfl) es_nil)) W__law_same.mk))) (fun c => ?_) (fun c => run_nexts ?_)
      · rw [beq_self_eq_true] at c
        cases c
      refine run_if (ec_not (ec_val (ed_call (es_cons (ed_call (es_cons (ed_ixT (ed_var rfl) ed_int (by decide) rfl) (es_cons (ed_ixT (ed_var rfl) ed_int (by decide) rfl) (es_cons (ed_ixT (ed_var rfl) ed_int (by decide) rfl) (es_cons (ed_ixT (ed_var rfl) ed_int (by decide) rfl) es_nil)))) W_overlap.mk) (es_cons (ed_var rfl) es_nil)) W__law_same.mk))) (fun c => ?_) (fun c => ?_)
      · rw [Bool.and_comm (belowF (some l2) hi1), beq_self_eq_true] at c
        cases c
      · exact run_next ⟨_, _, _, _, _, _, _, rfl⟩
    · obtain ⟨a1, a2, a3, a4, a5, a6, a7, rfl⟩ := hI
      exact run_ret ed_bl rfl
end
end K02

namespace K02
open PySem L2 Evl Pd
theorem law_end {K : Frag} {H : Hp} {a : Addr} {ns : List Int} (hl : ns.length ≤ 63) (h : SqL K H a (ns.map V.int)) : spD K W_law [.ref a] H (fun v _ => v = .bl true) (fun _ _ _ => False) :=
  ⟨[dScr ns], .bool true, .cons (.lst h (dps_ints ns)) .nil, .mk hl, fun v _ _ dv => by
    cases dv
    rfl⟩
/-! ### the head -/
def d_below : He.DefD := ⟨("below", none), "below", "below", defArgs s_below, defBody s_below, defScope s_below, [], []⟩
def d_contains : He.DefD := ⟨("contains", none), "contains", "contains", defArgs s_contains, defBody s_contains, defScope s_contains, [], []⟩
def d_overlap : He.DefD := ⟨("overlap", none), "overlap", "overlap", defArgs s_overlap, defBody s_overlap, defScope s_overlap, [], []⟩
def d__law_cell : He.DefD := ⟨("_law_cell", none), "_law_cell", "_law_cell", defArgs s__law_cell, defBody s__law_cell, defScope s__law_cell, [], []⟩
def d__law_rich : He.DefD := ⟨("_law_rich", none), "_law_rich", "_law_rich", defArgs s__law_rich, defBody s__law_rich, defScope s__law_rich, [], []⟩
def d__law_word : He.DefD := ⟨("_law_word", none), "_law_word", "_law_word", defArgs s__law_word, defBody s__law_word, defScope s__law_word, [], []⟩
def d__law_key : He.DefD := ⟨("_law_key", none), "_law_key", "_law_key", defArgs s__law_key, defBody s__law_key, defScope s__law_key, [], []⟩
def d__law_bound : He.DefD := ⟨("_law_bound", none), "_law_bound", "_law_bound", defArgs s__law_bound, defBody s__law_bound, defScope s__law_bound, [], []⟩
def d__law_range : He.DefD := ⟨("_law_range", none), "_law_range", "_law_range", defArgs s__law_range, defBody s__law_range, defScope s__law_range, [], []⟩
def d__law_below : He.DefD := ⟨("_law_below", none), "_law_below", "_law_below", defArgs s__law_below, defBody s__law_below, defScope s__law_below, [], []⟩
def d__law_in : He.DefD := ⟨("_law_in", none), "_law_in", "_law_in", defArgs s__law_in, defBody s__law_in, defScope s__law_in, [], []⟩
def d__law_same : He.DefD := ⟨("_law_same", none), "_law_same", "_law_same", defArgs s__law_same, defBody s__law_same, defScope s__law_same, [], []⟩
def d_law : He.DefD := ⟨("law", none), "law", "law", defArgs s_law, defBody s_law, defScope s_law, [], []⟩
def fn : List He.DefD := [d_below, d_contains, d_overlap, d__law_cell, d__law_rich, d__law_word, d__law_key, d__law_bound, d__law_range, d__law_below, d__law_in, d__law_same, d_law]
def fa : List He.Fa := [.glo "below", .glo "contains", .glo "overlap", .glo "_law_cell", .glo "_law_rich", .glo "_law_word", .glo "_law_key", .glo "_law_bound", .glo "_law_range", .glo "_law_below", .glo "_law_in", .glo "_law_same", .glo "law", .free "len", .free "int", .free "range", .free "max", .free "min", .free "isinstance", .free "bool"]
abbrev R : PySem.W.OpenRow := PySem.W.OpenLaw.row PySem.Challenge.rw_boundstone_k02_bounds_and_overlaps
abbrev hk : PySem.W.Hook := He.hookD 4 fa fn
def ob (s : PySem.W.SharedT) : He.AlD := He.obsDG 4 fa fn (HandSHeadRun.getT s)
theorem ob_eq (s : PySem.W.SharedT) : ob s = hk.obs s.abs := He.obsDG_eq (HandSHeadRun.getT_eq s)
def loose : List PySem.Str := ["below", "contains", "overlap", "_law_cell", "_law_rich", "_law_word", "_law_key", "_law_bound", "_law_range", "_law_below", "_law_in", "_law_same"]
theorem run (w : World) : HandSHeadRun.RunEq R (PySem.W.view R.prog [14]) hk ob 6000 loose w := by
  intro os
  kernel_rfl
theorem facts {P : Program} {w : World} {K : Frag} {h : Heap} {mg : Str → Option Value} {f : Addr} (X : K.In h) (G : h.Ns mainGlobals mg) (hfa : mg ("law" : Str) = some (.ref f)) (c : He.SaysD fa fn K) :
    ∃ fd : FuncData, (∀ (s : Shared) (v : Value), BindsTo s fd ⟨[v], []⟩ [("script", v)]) ∧ ∀ base : Heap, K.In base → base.Ns mainGlobals mg → FnOk P w K mg base CX0 5 f fd ["script"] (spD K W_law) := by
  obtain ⟨fd_below, F_below⟩ := c.def_ 0 (d := d_below) rfl
  obtain ⟨fd_contains, F_contains⟩ := c.def_ 1 (d := d_contains) rfl
  obtain ⟨fd_overlap, F_overlap⟩ := c.def_ 2 (d := d_overlap) rfl
  obtain ⟨fd__law_cell, F__law_cell⟩ := c.def_ 3 (d := d__law_cell) rfl
  obtain ⟨fd__law_rich, F__law_rich⟩ := c.def_ 4 (d := d__law_rich) rfl
  obtain ⟨fd__law_word, F__law_word⟩ := c.def_ 5 (d := d__law_word) rfl
  obtain ⟨fd__law_key, F__law_key⟩ := c.def_ 6 (d := d__law_key) rfl
  obtain ⟨fd__law_bound, F__law_bound⟩ := c.def_ 7 (d := d__law_bound) rfl
  obtain ⟨fd__law_range, F__law_range⟩ := c.def_ 8 (d := d__law_range) rfl
  obtain ⟨fd__law_below, F__law_below⟩ := c.def_ 9 (d := d__law_below) rfl
  obtain ⟨fd__law_in, F__law_in⟩ := c.def_ 10 (d := d__law_in) rfl
  obtain ⟨fd__law_same, F__law_same⟩ := c.def_ 11 (d := d__law_same) rfl
  obtain ⟨fd_law, F_law⟩ := c.def_ 12 (d := d_law) rfl
  have g_below := He.glo_ok X G (c.fact 0 (f := .glo "below") rfl)
  have g_contains := He.glo_ok X G (c.fact 1 (f := .glo "contains") rfl)
  have g_overlap := He.glo_ok X G (c.fact 2 (f := .glo "overlap") rfl)
  have g__law_cell := He.glo_ok X G (c.fact 3 (f := .glo "_law_cell") rfl)
  have g__law_rich := He.glo_ok X G (c.fact 4 (f := .glo "_law_rich") rfl)
  have g__law_word := He.glo_ok X G (c.fact 5 (f := .glo "_law_word") rfl)
  have g__law_key := He.glo_ok X G (c.fact 6 (f := .glo "_law_key") rfl)
  have g__law_bound := He.glo_ok X G (c.fact 7 (f := .glo "_law_bound") rfl)
  have g__law_range := He.glo_ok X G (c.fact 8 (f := .glo "_law_range") rfl)
  have g__law_below := He.glo_ok X G (c.fact 9 (f := .glo "_law_below") rfl)
  have g__law_in := He.glo_ok X G (c.fact 10 (f := .glo "_law_in") rfl)
  have g__law_same := He.glo_ok X G (c.fact 11 (f := .glo "_law_same") rfl)
  have g_law := He.glo_ok X G (c.fact 12 (f := .glo "law") rfl)
  have z_len := He.free_ok X G (c.fact 13 (f := .free "len") rfl)
  have z_int := He.free_ok X G (c.fact 14 (f := .free "int") rfl)
  have z_range := He.free_ok X G (c.fact 15 (f := .free "range") rfl)
  have z_max := He.free_ok X G (c.fact 16 (f := .free "max") rfl)
  have z_min := He.free_ok X G (c.fact 17 (f := .free "min") rfl)
  have z_isinstance := He.free_ok X G (c.fact 18 (f := .free "isinstance") rfl)
  have z_bool := He.free_ok X G (c.fact 19 (f := .free "bool") rfl)
  have e := hfa.symm.trans g_law
  cases e
  have b := L2.FunD.bindsA (ps := ["script"]) F_law fun _ _ _ _ _ _ us hl => match us, hl with | [_], _ => rfl
  refine ⟨fd_law, fun s v => b s [v] rfl, fun base _ _ => ?_⟩
  have D_below : Def P w K mg base _ _ _ _ := ok_below F_below g_below 
  have D_contains : Def P w K mg base _ _ _ _ := ok_contains F_contains g_contains D_below
  have D_overlap : Def P w K mg base _ _ _ _ := ok_overlap F_overlap g_overlap D_below
  have D__law_cell : Def P w K mg base _ _ _ _ := ok__law_cell F__law_cell g__law_cell z_len z_int
  have D__law_rich : Def P w K mg base _ _ _ _ := ok__law_rich F__law_rich g__law_rich z_int
  have D__law_word : Def P w K mg base _ _ _ _ := ok__law_word F__law_word g__law_word z_int z_range z_len
  have D__law_key : Def P w K mg base _ _ _ _ := ok__law_key F__law_key g__law_key z_int D__law_word
  have D__law_bound : Def P w K mg base _ _ _ _ := ok__law_bound F__law_bound g__law_bound z_int D__law_key
  have D__law_range : Def P w K mg base _ _ _ _ := ok__law_range F__law_range g__law_range D__law_bound z_max z_min
  have D__law_below : Def P w K mg base _ _ _ _ := ok__law_below F__law_below g__law_below 
  have D__law_in : Def P w K mg base _ _ _ _ := ok__law_in F__law_in g__law_in 
  have D__law_same : Def P w K mg base _ _ _ _ := ok__law_same F__law_same g__law_same z_isinstance z_bool
  exact ok_law F_law z_range z_max z_min z_len D__law_rich D__law_cell D__law_range D__law_bound D__law_same D__law_below D_below D__law_in D_contains D_overlap
end K02
open PySem PySem.W PySem.Calls PyProof.Rows
theorem PySem.Challenge.cw_boundstone_k02_bounds_and_overlaps_holds : PySem.Challenge.rw_boundstone_k02_bounds_and_overlaps.Holds := by
  w_on; o_law
  refine HandSHeadRun.head_any (r := OpenLaw.row PySem.Challenge.rw_boundstone_k02_bounds_and_overlaps) (q := view (OpenLaw.row PySem.Challenge.rw_boundstone_k02_bounds_and_overlaps).prog [14]) (H := K02.hk) (ob := K02.ob) (M := 6000) (loose := K02.loose) (d := HandSHeadRun.topDef (OpenLaw.row PySem.Challenge.rw_boundstone_k02_bounds_and_overlaps).prog 14) (kwd := []) K02.ob_eq
    (by kernel_rfl) (fun s => by kernel_rfl) K02.run (by kernel_rfl) (by kernel_rfl) (by kernel_rfl) (by rfl) (by first | assumption | decide +kernel) (by decide +kernel) ⟨rfl, rfl, rfl, rfl, rfl, by decide +kernel⟩ ?hw ?hc
  case hw => w_witness2
  case hc =>
    refine L2.walk_ofE (l := PySem.Challenge.rw_boundstone_k02_bounds_and_overlaps) (n := 63) (k := 5) (x := "script") (CX := L2.CX0) rfl (by decide) (by kernel_rfl) ⟨rfl, by decide, by decide⟩ ?F (fun _ _ _ _ z => z)
    intro w mg fa h Y G hmg0
    obtain ⟨K, KX, c⟩ := Y
    have hmg : mg ("law" : PySem.Str) = some (.ref fa) := by
      have e : (HandSHeadRun.topDef (OpenLaw.row PySem.Challenge.rw_boundstone_k02_bounds_and_overlaps).prog 14).name = ("law" : PySem.Str) := by kernel_rfl
      rw [← e]
      exact hmg0
    obtain ⟨fd, hb, hF⟩ := K02.facts (P := (PySem.Challenge.rw_boundstone_k02_bounds_and_overlaps).prog) (w := w) KX G hmg c
    exact ⟨K, fd, Pd.spD K K02.W_law, KX, hb, fun H a ns hl _ hS => K02.law_end hl hS, hF⟩


