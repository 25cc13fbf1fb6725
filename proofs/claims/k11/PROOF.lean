import PyProof.Rows.All
import Wide.All
import OpenK.AllK
import Wide.FinOn
import HandS.ForMost
import HandS.ForExc
import HandS.IsInst
import HandS.Evl
import HandS.Walk
import HandS.HeadHook2
import HandS.Head2
import HandS.HeadEnd
import HandS.HeadWalk
import HandS.Wide
import HandS.Deep
import HandS.HeadHook4
import HandS.CallLocal
import HandS.TupAny
import HandS.DeepEq
import HandS.WordsDict
import HandS.SortKw
import HandS.SortInts
import PyProof.Rows.SortShellAny
import HandS.DictComp
import HandS.Style
import HandS.ExcIs
import PySem.Challenge.RW_boundstone_k11_ways_of_letters
set_option Elab.async false
set_option linter.all false
set_option maxRecDepth 100000
set_option maxHeartbeats 8000000
/-! Pd: what pieces of pure programs give, told over data (PyData) in place of addresses. -/
namespace Pd
open PySem L2 Evl

abbrev Frag := PySem.W.Frag
/-- the known data of the slots -/
abbrev Rho := List (Option PyData)

mutual
theorem dpm {K : Frag} {H H' : Hp} (e : Ex H H') : ∀ {v : V} {d : PyData}, Dp K H v d → Dp K H' v d
  | _, _, .non => .non
  | _, _, .bl b => .bl b
  | _, _, .int i => .int i
  | _, _, .str x => .str x
  | _, _, .lst h hs => .lst (ex_l e h) (dpms e hs)
  | _, _, .tup h hs => .tup (ex_t e h) (dpms e hs)
theorem dpms {K : Frag} {H H' : Hp} (e : Ex H H') : ∀ {vs : List V} {ds : List PyData}, DpAll K H vs ds → DpAll K H' vs ds
  | _, _, .nil => .nil
  | _, _, .cons h hs => .cons (dpm e h) (dpms e hs)
end

theorem dps_len {K : Frag} {H : Hp} : ∀ {vs : List V} {ds : List PyData}, DpAll K H vs ds → vs.length = ds.length
  | _, _, .nil => rfl
  | _, _, .cons _ hs => congrArg Nat.succ (dps_len hs)
theorem dps_at {K : Frag} {H : Hp} : ∀ {vs : List V} {ds : List PyData} (i : Nat) {d : PyData}, DpAll K H vs ds → ds[i]? = some d → ∃ v, vs[i]? = some v ∧ Dp K H v d
  | _, _, i, d, .nil, e => by simp at e
  | _, _, 0, d, .cons h _, e => by
    cases e
    exact ⟨_, rfl, h⟩
  | _, _, i + 1, d, .cons _ hs, e => dps_at i hs e
theorem dps_to {K : Frag} {H : Hp} : ∀ {vs : List V} {ds : List PyData} (i : Nat) {v : V}, DpAll K H vs ds → vs[i]? = some v → ∃ d, ds[i]? = some d ∧ Dp K H v d
  | _, _, i, d, .nil, e => by simp at e
  | _, _, 0, d, .cons h _, e => by
    cases e
    exact ⟨_, rfl, h⟩
  | _, _, i + 1, d, .cons _ hs, e => dps_to i hs e
theorem dps_app {K : Frag} {H : Hp} : ∀ {vs ws : List V} {ds es : List PyData}, DpAll K H vs ds → DpAll K H ws es → DpAll K H (vs ++ ws) (ds ++ es)
  | _, _, _, _, .nil, g => g
  | _, _, _, _, .cons h hs, g => .cons h (dps_app hs g)
theorem dps_take {K : Frag} {H : Hp} : ∀ {vs : List V} {ds : List PyData} (n : Nat), DpAll K H vs ds → DpAll K H (vs.take n) (ds.take n)
  | _, _, 0, _ => .nil
  | _, _, _ + 1, .nil => .nil
  | _, _, n + 1, .cons h hs => .cons h (dps_take n hs)
theorem dps_drop {K : Frag} {H : Hp} : ∀ {vs : List V} {ds : List PyData} (n : Nat), DpAll K H vs ds → DpAll K H (vs.drop n) (ds.drop n)
  | _, _, 0, h => h
  | _, _, _ + 1, .nil => .nil
  | _, _, n + 1, .cons _ hs => dps_drop n hs
theorem dps_ints {K : Frag} {H : Hp} : ∀ (ns : List Int), DpAll K H (ns.map V.int) (ns.map PyData.int)
  | [] => .nil
  | n :: r => .cons (.int n) (dps_ints r)

/-- the slots hold the data -/
def Holds (K : Frag) (H : Hp) (σ : L2.St) (ρ : Rho) : Prop := σ.length = ρ.length ∧ ∀ (i : Nat) (d : PyData), ρ[i]? = some (some d) → ∃ v, σ[i]? = some (some v) ∧ Dp K H v d
theorem Holds.mono {K : Frag} {H H' : Hp} {σ : L2.St} {ρ : Rho} (e : Ex H H') (h : Holds K H σ ρ) : Holds K H' σ ρ :=
  ⟨h.1, fun i d q => (h.2 i d q).imp fun _ z => ⟨z.1, dpm e z.2⟩⟩
theorem Holds.put {K : Frag} {H : Hp} {σ : L2.St} {ρ : Rho} {v : V} {d : PyData} (i : Nat) (h : Holds K H σ ρ) (hv : Dp K H v d) : Holds K H (σ.set i (some v)) (ρ.set i (some d)) := by
  refine ⟨by rw [List.length_set, List.length_set, h.1], fun j e q => ?_⟩
  rw [List.getElem?_set] at q ⊢
  by_cases hij : i = j
  · subst hij
    rw [if_pos rfl] at q ⊢
    rw [h.1]
    by_cases hl : i < ρ.length
    · rw [if_pos hl] at q ⊢
      cases q
      exact ⟨v, rfl, hv⟩
    · rw [if_neg hl] at q
      cases q
  · rw [if_neg hij] at q ⊢
    exact h.2 j e q
theorem dps_start {K : Frag} {H : Hp} {N : List Str} {vs : List V} {ds : List PyData} (h : DpAll K H vs ds) : Holds K H (L2.start N vs) (ds.map some ++ List.replicate (N.length - ds.length) none) := by
  have hl := dps_len h
  refine ⟨by unfold L2.start; simp [hl], fun i d q => ?_⟩
  unfold L2.start
  by_cases hi : i < ds.length
  · rw [List.getElem?_append_left (by simpa using hi), List.getElem?_map] at q
    rw [List.getElem?_append_left (by simpa [hl] using hi), List.getElem?_map]
    cases e : ds[i]? with
    | none =>
      rw [e] at q
      cases q
    | some d' =>
      rw [e] at q
      cases q
      obtain ⟨v, e1, e2⟩ := dps_at i h e
      exact ⟨v, by rw [e1]; rfl, e2⟩
  · rw [List.getElem?_append_right (by simpa using hi)] at q
    rw [List.getElem?_replicate] at q
    split at q <;> cases q

/-! ### expressions -/
def EvD (K : Frag) (te : TE) (ρ : Rho) (d : PyData) : Prop := ∀ (σ : L2.St) (H : Hp), Holds K H σ ρ → ∀ Q : VK, (∀ v H2, Ex H H2 → Dp K H2 v d → Q v H2) → te σ H Q
def EvC (K : Frag) (t : TT) (ρ : Rho) (b : Bool) : Prop := ∀ (σ : L2.St) (H : Hp), Holds K H σ ρ → ∀ Q : Bool → Hp → Prop, (∀ H2, Ex H H2 → Q b H2) → t σ H Q
def EvS (K : Frag) (ta : TA) (ρ : Rho) (ds : List PyData) : Prop := ∀ (σ : L2.St) (H : Hp), Holds K H σ ρ → ∀ Q : List V → Hp → Prop, (∀ vs H2, Ex H H2 → DpAll K H2 vs ds → Q vs H2) → ta σ H Q

section
variable {K : Frag} {ρ : Rho} {ta tb tc te : TE} {t u : TT} {d e : PyData}
theorem EvD.is (h : EvD K te ρ d) (q : d = e) : EvD K te ρ e := q ▸ h
theorem EvC.is {a b : Bool} (h : EvC K t ρ a) (q : a = b) : EvC K t ρ b := q ▸ h
theorem ed_var {i : Nat} (h : ρ[i]? = some (some d)) : EvD K (tVar i) ρ d := fun σ H g Q q => by
  obtain ⟨v, e1, e2⟩ := g.2 i d h
  exact ⟨v, e1, q v H (Ex.refl H) e2⟩
theorem ed_int {i : Int} : EvD K (tC (.int i)) ρ (.int i) := fun _ H _ _ q => q _ H (Ex.refl H) (.int i)
theorem ed_str {x : Str} : EvD K (tC (.str x)) ρ (.str x) := fun _ H _ _ q => q _ H (Ex.refl H) (.str x)
theorem ed_bl {x : Bool} : EvD K (tC (.bl x)) ρ (.bool x) := fun _ H _ _ q => q _ H (Ex.refl H) (.bl x)
theorem ed_non : EvD K (tC .non) ρ .none := fun _ H _ _ q => q _ H (Ex.refl H) .non
/-- two operands, then the operation on their values -/
theorem ed_two {r : R2} {x y z : PyData} (ha : EvD K ta ρ x) (hb : EvD K tb ρ y)
    (hr : ∀ (H : Hp) (v w : V) (Q : VK), Dp K H v x → Dp K H w y → (∀ u H2, Ex H H2 → Dp K H2 u z → Q u H2) → r v w H Q) : EvD K (tOp r ta tb) ρ z := fun σ H g Q q =>
  ha σ H g _ fun v H1 e1 d1 => hb σ H1 (g.mono e1) _ fun w H2 e2 d2 => hr H2 v w Q (dpm e2 d1) d2 fun u H3 e3 d3 => q u H3 ((e1.trans e2).trans e3) d3
theorem ed_I0 {f : Int → Int → V} {z : PyData} {i j : Int} (ha : EvD K ta ρ (.int i)) (hb : EvD K tb ρ (.int j)) (hz : ∀ H, Dp K H (f i j) z) : EvD K (tOp (rI0 f) ta tb) ρ z :=
  ed_two ha hb fun H v w Q dv dw k => by
    cases dv
    cases dw
    exact ⟨i, j, rfl, rfl, k _ H (Ex.refl H) (hz H)⟩
theorem ed_I {C : Int → Int → Prop} {f : Int → Int → V} {z : PyData} {i j : Int} (ha : EvD K ta ρ (.int i)) (hb : EvD K tb ρ (.int j)) (hc : C i j) (hz : ∀ H, Dp K H (f i j) z) : EvD K (tOp (rI C f) ta tb) ρ z :=
  ed_two ha hb fun H v w Q dv dw k => by
    cases dv
    cases dw
    exact ⟨i, j, rfl, rfl, hc, k _ H (Ex.refl H) (hz H)⟩
theorem ed_add {i j : Int} (ha : EvD K ta ρ (.int i)) (hb : EvD K tb ρ (.int j)) : EvD K (tOp (rI0 fun i j => .int (i + j)) ta tb) ρ (.int (i + j)) := ed_I0 ha hb fun _ => .int _
theorem ed_sub {i j : Int} (ha : EvD K ta ρ (.int i)) (hb : EvD K tb ρ (.int j)) : EvD K (tOp (rI0 fun i j => .int (i - j)) ta tb) ρ (.int (i - j)) := ed_I0 ha hb fun _ => .int _
theorem ed_mul {i j : Int} (ha : EvD K ta ρ (.int i)) (hb : EvD K tb ρ (.int j)) (hc : CMul i j) : EvD K (tOp (rI CMul fun i j => .int (i * j)) ta tb) ρ (.int (i * j)) := ed_I ha hb hc fun _ => .int _
theorem ed_div {i j : Int} (ha : EvD K ta ρ (.int i)) (hb : EvD K tb ρ (.int j)) (hc : CDiv i j) : EvD K (tOp (rI CDiv fun i j => .int (i / j)) ta tb) ρ (.int (i / j)) := ed_I ha hb hc fun _ => .int _
theorem ed_mod {i j : Int} (ha : EvD K ta ρ (.int i)) (hb : EvD K tb ρ (.int j)) (hc : 0 < j) : EvD K (tOp (rI (fun _ j => 0 < j) fun i j => .int (i % j)) ta tb) ρ (.int (i % j)) := ed_I ha hb hc fun _ => .int _
theorem ed_pow {i j : Int} (ha : EvD K ta ρ (.int i)) (hb : EvD K tb ρ (.int j)) (hc : CPow i j) : EvD K (tOp (rI CPow fun i j => .int (i ^ j.toNat)) ta tb) ρ (.int (i ^ j.toNat)) := ed_I ha hb hc fun _ => .int _
theorem ed_lt {i j : Int} (ha : EvD K ta ρ (.int i)) (hb : EvD K tb ρ (.int j)) : EvD K (tOp (rI0 fun i j => .bl (decide (i < j))) ta tb) ρ (.bool (decide (i < j))) := ed_I0 ha hb fun _ => .bl _
theorem ed_le {i j : Int} (ha : EvD K ta ρ (.int i)) (hb : EvD K tb ρ (.int j)) : EvD K (tOp (rI0 fun i j => .bl (decide (i ≤ j))) ta tb) ρ (.bool (decide (i ≤ j))) := ed_I0 ha hb fun _ => .bl _
theorem ed_gt {i j : Int} (ha : EvD K ta ρ (.int i)) (hb : EvD K tb ρ (.int j)) : EvD K (tOp (rI0 fun i j => .bl (decide (j < i))) ta tb) ρ (.bool (decide (j < i))) := ed_I0 ha hb fun _ => .bl _
theorem ed_ge {i j : Int} (ha : EvD K ta ρ (.int i)) (hb : EvD K tb ρ (.int j)) : EvD K (tOp (rI0 fun i j => .bl (decide (j ≤ i))) ta tb) ρ (.bool (decide (j ≤ i))) := ed_I0 ha hb fun _ => .bl _
theorem ed_neg {i : Int} (ha : EvD K ta ρ (.int i)) : EvD K (tUn (rU fun i => .int (-i)) ta) ρ (.int (-i)) := fun σ H g Q q => ha σ H g _ fun v H1 e1 dv => by
  cases dv
  exact ⟨i, rfl, q _ H1 e1 (.int _)⟩
/-- == and != of data -/
theorem ed_eq {x y : PyData} (ha : EvD K ta ρ x) (hb : EvD K tb ρ y) (hx : SeqAt.shaped x = true) (hy : SeqAt.shaped y = true) : EvD K (tOp (rEqD K) ta tb) ρ (.bool (PyData.eqv x y)) :=
  ed_two ha hb fun H v w Q dv dw k => ⟨x, y, dv, dw, hx, hy, k _ H (Ex.refl H) (.bl _)⟩
theorem ed_ne {x y : PyData} (ha : EvD K ta ρ x) (hb : EvD K tb ρ y) (hx : SeqAt.shaped x = true) (hy : SeqAt.shaped y = true) : EvD K (tOp (rNeD K) ta tb) ρ (.bool (!PyData.eqv x y)) :=
  ed_two ha hb fun H v w Q dv dw k => ⟨x, y, dv, dw, hx, hy, k _ H (Ex.refl H) (.bl _)⟩
/-- texts -/
def sLt (x y : Str) : Bool := decide (x.cps.toList < y.cps.toList)
def rLtS : R2 := fun x y H Q => ∃ i j, x = .str i ∧ y = .str j ∧ Q (.bl (decide (i.cps.toList < j.cps.toList))) H
def rLeS : R2 := fun x y H Q => ∃ i j, x = .str i ∧ y = .str j ∧ Q (.bl (!decide (j.cps.toList < i.cps.toList))) H
def rGtS : R2 := fun x y H Q => ∃ i j, x = .str i ∧ y = .str j ∧ Q (.bl (decide (j.cps.toList < i.cps.toList))) H
def rGeS : R2 := fun x y H Q => ∃ i j, x = .str i ∧ y = .str j ∧ Q (.bl (!decide (i.cps.toList < j.cps.toList))) H
def rAddT : R2 := fun x y H Q => ∃ i j, x = .str i ∧ y = .str j ∧ i.length + j.length ≤ sizeLine ∧ Q (.str (i ++ j)) H
theorem op_ltS {X : Cx} : OpR X (compareOp .Lt) rLtS := op_lt_str
theorem op_leS {X : Cx} : OpR X (compareOp .LtE) rLeS := op_le_str
theorem op_gtS {X : Cx} : OpR X (compareOp .Gt) rGtS := op_gt_str
theorem op_geS {X : Cx} : OpR X (compareOp .GtE) rGeS := op_ge_str
theorem op_addS {X : Cx} : OpR X (binaryOp .Add) rAddT := op_add_str
theorem ed_ltS {i j : Str} (ha : EvD K ta ρ (.str i)) (hb : EvD K tb ρ (.str j)) : EvD K (tOp rLtS ta tb) ρ (.bool (sLt i j)) := ed_two ha hb fun H v w Q dv dw k => by
  cases dv
  cases dw
  exact ⟨i, j, rfl, rfl, k _ H (Ex.refl H) (.bl _)⟩
theorem ed_leS {i j : Str} (ha : EvD K ta ρ (.str i)) (hb : EvD K tb ρ (.str j)) : EvD K (tOp rLeS ta tb) ρ (.bool (!sLt j i)) := ed_two ha hb fun H v w Q dv dw k => by
  cases dv
  cases dw
  exact ⟨i, j, rfl, rfl, k _ H (Ex.refl H) (.bl _)⟩
theorem ed_gtS {i j : Str} (ha : EvD K ta ρ (.str i)) (hb : EvD K tb ρ (.str j)) : EvD K (tOp rGtS ta tb) ρ (.bool (sLt j i)) := ed_two ha hb fun H v w Q dv dw k => by
  cases dv
  cases dw
  exact ⟨i, j, rfl, rfl, k _ H (Ex.refl H) (.bl _)⟩
theorem ed_geS {i j : Str} (ha : EvD K ta ρ (.str i)) (hb : EvD K tb ρ (.str j)) : EvD K (tOp rGeS ta tb) ρ (.bool (!sLt i j)) := ed_two ha hb fun H v w Q dv dw k => by
  cases dv
  cases dw
  exact ⟨i, j, rfl, rfl, k _ H (Ex.refl H) (.bl _)⟩
theorem ed_addS {i j : Str} (ha : EvD K ta ρ (.str i)) (hb : EvD K tb ρ (.str j)) (hl : i.length + j.length ≤ sizeLine) : EvD K (tOp rAddT ta tb) ρ (.str (i ++ j)) := ed_two ha hb fun H v w Q dv dw k => by
  cases dv
  cases dw
  exact ⟨i, j, rfl, rfl, hl, k _ H (Ex.refl H) (.str _)⟩
/-- is None -/
def isNone : PyData → Bool
  | .none => true
  | _ => false
theorem isNone_dp {H : Hp} {v : V} (h : Dp K H v d) : decide (v = .non) = isNone d := by cases h <;> rfl
def rIsNo : R2 := fun x y H Q => y = .non ∧ Q (.bl (decide (x = .non))) H
def rNotNo : R2 := fun x y H Q => y = .non ∧ Q (.bl (!decide (x = .non))) H
theorem op_isNo {X : Cx} : OpR X (compareOp .Is) rIsNo := op_isN
theorem op_notNo {X : Cx} : OpR X (compareOp .IsNot) rNotNo := op_notN
theorem ed_isN {x : PyData} (ha : EvD K ta ρ x) : EvD K (tOp rIsNo ta (tC .non)) ρ (.bool (isNone x)) := ed_two ha ed_non fun H v w Q dv dw k => by
  cases dw
  exact ⟨rfl, by rw [isNone_dp dv]; exact k _ H (Ex.refl H) (.bl _)⟩
theorem ed_notN {x : PyData} (ha : EvD K ta ρ x) : EvD K (tOp rNotNo ta (tC .non)) ρ (.bool (!isNone x)) := ed_two ha ed_non fun H v w Q dv dw k => by
  cases dw
  exact ⟨rfl, by rw [isNone_dp dv]; exact k _ H (Ex.refl H) (.bl _)⟩
/-- and, or, not of bools -/
theorem ed_and {a b : Bool} (ha : EvD K ta ρ (.bool a)) (hb : a = true → EvD K tb ρ (.bool b)) : EvD K (tAndV ta tb) ρ (.bool (a && b)) := fun σ H g Q q => ha σ H g _ fun v H1 e1 dv => by
  cases dv
  cases a with
  | true => exact ⟨true, rfl, iteT (hb rfl σ H1 (g.mono e1) Q fun v H2 e2 d2 => q v H2 (e1.trans e2) d2)⟩
  | false => exact ⟨false, rfl, iteF (q _ H1 e1 (.bl _))⟩
theorem ed_or {a b : Bool} (ha : EvD K ta ρ (.bool a)) (hb : a = false → EvD K tb ρ (.bool b)) : EvD K (tOrV ta tb) ρ (.bool (a || b)) := fun σ H g Q q => ha σ H g _ fun v H1 e1 dv => by
  cases dv
  cases a with
  | true => exact ⟨true, rfl, iteT (q _ H1 e1 (.bl _))⟩
  | false => exact ⟨false, rfl, iteF (hb rfl σ H1 (g.mono e1) Q fun v H2 e2 d2 => q v H2 (e1.trans e2) d2)⟩
theorem ed_not {a : Bool} (ha : EvD K ta ρ (.bool a)) : EvD K (tNotV ta) ρ (.bool (!a)) := fun σ H g Q q => ha σ H g _ fun v H1 e1 dv => by
  cases dv
  exact ⟨a, rfl, q _ H1 e1 (.bl _)⟩
theorem ec_val {b : Bool} (h : EvD K ta ρ (.bool b)) : EvC K (tB ta) ρ b := fun σ H g Q q => h σ H g _ fun v H1 e1 dv => by
  cases dv
  exact ⟨b, rfl, q H1 e1⟩
theorem ed_if {b : Bool} {x : PyData} (hc : EvC K t ρ b) (h1 : b = true → EvD K ta ρ x) (h2 : b = false → EvD K tb ρ x) : EvD K (tIf t ta tb) ρ x := fun σ H g Q q => hc σ H g _ fun H1 e1 => by
  cases b with
  | true => exact iteT (h1 rfl σ H1 (g.mono e1) Q fun v H2 e2 d2 => q v H2 (e1.trans e2) d2)
  | false => exact iteF (h2 rfl σ H1 (g.mono e1) Q fun v H2 e2 d2 => q v H2 (e1.trans e2) d2)
/-- a < b < c, both answers bools -/
theorem ed_chain {r r' : R2} {x y z : PyData} {a b : Bool} (ha : EvD K ta ρ x) (hb : EvD K tb ρ y) (hc : EvD K tc ρ z)
    (hr : ∀ (H : Hp) (v w : V) (Q : VK), Dp K H v x → Dp K H w y → (Q (.bl a) H) → r v w H Q)
    (hr' : ∀ (H : Hp) (v w : V) (Q : VK), Dp K H v y → Dp K H w z → (Q (.bl b) H) → r' v w H Q) : EvD K (tChain r r' ta tb tc) ρ (.bool (a && b)) := fun σ H g Q q =>
  ha σ H g _ fun v H1 e1 d1 => hb σ H1 (g.mono e1) _ fun w H2 e2 d2 => hr H2 v w _ (dpm e2 d1) d2 ⟨a, rfl, by
    cases a with
    | true => exact iteT (hc σ H2 (g.mono (e1.trans e2)) _ fun u H3 e3 d3 => hr' H3 w u Q (dpm e3 d2) d3 (q _ H3 ((e1.trans e2).trans e3) (.bl _)))
    | false => exact iteF (q _ H2 (e1.trans e2) (.bl _))⟩
theorem ch_le {i j : Int} (H : Hp) (v w : V) (Q : VK) (dv : Dp K H v (.int i)) (dw : Dp K H w (.int j)) (q : Q (.bl (decide (i ≤ j))) H) : (rI0 fun i j => .bl (decide (i ≤ j))) v w H Q := by
  cases dv
  cases dw
  exact ⟨i, j, rfl, rfl, q⟩
theorem ch_leS {i j : Str} (H : Hp) (v w : V) (Q : VK) (dv : Dp K H v (.str i)) (dw : Dp K H w (.str j)) (q : Q (.bl (!sLt j i)) H) : rLeS v w H Q := by
  cases dv
  cases dw
  exact ⟨i, j, rfl, rfl, q⟩
/-! ### arguments, displays -/
theorem es_nil : EvS K tNil ρ [] := fun _ H _ _ q => q [] H (Ex.refl H) .nil
theorem es_cons {tr : TA} {x : PyData} {xs : List PyData} (h : EvD K ta ρ x) (hs : EvS K tr ρ xs) : EvS K (tCons ta tr) ρ (x :: xs) := fun σ H g Q q =>
  h σ H g _ fun v H1 e1 d1 => hs σ H1 (g.mono e1) _ fun vs H2 e2 d2 => q (v :: vs) H2 (e1.trans e2) (.cons (dpm e2 d1) d2)
theorem EvS.is {ta : TA} {xs ys : List PyData} (h : EvS K ta ρ xs) (q : xs = ys) : EvS K ta ρ ys := q ▸ h
theorem ed_tup {ta : TA} {xs : List PyData} (h : EvS K ta ρ xs) (hl : xs.length ≤ 100000) : EvD K (tTup ta) ρ (.tuple xs) := fun σ H g Q q =>
  h σ H g _ fun vs H1 e1 d1 => ⟨sz_of (by rw [dps_len d1]; exact hl), fun p hp => q _ _ (e1.trans (Ex.new hp)) (.tup (st_of upd_same) (dpms (Ex.new hp) d1))⟩
theorem ed_lst {ta : TA} {xs : List PyData} (h : EvS K ta ρ xs) (hl : xs.length ≤ 100000) : EvD K (tLst ta) ρ (.list xs) := fun σ H g Q q =>
  h σ H g _ fun vs H1 e1 d1 => ⟨sz_of (by rw [dps_len d1]; exact hl), fun p hp => q _ _ (e1.trans (Ex.new hp)) (.lst (sq_of upd_same) (dpms (Ex.new hp) d1))⟩
/-! ### subscripts -/
theorem ixN_of {n : Nat} {i : Int} {k : Nat} (h : i = (k : Int)) (hk : k < n) : ixN n i = some k := by
  unfold ixN
  rw [if_pos (by omega), if_pos (by omega), h]
  rfl
/-- the item at a place that is counted from 0 -/
theorem ed_ixT {xs : List PyData} {i : Int} {x : PyData} (ha : EvD K ta ρ (.tuple xs)) (hb : EvD K tb ρ (.int i)) (hi : 0 ≤ i) (hx : xs[i.toNat]? = some x) : EvD K (tOp (rIxT K) ta tb) ρ x := ed_two ha hb fun H v w Q dv dw k => by
  cases dw
  cases dv with
  | tup h hs =>
    obtain ⟨v, e1, e2⟩ := dps_at i.toNat hs hx
    exact ⟨_, _, i, v, rfl, rfl, h, at_of (by omega) e1, k v H (Ex.refl H) e2⟩
theorem ed_ixL {xs : List PyData} {i : Int} {x : PyData} (ha : EvD K ta ρ (.list xs)) (hb : EvD K tb ρ (.int i)) (hi : 0 ≤ i) (hx : xs[i.toNat]? = some x) : EvD K (tOp (rIxL K) ta tb) ρ x := ed_two ha hb fun H v w Q dv dw k => by
  cases dw
  cases dv with
  | lst h hs =>
    obtain ⟨v, e1, e2⟩ := dps_at i.toNat hs hx
    exact ⟨_, _, i, v, rfl, rfl, h, at_of (by omega) e1, k v H (Ex.refl H) e2⟩
theorem ed_ixS {z : Str} {i : Int} {c : Nat} (ha : EvD K ta ρ (.str z)) (hb : EvD K tb ρ (.int i)) (hl : z.length ≤ sizeLine) (hi : 0 ≤ i) (hx : z.cps.toList[i.toNat]? = some c) : EvD K (tOp rIxS ta tb) ρ (.str ⟨#[c]⟩) := ed_two ha hb fun H v w Q dv dw k => by
  cases dw
  cases dv
  have e : atI z.cps.toList i = some c := by
    have h1 := atI_nat hx
    rw [show ((i.toNat : Nat) : Int) = i by omega] at h1
    exact h1
  exact ⟨z, i, c, rfl, rfl, hl, e, k _ H (Ex.refl H) (.str _)⟩
/-! ### calls -/
/-- the promise of a pure def, told over data -/
def spD (K : Frag) (W : List PyData → PyData → Prop) : Sp := fun vs H Q _ => ∃ ds d, DpAll K H vs ds ∧ W ds d ∧ ∀ v H', Ex H H' → Dp K H' v d → Q v H'
theorem ed_call {W : List PyData → PyData → Prop} {E : XK} {ta : TA} {xs : List PyData} {x : PyData} (h : EvS K ta ρ xs) (hw : W xs x) : EvD K (tCall (spD K W) [] E ta) ρ x := fun σ H g Q q =>
  h σ H g _ fun vs H1 e1 d1 => by
    show spD K W (vs ++ []) H1 Q E
    rw [List.append_nil]
    exact ⟨xs, x, d1, hw, fun v H2 e2 d2 => q v H2 (e1.trans e2) d2⟩
theorem ed_cb {r : List V → Hp → VK → Prop} {ta : TA} {xs : List PyData} {x : PyData} (h : EvS K ta ρ xs) (hr : ∀ (H : Hp) (vs : List V) (Q : VK), DpAll K H vs xs → (∀ v H2, Ex H H2 → Dp K H2 v x → Q v H2) → r vs H Q) : EvD K (tCB r ta) ρ x := fun σ H g Q q =>
  h σ H g _ fun vs H1 e1 d1 => hr H1 vs Q d1 fun v H2 e2 d2 => q v H2 (e1.trans e2) d2
theorem dps1 {H : Hp} {vs : List V} {x : PyData} (h : DpAll K H vs [x]) : ∃ v, vs = [v] ∧ Dp K H v x := by
  cases h with
  | cons a b =>
    cases b
    exact ⟨_, rfl, a⟩
theorem dps2 {H : Hp} {vs : List V} {x y : PyData} (h : DpAll K H vs [x, y]) : ∃ v w, vs = [v, w] ∧ Dp K H v x ∧ Dp K H w y := by
  cases h with
  | cons a b =>
    obtain ⟨w, rfl, c⟩ := dps1 b
    exact ⟨_, w, rfl, a, c⟩
def rInt1 : List V → Hp → VK → Prop := fun xs H Q => (∃ i, xs = [.int i] ∧ Q (.int i) H) ∨ ∃ k, xs = [.bl k] ∧ Q (.int (if k then 1 else 0)) H
theorem cr_int1 {X : Cx} : CallR X (.type "int") rInt1 := call_int1
theorem ed_toint {ta : TA} {i : Int} (h : EvS K ta ρ [.int i]) : EvD K (tCB rInt1 ta) ρ (.int i) := ed_cb h fun H vs Q d1 k => by
  obtain ⟨v, rfl, dv⟩ := dps1 d1
  cases dv
  exact .inl ⟨i, rfl, k _ H (Ex.refl H) (.int i)⟩
/-- len -/
def rLenD (K : Frag) : List V → Hp → VK → Prop := fun xs H Q => ∃ x n, xs = [x] ∧ LenV K x H n ∧ Q (.int n) H
theorem cr_len {X : Cx} : CallR X (.builtin "len") (rLenD X.K) := call_len
theorem ed_lenT {ta : TA} {xs : List PyData} (h : EvS K ta ρ [.tuple xs]) : EvD K (tCB (rLenD K) ta) ρ (.int (xs.length : Int)) := ed_cb h fun H vs Q d1 k => by
  obtain ⟨v, rfl, dv⟩ := dps1 d1
  cases dv with
  | tup h hs => exact ⟨_, _, rfl, .inr ⟨_, h, (dps_len hs).symm⟩, k _ H (Ex.refl H) (.int _)⟩
theorem ed_lenL {ta : TA} {xs : List PyData} (h : EvS K ta ρ [.list xs]) : EvD K (tCB (rLenD K) ta) ρ (.int (xs.length : Int)) := ed_cb h fun H vs Q d1 k => by
  obtain ⟨v, rfl, dv⟩ := dps1 d1
  cases dv with
  | lst h hs => exact ⟨_, _, rfl, .inl ⟨_, h, (dps_len hs).symm⟩, k _ H (Ex.refl H) (.int _)⟩
theorem ed_lenS {ta : TA} {z : Str} (h : EvS K ta ρ [.str z]) (hl : z.length ≤ sizeLine) : EvD K (tCB (rLenD K) ta) ρ (.int (z.length : Int)) := ed_cb h fun H vs Q d1 k => by
  obtain ⟨v, rfl, dv⟩ := dps1 d1
  cases dv
  exact ⟨_, _, rfl, ⟨hl, rfl⟩, k _ H (Ex.refl H) (.int _)⟩
def rMaxI : List V → Hp → VK → Prop := fun xs H Q => ∃ i j, xs = [.int i, .int j] ∧ Q (.int (if j > i then j else i)) H
def rMinI : List V → Hp → VK → Prop := fun xs H Q => ∃ i j, xs = [.int i, .int j] ∧ Q (.int (if j < i then j else i)) H
theorem cr_maxI {X : Cx} (hc : X.calm = true) : CallR X (.builtin "max") rMaxI := call_max2 hc
theorem cr_minI {X : Cx} (hc : X.calm = true) : CallR X (.builtin "min") rMinI := call_min2 hc
theorem ed_maxI {ta : TA} {i j : Int} (h : EvS K ta ρ [.int i, .int j]) : EvD K (tCB rMaxI ta) ρ (.int (if j > i then j else i)) := ed_cb h fun H vs Q d1 k => by
  obtain ⟨v, w, rfl, dv, dw⟩ := dps2 d1
  cases dv
  cases dw
  exact ⟨i, j, rfl, k _ H (Ex.refl H) (.int _)⟩
theorem ed_minI {ta : TA} {i j : Int} (h : EvS K ta ρ [.int i, .int j]) : EvD K (tCB rMinI ta) ρ (.int (if j < i then j else i)) := ed_cb h fun H vs Q d1 k => by
  obtain ⟨v, w, rfl, dv, dw⟩ := dps2 d1
  cases dv
  cases dw
  exact ⟨i, j, rfl, k _ H (Ex.refl H) (.int _)⟩
/-! ### isinstance -/
def tyN : PyData → String
  | .none => "NoneType"
  | .bool _ => "bool"
  | .int _ => "int"
  | .str _ => "str"
  | .list _ => "list"
  | .tuple _ => "tuple"
  | .dict _ => "dict"
theorem tyx_of {H : Hp} {v : V} (h : Dp K H v d) : TyX K H v (.type (tyN d)) := by
  cases h with
  | non => exact .base .non
  | bl b => exact .base (.bl b)
  | int i => exact .base (.int i)
  | str x => exact .base (.str x)
  | lst h hs =>
    rcases h with (h | ⟨o, h⟩) | ⟨o, its, n, h, c, _⟩
    · exact .base (.lst h)
    · exact .base (.frz h)
    · exact .kList h c
  | tup h hs =>
    rcases h with (h | ⟨o, h⟩) | ⟨o, its, n, h, c, _⟩
    · exact .base (.tup h)
    · exact .fTuple h
    · exact .kTuple h c
/-- isinstance(x, T), T the built-in class named n: the second argument's reading is the class itself -/
theorem ed_isi {n : String} {x : PyData} {b : Bool} (h : EvD K ta ρ x) (hb : kitB (tyN x) n = some b) : EvD K (tCB (rIsi K) (tCons ta (tCons (tC (.ty n)) tNil))) ρ (.bool b) := fun σ H g Q q =>
  h σ H g _ fun v H1 e1 d1 => ⟨v, .ty n, _, _, b, rfl, .ty n, tyx_of d1, kit_ty hb, q _ H1 e1 (.bl b)⟩
end

/-! ### statements: N what is known where they end, R what they return -/
def Run (K : Frag) (ts : TS) (ρ : Rho) (N : Rho → Prop) (R : PyData → Prop) : Prop := ∀ (D : Ends) (σ : L2.St) (H : Hp), Holds K H σ ρ →
  (∀ ρ' σ' H', N ρ' → Ex H H' → Holds K H' σ' ρ' → D.nx σ' H') → (∀ d v H', R d → Ex H H' → Dp K H' v d → D.rt v H') → ts D σ H
section
variable {K : Frag} {ρ : Rho} {te : TE} {t : TT} {ta : TA} {t1 t2 tb : TS} {N M : Rho → Prop} {R : PyData → Prop} {d : PyData}
theorem run_seq (h1 : Run K t1 ρ M R) (h2 : ∀ ρ', M ρ' → Run K t2 ρ' N R) : Run K (tSeq t1 t2) ρ N R := fun D σ H g hN hR =>
  h1 { D with nx := t2 D } σ H g (fun ρ' σ' H' m e1 g1 => h2 ρ' m D σ' H' g1 (fun ρ2 σ2 H2 n e2 g2 => hN ρ2 σ2 H2 n (e1.trans e2) g2) fun d v H2 r e2 dv => hR d v H2 r (e1.trans e2) dv) hR
theorem run_next (h : N ρ) : Run K tNext ρ N R := fun D σ H g hN _ => hN ρ σ H h (Ex.refl H) g
theorem run_ret (h : EvD K te ρ d) (hr : R d) : Run K (tRet te) ρ N R := fun D σ H g _ hR => h σ H g _ fun v H1 e1 d1 => hR d v H1 hr e1 d1
theorem run_asg {i : Nat} (h : EvD K te ρ d) (hn : N (ρ.set i (some d))) : Run K (tAsg te (gName i)) ρ N R := fun D σ H g hN _ => h σ H g _ fun v H1 e1 d1 => hN _ _ H1 hn e1 ((g.mono e1).put i d1)
/-- x = e, and what follows -/
theorem run_set {i : Nat} (h : EvD K te ρ d) (k : Run K t2 (ρ.set i (some d)) N R) : Run K (tSeq (tAsg te (gName i)) t2) ρ N R := run_seq (M := fun ρ' => ρ' = ρ.set i (some d)) (run_asg h rfl) fun ρ' e => e ▸ k
theorem run_if {b : Bool} (h : EvC K t ρ b) (h1 : b = true → Run K t1 ρ N R) (h2 : b = false → Run K t2 ρ N R) : Run K (tIfS t t1 t2) ρ N R := fun D σ H g hN hR => h σ H g _ fun H1 e1 => by
  cases b with
  | true => exact iteT (h1 rfl D σ H1 (g.mono e1) (fun ρ' σ' H' n e2 g2 => hN ρ' σ' H' n (e1.trans e2) g2) fun d v H' r e2 dv => hR d v H' r (e1.trans e2) dv)
  | false => exact iteF (h2 rfl D σ H1 (g.mono e1) (fun ρ' σ' H' n e2 g2 => hN ρ' σ' H' n (e1.trans e2) g2) fun d v H' r e2 dv => hR d v H' r (e1.trans e2) dv)
/-- an if whose branches are followed by the same rest -/
theorem run_ifs {b : Bool} (h : EvC K t ρ b) (h1 : b = true → Run K (tSeq t1 tb) ρ N R) (h2 : b = false → Run K (tSeq t2 tb) ρ N R) : Run K (tSeq (tIfS t t1 t2) tb) ρ N R := fun D σ H g hN hR => h σ H g _ fun H1 e1 => by
  cases b with
  | true => exact iteT (h1 rfl D σ H1 (g.mono e1) (fun ρ' σ' H' n e2 g2 => hN ρ' σ' H' n (e1.trans e2) g2) fun d v H' r e2 dv => hR d v H' r (e1.trans e2) dv)
  | false => exact iteF (h2 rfl D σ H1 (g.mono e1) (fun ρ' σ' H' n e2 g2 => hN ρ' σ' H' n (e1.trans e2) g2) fun d v H' r e2 dv => hR d v H' r (e1.trans e2) dv)
theorem run_nexts (k : Run K t2 ρ N R) : Run K (tSeq tNext t2) ρ N R := fun D σ H g hN hR => k D σ H g hN hR
theorem run_retS (h : EvD K te ρ d) (hr : R d) : Run K (tSeq (tRet te) t2) ρ N R := fun D σ H g _ hR => h σ H g _ fun v H1 e1 d1 => hR d v H1 hr e1 d1
theorem run_assoc {t3 : TS} (h : Run K (tSeq t1 (tSeq t2 t3)) ρ N R) : Run K (tSeq (tSeq t1 t2) t3) ρ N R := h
/-- a, b = e -/
theorem run_pair {i j : Nat} {x y : PyData} (h : EvD K te ρ (.tuple [x, y])) (k : Run K t2 ((ρ.set i (some x)).set j (some y)) N R) :
    Run K (tSeq (tAsg te (gTup K 2 (gCons (gName i) (gCons (gName j) gNil)))) t2) ρ N R := fun D σ H g hN hR => h σ H g _ fun v H1 e1 d1 => by
  cases d1 with
  | tup hq hs =>
    obtain ⟨v, w, rfl, dv, dw⟩ := dps2 hs
    refine ⟨_, _, rfl, hq, rfl, v, [w], rfl, w, [], rfl, rfl, ?_⟩
    exact k D _ H1 (((g.mono e1).put i dv).put j dw) (fun ρ' σ' H' n e2 g2 => hN ρ' σ' H' n (e1.trans e2) g2) fun d v H' r e2 dv => hR d v H' r (e1.trans e2) dv
/-- a, b = e, f -/
theorem run_par {i j : Nat} {x y : PyData} (h : EvS K ta ρ [x, y]) (k : Run K t2 ((ρ.set i (some x)).set j (some y)) N R) : Run K (tSeq (tPar i j ta) t2) ρ N R := fun D σ H g hN hR => h σ H g _ fun vs H1 e1 d1 => by
  obtain ⟨v, w, rfl, dv, dw⟩ := dps2 d1
  exact ⟨v, w, rfl, k D _ H1 (((g.mono e1).put i dv).put j dw) (fun ρ' σ' H' n e2 g2 => hN ρ' σ' H' n (e1.trans e2) g2) fun d v H' r e2 dv => hR d v H' r (e1.trans e2) dv⟩
/-! loops: I the word, by the turn -/
theorem run_range {j : Nat} {n : Int} (h : EvS K ta ρ [.int n]) (hn : -(2 ^ 62) ≤ n ∧ n < 2 ^ 62) (I : Nat → Rho → Prop) (h0 : I 0 ρ)
    (hs : ∀ (i : Nat) ρ', (i : Int) < n → I i ρ' → Run K tb (ρ'.set j (some (.int (i : Int)))) (I (i + 1)) R) (hd : ∀ ρ', I n.toNat ρ' → Run K t2 ρ' N R) : Run K (tSeq (tFor (iRng1 ta) (gName j) tb) t2) ρ N R := fun D σ H g hN hR =>
  h σ H g _ fun vs H1 e1 d1 => by
    obtain ⟨v, rfl, dv⟩ := dps1 d1
    cases dv
    refine ⟨n, rfl, hn.1, hn.2, for_range (lo := 0) (n := n.toNat) (fun i σ' H' => ∃ ρ', I i ρ' ∧ Ex H H' ∧ Holds K H' σ' ρ') ⟨ρ, h0, e1, g.mono e1⟩ (fun i σ' H' hi w => ?_) fun σ' H' w => ?_⟩
    · obtain ⟨ρ', p, e2, g2⟩ := w
      have q := hs i ρ' (by omega) p
      show tb _ (σ'.set j (some (.int ((0 : Int) + (i : Int))))) H'
      rw [Int.zero_add]
      exact q _ _ H' (g2.put j (.int _)) (fun ρ3 σ3 H3 p3 e3 g3 => ⟨ρ3, p3, e2.trans e3, g3⟩) fun d v H3 r e3 dv => hR d v H3 r (e2.trans e3) dv
    · obtain ⟨ρ', p, e2, g2⟩ := w
      exact hd ρ' p D σ' H' g2 (fun ρ3 σ3 H3 p3 e3 g3 => hN ρ3 σ3 H3 p3 (e2.trans e3) g3) fun d v H3 r e3 dv => hR d v H3 r (e2.trans e3) dv
theorem run_forT {j : Nat} {xs : List PyData} (h : EvD K te ρ (.tuple xs)) (I : Nat → Rho → Prop) (h0 : I 0 ρ)
    (hs : ∀ (i : Nat) x ρ', xs[i]? = some x → I i ρ' → Run K tb (ρ'.set j (some x)) (I (i + 1)) R) (hd : ∀ ρ', I xs.length ρ' → Run K t2 ρ' N R) : Run K (tSeq (tFor (iTup K te) (gName j) tb) t2) ρ N R := fun D σ H g hN hR =>
  h σ H g _ fun v H1 e1 d1 => by
    cases d1 with
    | tup hq hds =>
      refine ⟨_, rfl, ⟨_, hq⟩, for_tup (K := K) (fun i σ' H' => ∃ ρ', I i ρ' ∧ Ex H1 H' ∧ Holds K H' σ' ρ') ⟨ρ, h0, Ex.refl _, g.mono e1⟩ (fun i σ' H' _ w => ex_t w.choose_spec.2.1 hq) (fun i v σ' H' hv w => ?_) fun σ' H' w => ?_⟩
      · obtain ⟨ρ', p, e2, g2⟩ := w
        obtain ⟨x, hx, dx⟩ := dps_to i hds hv
        exact hs i x ρ' hx p _ _ H' (g2.put j (dpm e2 dx)) (fun ρ3 σ3 H3 p3 e3 g3 => ⟨ρ3, p3, e2.trans e3, g3⟩) fun d v H3 r e3 dv => hR d v H3 r ((e1.trans e2).trans e3) dv
      · obtain ⟨ρ', p, e2, g2⟩ := w
        rw [dps_len hds] at p
        exact hd ρ' p D σ' H' g2 (fun ρ3 σ3 H3 p3 e3 g3 => hN ρ3 σ3 H3 p3 ((e1.trans e2).trans e3) g3) fun d v H3 r e3 dv => hR d v H3 r ((e1.trans e2).trans e3) dv
theorem run_forL {j : Nat} {xs : List PyData} (h : EvD K te ρ (.list xs)) (I : Nat → Rho → Prop) (h0 : I 0 ρ)
    (hs : ∀ (i : Nat) x ρ', xs[i]? = some x → I i ρ' → Run K tb (ρ'.set j (some x)) (I (i + 1)) R) (hd : ∀ ρ', I xs.length ρ' → Run K t2 ρ' N R) : Run K (tSeq (tFor (iList K te) (gName j) tb) t2) ρ N R := fun D σ H g hN hR =>
  h σ H g _ fun v H1 e1 d1 => by
    cases d1 with
    | lst hq hds =>
      refine ⟨_, rfl, ⟨_, hq⟩, for_list (K := K) (fun i σ' H' => ∃ ρ', I i ρ' ∧ Ex H1 H' ∧ Holds K H' σ' ρ') ⟨ρ, h0, Ex.refl _, g.mono e1⟩ (fun i σ' H' _ w => ex_l w.choose_spec.2.1 hq) (fun i v σ' H' hv w => ?_) fun σ' H' w => ?_⟩
      · obtain ⟨ρ', p, e2, g2⟩ := w
        obtain ⟨x, hx, dx⟩ := dps_to i hds hv
        exact hs i x ρ' hx p _ _ H' (g2.put j (dpm e2 dx)) (fun ρ3 σ3 H3 p3 e3 g3 => ⟨ρ3, p3, e2.trans e3, g3⟩) fun d v H3 r e3 dv => hR d v H3 r ((e1.trans e2).trans e3) dv
      · obtain ⟨ρ', p, e2, g2⟩ := w
        rw [dps_len hds] at p
        exact hd ρ' p D σ' H' g2 (fun ρ3 σ3 H3 p3 e3 g3 => hN ρ3 σ3 H3 p3 ((e1.trans e2).trans e3) g3) fun d v H3 r e3 dv => hR d v H3 r ((e1.trans e2).trans e3) dv
theorem run_forS {j : Nat} {z : Str} (h : EvD K te ρ (.str z)) (I : Nat → Rho → Prop) (h0 : I 0 ρ)
    (hs : ∀ (i : Nat) c ρ', z.cps.toList[i]? = some c → I i ρ' → Run K tb (ρ'.set j (some (.str ⟨#[c]⟩))) (I (i + 1)) R) (hd : ∀ ρ', I z.cps.toList.length ρ' → Run K t2 ρ' N R) : Run K (tSeq (tFor (iStr te) (gName j) tb) t2) ρ N R := fun D σ H g hN hR =>
  h σ H g _ fun v H1 e1 d1 => by
    cases d1
    refine ⟨z, rfl, for_it (walk_str (z := z)) (fun i σ' H' => ∃ ρ', I i ρ' ∧ Ex H H' ∧ Holds K H' σ' ρ') ⟨ρ, h0, e1, g.mono e1⟩ (fun _ _ _ _ _ => trivial) (fun i v σ' H' H2 hi w y => ?_) fun σ' H' w => ?_⟩
    · obtain ⟨ρ', p, e2, g2⟩ := w
      obtain ⟨rfl, c, hc, rfl⟩ := y
      exact hs i c ρ' (by rw [Array.getElem?_toList]; exact hc) p _ _ _ (g2.put j (.str _)) (fun ρ3 σ3 H3 p3 e3 g3 => ⟨ρ3, p3, e2.trans e3, g3⟩) fun d v H3 r e3 dv => hR d v H3 r (e2.trans e3) dv
    · obtain ⟨ρ', p, e2, g2⟩ := w
      exact hd ρ' (by rw [Array.length_toList]; exact p) D σ' H' g2 (fun ρ3 σ3 H3 p3 e3 g3 => hN ρ3 σ3 H3 p3 (e2.trans e3) g3) fun d v H3 r e3 dv => hR d v H3 r (e2.trans e3) dv
end

/-! ### a pure def keeps its promise -/
section
variable {P : Program} {w : World} {K : Frag} {mg : Str → Option Value} {base : Heap}
abbrev FnP (K : Frag) (x : Str) (st : Stmt) (f : Addr) (fd : FuncData) : Prop := L2.FunD K x x (defArgs st) (defBody st) (defScope st) [] [] f fd
def rho0 (n : Nat) (ds : List PyData) : Rho := ds.map some ++ List.replicate (n - ds.length) none
theorem fn_data {x : Str} {st : Stmt} {f : Addr} {fd : FuncData} {N ps : List Str} {k : Nat} {W : List PyData → PyData → Prop} (F : FnP K x st f fd) (S : FnScope N ps (defScope st)) (len : ∀ ds d, W ds d → ds.length = ps.length)
    (body : ∀ ds d, W ds d → ∀ (cdv : Value) (A : Around) (outer : List PySem.Env) (s : Shared) (H : Hp) (E : XK), Room k (A.deeper (PyProof.Rows.envOfC x (defScope st) s.heap.objs.size f cdv)) →
      ∃ t, PSs (cxOf CX0 P w K mg base N x (defScope st) f cdv A outer s H E).nox (defBody st) t ∧ Run K t (rho0 N.length ds) (fun _ => d = .none) (fun e => e = d)) : FnOk P w K mg base CX0 (k + 1) f fd ps (spD K W) := by
  refine L2.FunD.ok F S (fun vs H Q E h => ?_) (fun cdv A outer s H vs Q E hr h => ?_)
  · obtain ⟨ds, d, h1, h2, _⟩ := h
    rw [dps_len h1]
    exact len ds d h2
  · obtain ⟨ds, d, h1, h2, q⟩ := h
    obtain ⟨t, ht, hrun⟩ := body ds d h2 cdv A outer s H E hr
    refine ⟨t, PSs.nox ht, hrun _ _ H (dps_start h1) (fun ρ' σ' H' e e1 _ => ?_) fun e v H' q1 e1 dv => ?_⟩
    · subst e
      exact q .non H' e1 .non
    · subst q1
      exact q v H' e1 dv
/-- the script as data -/
def dScr (ns : List Int) : PyData := .list (ns.map PyData.int)
def WLaw : List PyData → PyData → Prop := fun ds d => ∃ ns : List Int, ds = [dScr ns] ∧ ns.length ≤ 63 ∧ d = .bool true
theorem law_end {H : Hp} {a : Addr} {ns : List Int} (hl : ns.length ≤ 63) (h : SqL K H a (ns.map V.int)) : spD K WLaw [.ref a] H (fun v _ => v = .bl true) (fun _ _ _ => False) :=
  ⟨[dScr ns], .bool true, .cons (.lst h (dps_ints ns)) .nil, ⟨ns, rfl, hl, rfl⟩, fun v _ _ dv => by
    cases dv
    rfl⟩
end
end Pd

namespace Pd
open PySem L2 Evl
theorem cmpS_gt {P : Program} {w : World} {A : Around} {B : Nat → Value → Prop} (z : Nat → Str) (hz : ∀ i v, B i v → ∃ t, v = .str (z i) t) : CmpOf P w A .Gt B (fun i j => decide ((z j).cps.toList < (z i).cps.toList)) := by
  intro i j vi vj s Q E bi bj h
  obtain ⟨t, rfl⟩ := hz i vi bi
  obtain ⟨u, rfl⟩ := hz j vj bj
  refine richCompare_gives (op := .Gt) (typeIs_str s _ t) (typeIs_str s _ u) F.slot_str_gt F.entry_str_gt ?_ (gives_str_gt _ _ t u) (fun q => nomatch q) h
  exact F.args_str_gt_2 _ _
theorem cmpS_lt {P : Program} {w : World} {A : Around} {B : Nat → Value → Prop} (z : Nat → Str) (hz : ∀ i v, B i v → ∃ t, v = .str (z i) t) : CmpOf P w A .Lt B (fun i j => decide ((z i).cps.toList < (z j).cps.toList)) := by
  intro i j vi vj s Q E bi bj h
  obtain ⟨t, rfl⟩ := hz i vi bi
  obtain ⟨u, rfl⟩ := hz j vj bj
  refine richCompare_gives (op := .Lt) (typeIs_str s _ t) (typeIs_str s _ u) F.slot_str_lt F.entry_str_lt ?_ (gives_str_lt _ _ t u) (fun q => nomatch q) h
  exact F.args_str_lt_2 _ _
section
variable {prog : Program} {w : World} {A : Around} {E : Value → Shared → Prop} {s : Shared}
/-- the walk over the pair that max, min lay down -/
theorem pair_walk {op : CmpOp} {a b : Value} {bt : Nat → Nat → Bool} {Q : Value → Shared → Prop} (hh : A.handled = none) (hc : CmpOf prog w A.in1 op (fun i v => (#[a, b] : Array Value)[i]? = some v) bt)
    (h : ∀ h' tk, (∀ c o, s.heap.get? c = some o → h'.get? c = some o) → Q (if bt 1 0 = true then b else a) { s with heap := h', toks := tk }) :
    wpAny (model prog w) A.in1 (pyIter (.ref s.heap.objs.size)) (fun it s₂ => ∃ I fp wr n P St bt, it = .ref I ∧ Walks prog w A.in1 I fp wr n P St ∧ St 0 s₂.heap ∧ (∀ b ∈ fp, b < s₂.heap.objs.size) ∧ 0 < n ∧ CmpOf prog w A.in1 op P bt ∧
      ∀ v h' tk, P (argBest bt (n - 1)) v → (∀ b o, b ∉ wr → s₂.heap.get? b = some o → h'.get? b = some o) → Q v { s₂ with heap := h', toks := tk }) E
      { s with heap := s.heap.push { cls := .type "tuple", data := .seq #[a, b] } } := by
  have new : (s.heap.push { cls := .type "tuple", data := .seq #[a, b] }).IsTuple s.heap.objs.size #[a, b] := ⟨_, Heap.get?_push_size _ rfl, rfl, 0, rfl⟩
  have sz : (s.heap.push { cls := .type "tuple", data := .seq #[a, b] }).objs.size = s.heap.objs.size + 1 := Heap.size_push ..
  refine wpAny_pyIter_tuple new ?_
  refine ⟨_, [_, s.heap.objs.size], [_], 2, _, _, bt, rfl, Walks.tuple (A := A.in1) hh _ s.heap.objs.size (fun z => Nat.succ_ne_self _ (sz.symm.trans z.symm)) #[a, b], ?_, ?_, by decide, hc, ?_⟩
  · exact ⟨⟨_, Heap.get?_push_size _ rfl, rfl, rfl⟩, new.push _⟩
  · intro c hm
    show c < ((s.heap.push _).push _).objs.size
    rw [Heap.size_push, sz]
    simp only [List.mem_cons, List.not_mem_nil, or_false] at hm
    rcases hm with rfl | rfl
    · rw [sz]
      exact Nat.lt_succ_self _
    · exact Nat.lt_succ_of_lt (Nat.lt_succ_self _)
  · intro v h' tk hP hk
    have old : ∀ c o, s.heap.get? c = some o → h'.get? c = some o := by
      intro c o e
      refine hk c o ?_ (Heap.get?_push_of_some _ (Heap.get?_push_of_some _ e))
      intro hm
      simp only [List.mem_cons, List.not_mem_nil, or_false] at hm
      have l := Heap.lt_size e
      rw [hm, sz] at l
      exact Nat.lt_irrefl _ (Nat.lt_of_succ_lt l)
    have q := h h' tk old
    have hv : v = if bt 1 0 = true then b else a := by
      have hb : argBest bt (2 - 1) = if bt 1 0 = true then 1 else 0 := by simp [argBest]
      rw [hb] at hP
      by_cases c : bt 1 0 = true
      · rw [if_pos c] at hP ⊢
        simpa using hP.symm
      · rw [if_neg c] at hP ⊢
        simpa using hP.symm
    rw [hv]
    exact q
theorem sAt {x y : Str} {t u : Tok} (i : Nat) (v : Value) (h : (#[Value.str x t, Value.str y u] : Array Value)[i]? = some v) : ∃ t', v = .str (if i = 0 then x else y) t' := by
  match i, h with
  | 0, h => exact ⟨t, by simpa using h.symm⟩
  | 1, h => exact ⟨u, by simpa using h.symm⟩
  | n + 2, h => simp at h
end
def sMax (x y : Str) : Str := if sLt x y = true then y else x
def sMin (x y : Str) : Str := if sLt y x = true then y else x
def rMaxS : List V → Hp → VK → Prop := fun xs H Q => ∃ x y, xs = [.str x, .str y] ∧ Q (.str (sMax x y)) H
def rMinS : List V → Hp → VK → Prop := fun xs H Q => ∃ x y, xs = [.str x, .str y] ∧ Q (.str (sMin x y)) H
theorem cr_maxS {X : Cx} (hc : X.calm = true) : CallR X (.builtin "max") rMaxS := by
  intro pins s σ H xs us Q I r h
  obtain ⟨x, y, rfl, q⟩ := h
  obtain ⟨u1, u2, rfl, ⟨t, rfl⟩, ⟨t', rfl⟩⟩ := vals2 r
  refine call_max_two (pair_walk (I.ok.hd hc) (cmpS_gt (fun i => if i = 0 then x else y) (fun i v => sAt i v)) fun h' tk k => ⟨_, H, I.kept k, ?_, q⟩)
  unfold sMax sLt
  by_cases c : x.cps.toList < y.cps.toList
  · simp [c]
    exact ⟨_, rfl⟩
  · simp [c]
    exact ⟨_, rfl⟩
theorem cr_minS {X : Cx} (hc : X.calm = true) : CallR X (.builtin "min") rMinS := by
  intro pins s σ H xs us Q I r h
  obtain ⟨x, y, rfl, q⟩ := h
  obtain ⟨u1, u2, rfl, ⟨t, rfl⟩, ⟨t', rfl⟩⟩ := vals2 r
  refine call_min_two (pair_walk (I.ok.hd hc) (cmpS_lt (fun i => if i = 0 then x else y) (fun i v => sAt i v)) fun h' tk k => ⟨_, H, I.kept k, ?_, q⟩)
  unfold sMin sLt
  by_cases c : y.cps.toList < x.cps.toList
  · simp [c]
    exact ⟨_, rfl⟩
  · simp [c]
    exact ⟨_, rfl⟩
section
variable {K : Frag} {ρ : Rho} {ta tb tc te : TE} {t u : TT} {d e : PyData}
theorem ed_maxS {ta : TA} {i j : Str} (h : EvS K ta ρ [.str i, .str j]) : EvD K (tCB rMaxS ta) ρ (.str (sMax i j)) := ed_cb h fun H vs Q d1 k => by
  obtain ⟨v, w, rfl, dv, dw⟩ := dps2 d1
  cases dv
  cases dw
  exact ⟨i, j, rfl, k _ H (Ex.refl H) (.str _)⟩
theorem ed_minS {ta : TA} {i j : Str} (h : EvS K ta ρ [.str i, .str j]) : EvD K (tCB rMinS ta) ρ (.str (sMin i j)) := ed_cb h fun H vs Q d1 k => by
  obtain ⟨v, w, rfl, dv, dw⟩ := dps2 d1
  cases dv
  cases dw
  exact ⟨i, j, rfl, k _ H (Ex.refl H) (.str _)⟩
/-! tests -/
theorem ec_test {b : Bool} (h : EvD K ta ρ (.bool b)) : EvC K (tTest ta) ρ b := fun σ H g Q q => h σ H g _ fun v H1 e1 dv => by
  cases dv
  exact ⟨b, rfl, q H1 e1⟩
theorem ec_and {a b : Bool} (h1 : EvC K t ρ a) (h2 : a = true → EvC K u ρ b) : EvC K (tAnd t u) ρ (a && b) := fun σ H g Q q => h1 σ H g _ fun H1 e1 => by
  cases a with
  | true => exact iteT (h2 rfl σ H1 (g.mono e1) Q fun H2 e2 => q H2 (e1.trans e2))
  | false => exact iteF (q H1 e1)
theorem ec_or {a b : Bool} (h1 : EvC K t ρ a) (h2 : a = false → EvC K u ρ b) : EvC K (tOr t u) ρ (a || b) := fun σ H g Q q => h1 σ H g _ fun H1 e1 => by
  cases a with
  | true => exact iteT (q H1 e1)
  | false => exact iteF (h2 rfl σ H1 (g.mono e1) Q fun H2 e2 => q H2 (e1.trans e2))
theorem ec_not {a : Bool} (h1 : EvC K t ρ a) : EvC K (tNot t) ρ (!a) := fun σ H g Q q => h1 σ H g _ fun H1 e1 => q H1 e1
end
/-! // and % by a number that is known to be positive, of any kind -/
/-! ### defs by their names -/
structure Def (P : Program) (w : World) (K : Frag) (mg : Str → Option Value) (base : Heap) (k : Nat) (x : Str) (ps : List Str) (sp : Sp) : Prop where
  ex : ∃ (f : Addr) (fd : FuncData), FnOk P w K mg base CX0 k f fd ps sp ∧ mg x = some (.ref f) ∧ PySem.W.keepIn K (.ref f) = true ∧ Binds K fd ps []
section
variable {P : Program} {w : World} {K : Frag} {mg : Str → Option Value} {base : Heap}
theorem def_mk {k : Nat} {x : Str} {st : Stmt} {f : Addr} {fd : FuncData} {ps : List Str} {sp : Sp} (F : FnP K x st f fd) (g : mg x = some (.ref f)) (b : Binds K fd ps []) (h : FnOk P w K mg base CX0 k f fd ps sp) : Def P w K mg base k x ps sp := ⟨f, fd, h, g, F.kp, b⟩
end
theorem pe_callD {X : Cx} {k : Nat} {x : Str} {ps : List Str} {sp : Sp} {e : Expr} {es : List Expr} {p pos : Pos} {t : TA} (D : Def X.prog X.w X.K X.mg X.base k x ps sp) (hr : Room k X.A) (hg : Gl X x) (ha : PA X (e :: es) t) (hdb : (x == ("__debug__" : Str)) = false := by decide)
    (he : starEach (e :: es) X.env = (false, eval e X.env) :: starEach es X.env := by rfl) (hpl : (backTo pos (starEach es X.env)).any (·.1) = false := by rfl) : PE X (.Call (.Name x p) (e :: es) [] pos) (tCall sp [] E0 t) := by
  obtain ⟨f, fd, h, g, kp, b⟩ := D.ex
  exact pe_call h hr hg g kp b .nil pass0 ha hdb he hpl
end Pd
namespace Pd
open PySem L2 Evl
theorem sh_int {x : Int} : SeqAt.shaped (.int x) = true := rfl
theorem sh_bl {x : Bool} : SeqAt.shaped (.bool x) = true := rfl
theorem sh_non : SeqAt.shaped .none = true := rfl
section
variable {K : Frag} {ρ : Rho} {ta tb tc te : TE} {t u : TT} {d e : PyData}
theorem ed_eqI {i j : Int} (ha : EvD K ta ρ (.int i)) (hb : EvD K tb ρ (.int j)) : EvD K (tOp rEq ta tb) ρ (.bool (decide (i = j))) := ed_two ha hb fun H v w Q dv dw k => by
  cases dv
  cases dw
  refine ⟨rfl, ?_⟩
  rw [show decide (V.int i = V.int j) = decide (i = j) by simp]
  exact k _ H (Ex.refl H) (.bl _)
theorem ed_neI {i j : Int} (ha : EvD K ta ρ (.int i)) (hb : EvD K tb ρ (.int j)) : EvD K (tOp rNe ta tb) ρ (.bool (!decide (i = j))) := ed_two ha hb fun H v w Q dv dw k => by
  cases dv
  cases dw
  refine ⟨rfl, ?_⟩
  rw [show decide (V.int i = V.int j) = decide (i = j) by simp]
  exact k _ H (Ex.refl H) (.bl _)
theorem ed_eqS {i j : Str} (ha : EvD K ta ρ (.str i)) (hb : EvD K tb ρ (.str j)) : EvD K (tOp rEq ta tb) ρ (.bool (decide (i = j))) := ed_two ha hb fun H v w Q dv dw k => by
  cases dv
  cases dw
  refine ⟨rfl, ?_⟩
  rw [show decide (V.str i = V.str j) = decide (i = j) by simp]
  exact k _ H (Ex.refl H) (.bl _)
theorem ed_neS {i j : Str} (ha : EvD K ta ρ (.str i)) (hb : EvD K tb ρ (.str j)) : EvD K (tOp rNe ta tb) ρ (.bool (!decide (i = j))) := ed_two ha hb fun H v w Q dv dw k => by
  cases dv
  cases dw
  refine ⟨rfl, ?_⟩
  rw [show decide (V.str i = V.str j) = decide (i = j) by simp]
  exact k _ H (Ex.refl H) (.bl _)
theorem ed_eqB {i j : Bool} (ha : EvD K ta ρ (.bool i)) (hb : EvD K tb ρ (.bool j)) : EvD K (tOp rEq ta tb) ρ (.bool (decide (i = j))) := ed_two ha hb fun H v w Q dv dw k => by
  cases dv
  cases dw
  refine ⟨rfl, ?_⟩
  rw [show decide (V.bl i = V.bl j) = decide (i = j) by simp]
  exact k _ H (Ex.refl H) (.bl _)
theorem ed_neB {i j : Bool} (ha : EvD K ta ρ (.bool i)) (hb : EvD K tb ρ (.bool j)) : EvD K (tOp rNe ta tb) ρ (.bool (!decide (i = j))) := ed_two ha hb fun H v w Q dv dw k => by
  cases dv
  cases dw
  refine ⟨rfl, ?_⟩
  rw [show decide (V.bl i = V.bl j) = decide (i = j) by simp]
  exact k _ H (Ex.refl H) (.bl _)
/-- a statement's known end -/
theorem run_post {ts : TS} {N M : Rho → Prop} {R : PyData → Prop} (h : Run K ts ρ M R) (q : ∀ ρ', M ρ' → N ρ') : Run K ts ρ N R := fun D σ H g hN hR => h D σ H g (fun ρ' σ' H' m => hN ρ' σ' H' (q ρ' m)) hR
end
end Pd

/-! what the laws draw, as functions over ints and texts -/
namespace Pd
open PySem L2 Evl
/-- the cell of the script -/
def cell (ns : List Int) (k : Int) : Int := if k < (ns.length : Int) then ns.getD k.toNat 0 else 0
def rich (c k : Int) : Int :=
  if (10 : Int) ^ (18 : Int).toNat ≤ c then c else
    (c * 48271 + k * 69621 + 11) % 2147483647 * 2147483629 + ((c * 48271 + k * 69621 + 11) % 2147483647 * 16807 + c) % 2147483629
def sign (ch : Str) (r : Int) : Nat := ch.cps.toList.getD (r % (ch.length : Int)).toNat 0
/-- the word so far and the rest of the seed -/
def wst (ch : Str) (seed : Int) : Nat → Str × Int
  | 0 => ("", seed)
  | n + 1 => ((wst ch seed n).1 ++ ⟨#[sign ch (wst ch seed n).2]⟩, (wst ch seed n).2 / (ch.length : Int))
def word (n : Int) (ch : Str) (seed : Int) : Str := (wst ch seed n.toNat).1
theorem len_app (x y : Str) : (x ++ y).length = x.length + y.length := by
  show (x.cps ++ y.cps).size = _
  rw [Array.size_append]
  rfl
theorem wst_len (ch : Str) (seed : Int) : ∀ n, (wst ch seed n).1.length = n
  | 0 => rfl
  | n + 1 => by
    show ((wst ch seed n).1 ++ (⟨#[sign ch (wst ch seed n).2]⟩ : Str)).length = n + 1
    rw [len_app, wst_len ch seed n]
    rfl
def keys8 : List Str := ["a", "b", "c", "d", "k", "m", "kk", "z"]
def abc : Str := "abcdefghijklmnopqrstuvwxyz"
def keyF (r : Int) : Str := if r % 4 < 3 then keys8.getD (r / 4 % 8).toNat "" else word (1 + r / 4 % 8) abc (r / 32)
def boundF (r : Int) : Str := if r % 6 = 5 then "" else keyF (r / 6)
/-- None or a text, as data -/
def oD : Option Str → PyData
  | none => .none
  | some x => .str x
def rangeF (r : Int) : Str × Option Str :=
  if boundF r = boundF (r / 1000) ∨ r / 7 % 5 = 0 then (boundF r, none) else (sMin (boundF r) (boundF (r / 1000)), some (sMax (boundF r) (boundF (r / 1000))))
def belowF : Option Str → Option Str → Bool
  | none, _ => false
  | some _, none => true
  | some x, some y => sLt x y
/-! the order of texts -/
theorem sLt_irr (x : Str) : sLt x x = false := by
  unfold sLt
  exact decide_eq_false (List.lt_irrefl _)
theorem sLt_tr {x y z : Str} (h1 : sLt x y = true) (h2 : sLt y z = true) : sLt x z = true := by
  unfold sLt at *
  exact decide_eq_true (List.lt_trans (of_decide_eq_true h1) (of_decide_eq_true h2))
theorem str_eq {x y : Str} (h : x.cps.toList = y.cps.toList) : x = y := by
  cases x
  cases y
  exact congrArg _ (Array.toList_inj.mp h)
theorem sLt_tri (x y : Str) : sLt x y = true ∨ x = y ∨ sLt y x = true := by
  unfold sLt
  by_cases h1 : x.cps.toList < y.cps.toList
  · exact .inl (decide_eq_true h1)
  · by_cases h2 : y.cps.toList < x.cps.toList
    · exact .inr (.inr (decide_eq_true h2))
    · exact .inr (.inl (str_eq (List.le_antisymm (List.not_lt.mp h2) (List.not_lt.mp h1))))
theorem sLt_as {x y : Str} (h : sLt x y = true) : sLt y x = false := by
  cases e : sLt y x with
  | false => rfl
  | true =>
    have q := sLt_tr h e
    rw [sLt_irr] at q
    cases q
end Pd

/-! Pw: values with tuples as values (W), a store of the objects that change (Mu), and what pieces of programs do to them. -/
namespace Pw
open PySem L2 Evl
open Pd (sLt)
abbrev Frag := PySem.W.Frag

inductive W where
  | non | bl (b : Bool) | int (i : Int) | str (x : Str) | tup (ws : List W) | ref (a : Addr)
abbrev Rho := List (Option W)

mutual
inductive Rw (K : Frag) (H : Hp) : V → W → Prop
  | non : Rw K H .non .non
  | bl (b : Bool) : Rw K H (.bl b) (.bl b)
  | int (i : Int) : Rw K H (.int i) (.int i)
  | str (x : Str) : Rw K H (.str x) (.str x)
  | ref (a : Addr) : Rw K H (.ref a) (.ref a)
  | tup {a : Addr} {vs : List V} {ws : List W} : SqT K H a vs → RwAll K H vs ws → Rw K H (.ref a) (.tup ws)
inductive RwAll (K : Frag) (H : Hp) : List V → List W → Prop
  | nil : RwAll K H [] []
  | cons {v : V} {vs : List V} {w : W} {ws : List W} : Rw K H v w → RwAll K H vs ws → RwAll K H (v :: vs) (w :: ws)
end
/-- the tuples stand -/
def Tk (H H' : Hp) : Prop := ∀ a xs, Rd H a (.tup xs) → Rd H' a (.tup xs)
theorem Tk.refl (H : Hp) : Tk H H := fun _ _ h => h
theorem Tk.trans {H H1 H2 : Hp} (a : Tk H H1) (b : Tk H1 H2) : Tk H H2 := fun c xs h => b c xs (a c xs h)
theorem Tk.ex {H H' : Hp} (e : Ex H H') : Tk H H' := fun _ _ h => ex_rd e h
/-- no tuple stands there -/
def NT (H : Hp) (a : Addr) : Prop := ∀ xs, ¬ Rd H a (.tup xs)
theorem Tk.upd {H : Hp} {a : Addr} {o : HO} (h : NT H a) : Tk H (upd H a o) := fun b xs r => by
  have n : b ≠ a := fun e => h xs (e ▸ r)
  rcases r with r | ⟨ob, r⟩
  · exact .inl (by rw [upd_ne n]; exact r)
  · exact .inr ⟨ob, by rw [upd_ne n]; exact r⟩
theorem nt_none {H : Hp} {a : Addr} (h : H a = none) : NT H a := fun xs r => by
  rcases r with r | ⟨o, r⟩ <;> (rw [h] at r; cases r)
theorem nt_lst {H : Hp} {a : Addr} {vs : List V} (h : H a = some (.lst vs)) : NT H a := fun xs r => by
  rcases r with r | ⟨o, r⟩ <;> (rw [h] at r; cases r)
theorem nt_dk {H : Hp} {a : Addr} {vs : List (Key × V)} (h : H a = some (.dK vs)) : NT H a := fun xs r => by
  rcases r with r | ⟨o, r⟩ <;> (rw [h] at r; cases r)
theorem nt_ins {H : Hp} {a C dx : Addr} {fs : List (Str × V)} (h : H a = some (.ins C dx fs)) : NT H a := fun xs r => by
  rcases r with r | ⟨o, r⟩ <;> (rw [h] at r; cases r)
theorem tk_t {K : Frag} {H H' : Hp} {a : Addr} {xs : List V} (e : Tk H H') (h : SqT K H a xs) : SqT K H' a xs := by
  rcases h with h | h
  · exact .inl (e _ _ h)
  · exact .inr h
mutual
theorem rwm {K : Frag} {H H' : Hp} (e : Tk H H') : ∀ {v : V} {d : W}, Rw K H v d → Rw K H' v d
  | _, _, .non => .non
  | _, _, .bl b => .bl b
  | _, _, .int i => .int i
  | _, _, .str x => .str x
  | _, _, .ref a => .ref a
  | _, _, .tup h hs => .tup (tk_t e h) (rwms e hs)
theorem rwms {K : Frag} {H H' : Hp} (e : Tk H H') : ∀ {vs : List V} {ds : List W}, RwAll K H vs ds → RwAll K H' vs ds
  | _, _, .nil => .nil
  | _, _, .cons h hs => .cons (rwm e h) (rwms e hs)
end
theorem dpm {K : Frag} {H H' : Hp} (e : Ex H H') {v : V} {d : W} (h : Rw K H v d) : Rw K H' v d := rwm (Tk.ex e) h
theorem dpms {K : Frag} {H H' : Hp} (e : Ex H H') {vs : List V} {ds : List W} (h : RwAll K H vs ds) : RwAll K H' vs ds := rwms (Tk.ex e) h
theorem dps_len {K : Frag} {H : Hp} : ∀ {vs : List V} {ds : List W}, RwAll K H vs ds → vs.length = ds.length
  | _, _, .nil => rfl
  | _, _, .cons _ hs => congrArg Nat.succ (dps_len hs)
theorem dps_at {K : Frag} {H : Hp} : ∀ {vs : List V} {ds : List W} (i : Nat) {d : W}, RwAll K H vs ds → ds[i]? = some d → ∃ v, vs[i]? = some v ∧ Rw K H v d
  | _, _, i, d, .nil, e => by simp at e
  | _, _, 0, d, .cons h _, e => by
    cases e
    exact ⟨_, rfl, h⟩
  | _, _, i + 1, d, .cons _ hs, e => dps_at i hs e
theorem dps_to {K : Frag} {H : Hp} : ∀ {vs : List V} {ds : List W} (i : Nat) {v : V}, RwAll K H vs ds → vs[i]? = some v → ∃ d, ds[i]? = some d ∧ Rw K H v d
  | _, _, i, d, .nil, e => by simp at e
  | _, _, 0, d, .cons h _, e => by
    cases e
    exact ⟨_, rfl, h⟩
  | _, _, i + 1, d, .cons _ hs, e => dps_to i hs e
theorem dps_app {K : Frag} {H : Hp} : ∀ {vs ws : List V} {ds es : List W}, RwAll K H vs ds → RwAll K H ws es → RwAll K H (vs ++ ws) (ds ++ es)
  | _, _, _, _, .nil, g => g
  | _, _, _, _, .cons h hs, g => .cons h (dps_app hs g)
theorem dps_take {K : Frag} {H : Hp} : ∀ {vs : List V} {ds : List W} (n : Nat), RwAll K H vs ds → RwAll K H (vs.take n) (ds.take n)
  | _, _, 0, _ => .nil
  | _, _, _ + 1, .nil => .nil
  | _, _, n + 1, .cons h hs => .cons h (dps_take n hs)
theorem dps_drop {K : Frag} {H : Hp} : ∀ {vs : List V} {ds : List W} (n : Nat), RwAll K H vs ds → RwAll K H (vs.drop n) (ds.drop n)
  | _, _, 0, h => h
  | _, _, _ + 1, .nil => .nil
  | _, _, n + 1, .cons _ hs => dps_drop n hs
theorem dps_set {K : Frag} {H : Hp} {x : V} {y : W} (h : Rw K H x y) : ∀ {vs : List V} {ds : List W} (i : Nat), RwAll K H vs ds → RwAll K H (vs.set i x) (ds.set i y)
  | _, _, _, .nil => .nil
  | _, _, 0, .cons _ hs => .cons h hs
  | _, _, i + 1, .cons g hs => .cons g (dps_set h i hs)
theorem dps_ints {K : Frag} {H : Hp} : ∀ (ns : List Int), RwAll K H (ns.map V.int) (ns.map W.int)
  | [] => .nil
  | n :: r => .cons (.int n) (dps_ints r)
theorem dps_strs {K : Frag} {H : Hp} : ∀ (ns : List Str), RwAll K H (ns.map V.str) (ns.map W.str)
  | [] => .nil
  | n :: r => .cons (.str n) (dps_strs r)
theorem dps_strs_of {K : Frag} {H : Hp} : ∀ {vs : List V} {ns : List Str}, RwAll K H vs (ns.map W.str) → vs = ns.map V.str
  | _, [], h => by
    cases h
    rfl
  | _, n :: r, h => by
    cases h with
    | cons a b =>
      cases a
      rw [dps_strs_of b]
      rfl
theorem dps1 {K : Frag} {H : Hp} {vs : List V} {x : W} (h : RwAll K H vs [x]) : ∃ v, vs = [v] ∧ Rw K H v x := by
  cases h with
  | cons a b =>
    cases b
    exact ⟨_, rfl, a⟩
theorem dps2 {K : Frag} {H : Hp} {vs : List V} {x y : W} (h : RwAll K H vs [x, y]) : ∃ v w, vs = [v, w] ∧ Rw K H v x ∧ Rw K H w y := by
  cases h with
  | cons a b =>
    obtain ⟨w, rfl, c⟩ := dps1 b
    exact ⟨_, w, rfl, a, c⟩
theorem dps3 {K : Frag} {H : Hp} {vs : List V} {x y z : W} (h : RwAll K H vs [x, y, z]) : ∃ v w u, vs = [v, w, u] ∧ Rw K H v x ∧ Rw K H w y ∧ Rw K H u z := by
  cases h with
  | cons a b =>
    obtain ⟨w, u, rfl, c, d⟩ := dps2 b
    exact ⟨_, w, u, rfl, a, c, d⟩

/-! ### the store -/
/-- lists that are read alone, lists, dicts with int and text keys, instances -/
inductive O where
  | rl (ws : List W) | ls (ws : List W) | dk (kvs : List (Key × W)) | ins (C dx : Addr) (fs : List (Str × W))
abbrev RwP (K : Frag) (H : Hp) {κ : Type} : List (κ × V) → List (κ × W) → Prop := Paired fun (p : κ × V) (q : κ × W) => p.1 = q.1 ∧ Rw K H p.2 q.2
theorem rwpm {K : Frag} {H H' : Hp} {κ : Type} (e : Tk H H') {kv : List (κ × V)} {kw : List (κ × W)} (h : RwP K H kv kw) : RwP K H' kv kw := Paired.mapP h fun _ _ z => ⟨z.1, rwm e z.2⟩
def RelO (K : Frag) (H : Hp) (a : Addr) : O → Prop
  | .rl ws => ∃ vs, Rd H a (.lst vs) ∧ RwAll K H vs ws
  | .ls ws => ∃ vs, H a = some (.lst vs) ∧ RwAll K H vs ws
  | .dk kvs => ∃ kv, H a = some (.dK kv) ∧ RwP K H kv kvs
  | .ins C dx fs => ∃ fv, H a = some (.ins C dx fv) ∧ RwP K H fv fs
abbrev Mu := Addr → Option O
def mset (μ : Mu) (a : Addr) (o : O) : Mu := fun b => if b = a then some o else μ b
theorem mset_same {μ : Mu} {a : Addr} {o : O} : mset μ a o a = some o := by unfold mset; rw [if_pos rfl]
theorem mset_ne {μ : Mu} {a b : Addr} {o : O} (h : b ≠ a) : mset μ a o b = μ b := by unfold mset; rw [if_neg h]
theorem mset_mset {μ : Mu} {a : Addr} {o u : O} : mset (mset μ a o) a u = mset μ a u := by
  funext b
  unfold mset
  split <;> rfl
def Mem (K : Frag) (H : Hp) (μ : Mu) : Prop := ∀ a o, μ a = some o → RelO K H a o
theorem RelO.same {K : Frag} {H H' : Hp} {a : Addr} {o : O} (h : RelO K H a o) (e : Tk H H') (q : H' a = H a) : RelO K H' a o := by
  cases o with
  | rl ws =>
    obtain ⟨vs, r, w⟩ := h
    refine ⟨vs, ?_, rwms e w⟩
    rcases r with r | ⟨o, r⟩
    · exact .inl (q.trans r)
    · exact .inr ⟨o, q.trans r⟩
  | ls ws =>
    obtain ⟨vs, r, w⟩ := h
    exact ⟨vs, q.trans r, rwms e w⟩
  | dk kvs =>
    obtain ⟨vs, r, w⟩ := h
    exact ⟨vs, q.trans r, rwpm e w⟩
  | ins C dx fs =>
    obtain ⟨vs, r, w⟩ := h
    exact ⟨vs, q.trans r, rwpm e w⟩
theorem RelO.there {K : Frag} {H : Hp} {a : Addr} {o : O} (h : RelO K H a o) : ∃ u, H a = some u := by
  cases o with
  | rl ws =>
    obtain ⟨vs, r, w⟩ := h
    rcases r with r | ⟨o, r⟩
    · exact ⟨_, r⟩
    · exact ⟨_, r⟩
  | ls ws =>
    obtain ⟨vs, r, w⟩ := h
    exact ⟨_, r⟩
  | dk kvs =>
    obtain ⟨vs, r, w⟩ := h
    exact ⟨_, r⟩
  | ins C dx fs =>
    obtain ⟨vs, r, w⟩ := h
    exact ⟨_, r⟩
theorem Mem.ex {K : Frag} {H H' : Hp} {μ : Mu} (m : Mem K H μ) (e : Ex H H') : Mem K H' μ := fun a o q => by
  obtain ⟨u, hu⟩ := (m a o q).there
  exact (m a o q).same (Tk.ex e) ((e a u hu).trans hu.symm)
theorem Mem.free {K : Frag} {H : Hp} {μ : Mu} (m : Mem K H μ) {p : Addr} (h : H p = none) : μ p = none := by
  cases q : μ p with
  | none => rfl
  | some o =>
    obtain ⟨u, hu⟩ := (m p o q).there
    rw [h] at hu
    cases hu
theorem Mem.put {K : Frag} {H : Hp} {μ : Mu} {a : Addr} {o : O} {ho : HO} (m : Mem K H μ) (n : NT H a) (r : RelO K (upd H a ho) a o) : Mem K (upd H a ho) (mset μ a o) := fun b u q => by
  by_cases hb : b = a
  · subst hb
    rw [mset_same] at q
    cases q
    exact r
  · rw [mset_ne hb] at q
    exact (m b u q).same (Tk.upd n) (upd_ne hb)

def Holds (K : Frag) (H : Hp) (σ : L2.St) (ρ : Rho) : Prop := σ.length = ρ.length ∧ ∀ (i : Nat) (d : W), ρ[i]? = some (some d) → ∃ v, σ[i]? = some (some v) ∧ Rw K H v d
theorem Holds.tk {K : Frag} {H H' : Hp} {σ : L2.St} {ρ : Rho} (h : Holds K H σ ρ) (e : Tk H H') : Holds K H' σ ρ :=
  ⟨h.1, fun i d q => (h.2 i d q).imp fun _ z => ⟨z.1, rwm e z.2⟩⟩
theorem Holds.put {K : Frag} {H : Hp} {σ : L2.St} {ρ : Rho} {v : V} {d : W} (i : Nat) (h : Holds K H σ ρ) (hv : Rw K H v d) : Holds K H (σ.set i (some v)) (ρ.set i (some d)) := by
  refine ⟨by rw [List.length_set, List.length_set, h.1], fun j e q => ?_⟩
  rw [List.getElem?_set] at q ⊢
  by_cases hij : i = j
  · subst hij
    rw [if_pos rfl] at q ⊢
    rw [h.1]
    by_cases hl : i < ρ.length
    · rw [if_pos hl] at q ⊢
      cases q
      exact ⟨v, rfl, hv⟩
    · rw [if_neg hl] at q
      cases q
  · rw [if_neg hij] at q ⊢
    exact h.2 j e q
/-- a slot of which nothing is said any more -/
theorem Holds.hide {K : Frag} {H : Hp} {σ : L2.St} {ρ : Rho} {v : Option V} (i : Nat) (h : Holds K H σ ρ) : Holds K H (σ.set i v) (ρ.set i none) := by
  refine ⟨by rw [List.length_set, List.length_set, h.1], fun j e q => ?_⟩
  rw [List.getElem?_set] at q ⊢
  by_cases hij : i = j
  · subst hij
    rw [if_pos rfl] at q
    split at q <;> cases q
  · rw [if_neg hij] at q ⊢
    exact h.2 j e q
theorem dps_start {K : Frag} {H : Hp} {N : List Str} {vs : List V} {ds : List W} (h : RwAll K H vs ds) : Holds K H (L2.start N vs) (ds.map some ++ List.replicate (N.length - ds.length) none) := by
  have hl := dps_len h
  refine ⟨by unfold L2.start; simp [hl], fun i d q => ?_⟩
  unfold L2.start
  by_cases hi : i < ds.length
  · rw [List.getElem?_append_left (by simpa using hi), List.getElem?_map] at q
    rw [List.getElem?_append_left (by simpa [hl] using hi), List.getElem?_map]
    cases e : ds[i]? with
    | none =>
      rw [e] at q
      cases q
    | some d' =>
      rw [e] at q
      cases q
      obtain ⟨v, e1, e2⟩ := dps_at i h e
      exact ⟨v, by rw [e1]; rfl, e2⟩
  · rw [List.getElem?_append_right (by simpa using hi)] at q
    rw [List.getElem?_replicate] at q
    split at q <;> cases q
/-- the slots and the store -/
def S (K : Frag) (H : Hp) (σ : L2.St) (ρ : Rho) (μ : Mu) : Prop := Holds K H σ ρ ∧ Mem K H μ
theorem S.mono {K : Frag} {H H' : Hp} {σ : L2.St} {ρ : Rho} {μ : Mu} (e : Ex H H') (h : S K H σ ρ μ) : S K H' σ ρ μ := ⟨h.1.tk (Tk.ex e), h.2.ex e⟩
theorem S.put {K : Frag} {H : Hp} {σ : L2.St} {ρ : Rho} {μ : Mu} {v : V} {d : W} (i : Nat) (h : S K H σ ρ μ) (hv : Rw K H v d) : S K H (σ.set i (some v)) (ρ.set i (some d)) μ := ⟨h.1.put i hv, h.2⟩
theorem S.hide {K : Frag} {H : Hp} {σ : L2.St} {ρ : Rho} {μ : Mu} {v : Option V} (i : Nat) (h : S K H σ ρ μ) : S K H (σ.set i v) (ρ.set i none) μ := ⟨h.1.hide i, h.2⟩

/-! ### expressions that leave what is known -/
def EvD (K : Frag) (te : TE) (ρ : Rho) (μ : Mu) (d : W) : Prop := ∀ (σ : L2.St) (H : Hp), S K H σ ρ μ → ∀ Q : VK, (∀ v H2, Ex H H2 → Rw K H2 v d → Q v H2) → te σ H Q
def EvC (K : Frag) (t : TT) (ρ : Rho) (μ : Mu) (b : Bool) : Prop := ∀ (σ : L2.St) (H : Hp), S K H σ ρ μ → ∀ Q : Bool → Hp → Prop, (∀ H2, Ex H H2 → Q b H2) → t σ H Q
def EvS (K : Frag) (ta : TA) (ρ : Rho) (μ : Mu) (ds : List W) : Prop := ∀ (σ : L2.St) (H : Hp), S K H σ ρ μ → ∀ Q : List V → Hp → Prop, (∀ vs H2, Ex H H2 → RwAll K H2 vs ds → Q vs H2) → ta σ H Q
section
variable {K : Frag} {ρ : Rho} {μ : Mu} {ta tb tc te : TE} {t u : TT} {d e : W}
theorem EvD.is (h : EvD K te ρ μ d) (q : d = e) : EvD K te ρ μ e := q ▸ h
theorem EvC.is {a b : Bool} (h : EvC K t ρ μ a) (q : a = b) : EvC K t ρ μ b := q ▸ h
theorem ed_var {i : Nat} (h : ρ[i]? = some (some d)) : EvD K (tVar i) ρ μ d := fun σ H g Q q => by
  obtain ⟨v, e1, e2⟩ := g.1.2 i d h
  exact ⟨v, e1, q v H (Ex.refl H) e2⟩
theorem ed_int {i : Int} : EvD K (tC (.int i)) ρ μ (.int i) := fun _ H _ _ q => q _ H (Ex.refl H) (.int i)
theorem ed_str {x : Str} : EvD K (tC (.str x)) ρ μ (.str x) := fun _ H _ _ q => q _ H (Ex.refl H) (.str x)
theorem ed_bl {x : Bool} : EvD K (tC (.bl x)) ρ μ (.bl x) := fun _ H _ _ q => q _ H (Ex.refl H) (.bl x)
theorem ed_non : EvD K (tC .non) ρ μ .non := fun _ H _ _ q => q _ H (Ex.refl H) .non
/-- two operands, then the operation on their values -/
theorem ed_two {r : R2} {x y z : W} (ha : EvD K ta ρ μ x) (hb : EvD K tb ρ μ y)
    (hr : ∀ (H : Hp) (v w : V) (Q : VK), Rw K H v x → Rw K H w y → (∀ u H2, Ex H H2 → Rw K H2 u z → Q u H2) → r v w H Q) : EvD K (tOp r ta tb) ρ μ z := fun σ H g Q q =>
  ha σ H g _ fun v H1 e1 d1 => hb σ H1 (g.mono e1) _ fun w H2 e2 d2 => hr H2 v w Q (dpm e2 d1) d2 fun u H3 e3 d3 => q u H3 ((e1.trans e2).trans e3) d3
theorem ed_I0 {f : Int → Int → V} {z : W} {i j : Int} (ha : EvD K ta ρ μ (.int i)) (hb : EvD K tb ρ μ (.int j)) (hz : ∀ H, Rw K H (f i j) z) : EvD K (tOp (rI0 f) ta tb) ρ μ z :=
  ed_two ha hb fun H v w Q dv dw k => by
    cases dv
    cases dw
    exact ⟨i, j, rfl, rfl, k _ H (Ex.refl H) (hz H)⟩
theorem ed_I {C : Int → Int → Prop} {f : Int → Int → V} {z : W} {i j : Int} (ha : EvD K ta ρ μ (.int i)) (hb : EvD K tb ρ μ (.int j)) (hc : C i j) (hz : ∀ H, Rw K H (f i j) z) : EvD K (tOp (rI C f) ta tb) ρ μ z :=
  ed_two ha hb fun H v w Q dv dw k => by
    cases dv
    cases dw
    exact ⟨i, j, rfl, rfl, hc, k _ H (Ex.refl H) (hz H)⟩
theorem ed_add {i j : Int} (ha : EvD K ta ρ μ (.int i)) (hb : EvD K tb ρ μ (.int j)) : EvD K (tOp (rI0 fun i j => .int (i + j)) ta tb) ρ μ (.int (i + j)) := ed_I0 ha hb fun _ => .int _
theorem ed_sub {i j : Int} (ha : EvD K ta ρ μ (.int i)) (hb : EvD K tb ρ μ (.int j)) : EvD K (tOp (rI0 fun i j => .int (i - j)) ta tb) ρ μ (.int (i - j)) := ed_I0 ha hb fun _ => .int _
theorem ed_mul {i j : Int} (ha : EvD K ta ρ μ (.int i)) (hb : EvD K tb ρ μ (.int j)) (hc : CMul i j) : EvD K (tOp (rI CMul fun i j => .int (i * j)) ta tb) ρ μ (.int (i * j)) := ed_I ha hb hc fun _ => .int _
theorem ed_div {i j : Int} (ha : EvD K ta ρ μ (.int i)) (hb : EvD K tb ρ μ (.int j)) (hc : CDiv i j) : EvD K (tOp (rI CDiv fun i j => .int (i / j)) ta tb) ρ μ (.int (i / j)) := ed_I ha hb hc fun _ => .int _
theorem ed_mod {i j : Int} (ha : EvD K ta ρ μ (.int i)) (hb : EvD K tb ρ μ (.int j)) (hc : 0 < j) : EvD K (tOp (rI (fun _ j => 0 < j) fun i j => .int (i % j)) ta tb) ρ μ (.int (i % j)) := ed_I ha hb hc fun _ => .int _
theorem ed_pow {i j : Int} (ha : EvD K ta ρ μ (.int i)) (hb : EvD K tb ρ μ (.int j)) (hc : CPow i j) : EvD K (tOp (rI CPow fun i j => .int (i ^ j.toNat)) ta tb) ρ μ (.int (i ^ j.toNat)) := ed_I ha hb hc fun _ => .int _
theorem ed_lt {i j : Int} (ha : EvD K ta ρ μ (.int i)) (hb : EvD K tb ρ μ (.int j)) : EvD K (tOp (rI0 fun i j => .bl (decide (i < j))) ta tb) ρ μ (.bl (decide (i < j))) := ed_I0 ha hb fun _ => .bl _
theorem ed_le {i j : Int} (ha : EvD K ta ρ μ (.int i)) (hb : EvD K tb ρ μ (.int j)) : EvD K (tOp (rI0 fun i j => .bl (decide (i ≤ j))) ta tb) ρ μ (.bl (decide (i ≤ j))) := ed_I0 ha hb fun _ => .bl _
theorem ed_gt {i j : Int} (ha : EvD K ta ρ μ (.int i)) (hb : EvD K tb ρ μ (.int j)) : EvD K (tOp (rI0 fun i j => .bl (decide (j < i))) ta tb) ρ μ (.bl (decide (j < i))) := ed_I0 ha hb fun _ => .bl _
theorem ed_ge {i j : Int} (ha : EvD K ta ρ μ (.int i)) (hb : EvD K tb ρ μ (.int j)) : EvD K (tOp (rI0 fun i j => .bl (decide (j ≤ i))) ta tb) ρ μ (.bl (decide (j ≤ i))) := ed_I0 ha hb fun _ => .bl _
theorem ed_neg {i : Int} (ha : EvD K ta ρ μ (.int i)) : EvD K (tUn (rU fun i => .int (-i)) ta) ρ μ (.int (-i)) := fun σ H g Q q => ha σ H g _ fun v H1 e1 dv => by
  cases dv
  exact ⟨i, rfl, q _ H1 e1 (.int _)⟩


/-- texts -/
def rLtS : R2 := fun x y H Q => ∃ i j, x = .str i ∧ y = .str j ∧ Q (.bl (decide (i.cps.toList < j.cps.toList))) H
def rLeS : R2 := fun x y H Q => ∃ i j, x = .str i ∧ y = .str j ∧ Q (.bl (!decide (j.cps.toList < i.cps.toList))) H
def rGtS : R2 := fun x y H Q => ∃ i j, x = .str i ∧ y = .str j ∧ Q (.bl (decide (j.cps.toList < i.cps.toList))) H
def rGeS : R2 := fun x y H Q => ∃ i j, x = .str i ∧ y = .str j ∧ Q (.bl (!decide (i.cps.toList < j.cps.toList))) H
def rAddT : R2 := fun x y H Q => ∃ i j, x = .str i ∧ y = .str j ∧ i.length + j.length ≤ sizeLine ∧ Q (.str (i ++ j)) H
theorem op_ltS {X : Cx} : OpR X (compareOp .Lt) rLtS := op_lt_str
theorem op_leS {X : Cx} : OpR X (compareOp .LtE) rLeS := op_le_str
theorem op_gtS {X : Cx} : OpR X (compareOp .Gt) rGtS := op_gt_str
theorem op_geS {X : Cx} : OpR X (compareOp .GtE) rGeS := op_ge_str
theorem op_addS {X : Cx} : OpR X (binaryOp .Add) rAddT := op_add_str
theorem ed_ltS {i j : Str} (ha : EvD K ta ρ μ (.str i)) (hb : EvD K tb ρ μ (.str j)) : EvD K (tOp rLtS ta tb) ρ μ (.bl (sLt i j)) := ed_two ha hb fun H v w Q dv dw k => by
  cases dv
  cases dw
  exact ⟨i, j, rfl, rfl, k _ H (Ex.refl H) (.bl _)⟩
theorem ed_leS {i j : Str} (ha : EvD K ta ρ μ (.str i)) (hb : EvD K tb ρ μ (.str j)) : EvD K (tOp rLeS ta tb) ρ μ (.bl (!sLt j i)) := ed_two ha hb fun H v w Q dv dw k => by
  cases dv
  cases dw
  exact ⟨i, j, rfl, rfl, k _ H (Ex.refl H) (.bl _)⟩
theorem ed_gtS {i j : Str} (ha : EvD K ta ρ μ (.str i)) (hb : EvD K tb ρ μ (.str j)) : EvD K (tOp rGtS ta tb) ρ μ (.bl (sLt j i)) := ed_two ha hb fun H v w Q dv dw k => by
  cases dv
  cases dw
  exact ⟨i, j, rfl, rfl, k _ H (Ex.refl H) (.bl _)⟩
theorem ed_geS {i j : Str} (ha : EvD K ta ρ μ (.str i)) (hb : EvD K tb ρ μ (.str j)) : EvD K (tOp rGeS ta tb) ρ μ (.bl (!sLt i j)) := ed_two ha hb fun H v w Q dv dw k => by
  cases dv
  cases dw
  exact ⟨i, j, rfl, rfl, k _ H (Ex.refl H) (.bl _)⟩
theorem ed_addS {i j : Str} (ha : EvD K ta ρ μ (.str i)) (hb : EvD K tb ρ μ (.str j)) (hl : i.length + j.length ≤ sizeLine) : EvD K (tOp rAddT ta tb) ρ μ (.str (i ++ j)) := ed_two ha hb fun H v w Q dv dw k => by
  cases dv
  cases dw
  exact ⟨i, j, rfl, rfl, hl, k _ H (Ex.refl H) (.str _)⟩
/-- is None -/
def isNone : W → Bool
  | .non => true
  | _ => false
theorem isNone_dp {H : Hp} {v : V} (h : Rw K H v d) : decide (v = .non) = isNone d := by cases h <;> rfl
def rIsNo : R2 := fun x y H Q => y = .non ∧ Q (.bl (decide (x = .non))) H
def rNotNo : R2 := fun x y H Q => y = .non ∧ Q (.bl (!decide (x = .non))) H
theorem op_isNo {X : Cx} : OpR X (compareOp .Is) rIsNo := op_isN
theorem op_notNo {X : Cx} : OpR X (compareOp .IsNot) rNotNo := op_notN
theorem ed_isN {x : W} (ha : EvD K ta ρ μ x) : EvD K (tOp rIsNo ta (tC .non)) ρ μ (.bl (isNone x)) := ed_two ha ed_non fun H v w Q dv dw k => by
  cases dw
  exact ⟨rfl, by rw [isNone_dp dv]; exact k _ H (Ex.refl H) (.bl _)⟩
theorem ed_notN {x : W} (ha : EvD K ta ρ μ x) : EvD K (tOp rNotNo ta (tC .non)) ρ μ (.bl (!isNone x)) := ed_two ha ed_non fun H v w Q dv dw k => by
  cases dw
  exact ⟨rfl, by rw [isNone_dp dv]; exact k _ H (Ex.refl H) (.bl _)⟩
/-- and, or, not of bools -/
theorem ed_and {a b : Bool} (ha : EvD K ta ρ μ (.bl a)) (hb : a = true → EvD K tb ρ μ (.bl b)) : EvD K (tAndV ta tb) ρ μ (.bl (a && b)) := fun σ H g Q q => ha σ H g _ fun v H1 e1 dv => by
  cases dv
  cases a with
  | true => exact ⟨true, rfl, iteT (hb rfl σ H1 (g.mono e1) Q fun v H2 e2 d2 => q v H2 (e1.trans e2) d2)⟩
  | false => exact ⟨false, rfl, iteF (q _ H1 e1 (.bl _))⟩
theorem ed_or {a b : Bool} (ha : EvD K ta ρ μ (.bl a)) (hb : a = false → EvD K tb ρ μ (.bl b)) : EvD K (tOrV ta tb) ρ μ (.bl (a || b)) := fun σ H g Q q => ha σ H g _ fun v H1 e1 dv => by
  cases dv
  cases a with
  | true => exact ⟨true, rfl, iteT (q _ H1 e1 (.bl _))⟩
  | false => exact ⟨false, rfl, iteF (hb rfl σ H1 (g.mono e1) Q fun v H2 e2 d2 => q v H2 (e1.trans e2) d2)⟩
theorem ed_not {a : Bool} (ha : EvD K ta ρ μ (.bl a)) : EvD K (tNotV ta) ρ μ (.bl (!a)) := fun σ H g Q q => ha σ H g _ fun v H1 e1 dv => by
  cases dv
  exact ⟨a, rfl, q _ H1 e1 (.bl _)⟩
theorem ec_val {b : Bool} (h : EvD K ta ρ μ (.bl b)) : EvC K (tB ta) ρ μ b := fun σ H g Q q => h σ H g _ fun v H1 e1 dv => by
  cases dv
  exact ⟨b, rfl, q H1 e1⟩
theorem ed_if {b : Bool} {x : W} (hc : EvC K t ρ μ b) (h1 : b = true → EvD K ta ρ μ x) (h2 : b = false → EvD K tb ρ μ x) : EvD K (tIf t ta tb) ρ μ x := fun σ H g Q q => hc σ H g _ fun H1 e1 => by
  cases b with
  | true => exact iteT (h1 rfl σ H1 (g.mono e1) Q fun v H2 e2 d2 => q v H2 (e1.trans e2) d2)
  | false => exact iteF (h2 rfl σ H1 (g.mono e1) Q fun v H2 e2 d2 => q v H2 (e1.trans e2) d2)
/-- a < b < c, both answers bools -/
theorem ed_chain {r r' : R2} {x y z : W} {a b : Bool} (ha : EvD K ta ρ μ x) (hb : EvD K tb ρ μ y) (hc : EvD K tc ρ μ z)
    (hr : ∀ (H : Hp) (v w : V) (Q : VK), Rw K H v x → Rw K H w y → (Q (.bl a) H) → r v w H Q)
    (hr' : ∀ (H : Hp) (v w : V) (Q : VK), Rw K H v y → Rw K H w z → (Q (.bl b) H) → r' v w H Q) : EvD K (tChain r r' ta tb tc) ρ μ (.bl (a && b)) := fun σ H g Q q =>
  ha σ H g _ fun v H1 e1 d1 => hb σ H1 (g.mono e1) _ fun w H2 e2 d2 => hr H2 v w _ (dpm e2 d1) d2 ⟨a, rfl, by
    cases a with
    | true => exact iteT (hc σ H2 (g.mono (e1.trans e2)) _ fun u H3 e3 d3 => hr' H3 w u Q (dpm e3 d2) d3 (q _ H3 ((e1.trans e2).trans e3) (.bl _)))
    | false => exact iteF (q _ H2 (e1.trans e2) (.bl _))⟩
theorem ch_le {i j : Int} (H : Hp) (v w : V) (Q : VK) (dv : Rw K H v (.int i)) (dw : Rw K H w (.int j)) (q : Q (.bl (decide (i ≤ j))) H) : (rI0 fun i j => .bl (decide (i ≤ j))) v w H Q := by
  cases dv
  cases dw
  exact ⟨i, j, rfl, rfl, q⟩
theorem ch_leS {i j : Str} (H : Hp) (v w : V) (Q : VK) (dv : Rw K H v (.str i)) (dw : Rw K H w (.str j)) (q : Q (.bl (!sLt j i)) H) : rLeS v w H Q := by
  cases dv
  cases dw
  exact ⟨i, j, rfl, rfl, q⟩
/-! ### arguments, displays -/
theorem es_nil : EvS K tNil ρ μ [] := fun _ H _ _ q => q [] H (Ex.refl H) .nil
theorem es_cons {tr : TA} {x : W} {xs : List W} (h : EvD K ta ρ μ x) (hs : EvS K tr ρ μ xs) : EvS K (tCons ta tr) ρ μ (x :: xs) := fun σ H g Q q =>
  h σ H g _ fun v H1 e1 d1 => hs σ H1 (g.mono e1) _ fun vs H2 e2 d2 => q (v :: vs) H2 (e1.trans e2) (.cons (dpm e2 d1) d2)
theorem EvS.is {ta : TA} {xs ys : List W} (h : EvS K ta ρ μ xs) (q : xs = ys) : EvS K ta ρ μ ys := q ▸ h
theorem ed_tup {ta : TA} {xs : List W} (h : EvS K ta ρ μ xs) (hl : xs.length ≤ 100000) : EvD K (tTup ta) ρ μ (.tup xs) := fun σ H g Q q =>
  h σ H g _ fun vs H1 e1 d1 => ⟨sz_of (by rw [dps_len d1]; exact hl), fun p hp => q _ _ (e1.trans (Ex.new hp)) (.tup (st_of upd_same) (dpms (Ex.new hp) d1))⟩

/-! ### subscripts -/
theorem ixN_of {n : Nat} {i : Int} {k : Nat} (h : i = (k : Int)) (hk : k < n) : ixN n i = some k := by
  unfold ixN
  rw [if_pos (by omega), if_pos (by omega), h]
  rfl
/-- the item at a place that is counted from 0 -/
theorem ed_ixT {xs : List W} {i : Int} {x : W} (ha : EvD K ta ρ μ (.tup xs)) (hb : EvD K tb ρ μ (.int i)) (hi : 0 ≤ i) (hx : xs[i.toNat]? = some x) : EvD K (tOp (rIxT K) ta tb) ρ μ x := ed_two ha hb fun H v w Q dv dw k => by
  cases dw
  cases dv with
  | tup h hs =>
    obtain ⟨v, e1, e2⟩ := dps_at i.toNat hs hx
    exact ⟨_, _, i, v, rfl, rfl, h, at_of (by omega) e1, k v H (Ex.refl H) e2⟩

theorem ed_ixS {z : Str} {i : Int} {c : Nat} (ha : EvD K ta ρ μ (.str z)) (hb : EvD K tb ρ μ (.int i)) (hl : z.length ≤ sizeLine) (hi : 0 ≤ i) (hx : z.cps.toList[i.toNat]? = some c) : EvD K (tOp rIxS ta tb) ρ μ (.str ⟨#[c]⟩) := ed_two ha hb fun H v w Q dv dw k => by
  cases dw
  cases dv
  have e : atI z.cps.toList i = some c := by
    have h1 := atI_nat hx
    rw [show ((i.toNat : Nat) : Int) = i by omega] at h1
    exact h1
  exact ⟨z, i, c, rfl, rfl, hl, e, k _ H (Ex.refl H) (.str _)⟩
/-! ### calls -/
/-- the promise of a def that changes nothing: Wf arguments store result -/
def spP (K : Frag) (Wf : List W → Mu → W → Prop) : Sp := fun vs H Q _ => ∃ ws μ w, RwAll K H vs ws ∧ Mem K H μ ∧ Wf ws μ w ∧ ∀ v H', Ex H H' → Rw K H' v w → Q v H'
theorem ed_call {Wf : List W → Mu → W → Prop} {E : XK} {ta : TA} {xs : List W} {x : W} (h : EvS K ta ρ μ xs) (hw : Wf xs μ x) : EvD K (tCall (spP K Wf) [] E ta) ρ μ x := fun σ H g Q q =>
  h σ H g _ fun vs H1 e1 d1 => by
    show spP K Wf (vs ++ []) H1 Q E
    rw [List.append_nil]
    exact ⟨xs, μ, x, d1, g.2.ex e1, hw, fun v H2 e2 d2 => q v H2 (e1.trans e2) d2⟩
theorem ed_cb {r : List V → Hp → VK → Prop} {ta : TA} {xs : List W} {x : W} (h : EvS K ta ρ μ xs) (hr : ∀ (H : Hp) (vs : List V) (Q : VK), RwAll K H vs xs → (∀ v H2, Ex H H2 → Rw K H2 v x → Q v H2) → r vs H Q) : EvD K (tCB r ta) ρ μ x := fun σ H g Q q =>
  h σ H g _ fun vs H1 e1 d1 => hr H1 vs Q d1 fun v H2 e2 d2 => q v H2 (e1.trans e2) d2
theorem ed_cbm {r : List V → Hp → VK → Prop} {ta : TA} {xs : List W} {x : W} (h : EvS K ta ρ μ xs) (hr : ∀ (H : Hp) (vs : List V) (Q : VK), Mem K H μ → RwAll K H vs xs → (∀ v H2, Ex H H2 → Rw K H2 v x → Q v H2) → r vs H Q) : EvD K (tCB r ta) ρ μ x := fun σ H g Q q =>
  h σ H g _ fun vs H1 e1 d1 => hr H1 vs Q (g.2.ex e1) d1 fun v H2 e2 d2 => q v H2 (e1.trans e2) d2


def rInt1 : List V → Hp → VK → Prop := fun xs H Q => (∃ i, xs = [.int i] ∧ Q (.int i) H) ∨ ∃ k, xs = [.bl k] ∧ Q (.int (if k then 1 else 0)) H
theorem cr_int1 {X : Cx} : CallR X (.type "int") rInt1 := call_int1
theorem ed_toint {ta : TA} {i : Int} (h : EvS K ta ρ μ [.int i]) : EvD K (tCB rInt1 ta) ρ μ (.int i) := ed_cb h fun H vs Q d1 k => by
  obtain ⟨v, rfl, dv⟩ := dps1 d1
  cases dv
  exact .inl ⟨i, rfl, k _ H (Ex.refl H) (.int i)⟩
/-- len -/
def rLenD (K : Frag) : List V → Hp → VK → Prop := fun xs H Q => ∃ x n, xs = [x] ∧ LenV K x H n ∧ Q (.int n) H
theorem cr_len {X : Cx} : CallR X (.builtin "len") (rLenD X.K) := call_len
theorem ed_lenT {ta : TA} {xs : List W} (h : EvS K ta ρ μ [.tup xs]) : EvD K (tCB (rLenD K) ta) ρ μ (.int (xs.length : Int)) := ed_cb h fun H vs Q d1 k => by
  obtain ⟨v, rfl, dv⟩ := dps1 d1
  cases dv with
  | tup h hs => exact ⟨_, _, rfl, .inr ⟨_, h, (dps_len hs).symm⟩, k _ H (Ex.refl H) (.int _)⟩

theorem ed_lenS {ta : TA} {z : Str} (h : EvS K ta ρ μ [.str z]) (hl : z.length ≤ sizeLine) : EvD K (tCB (rLenD K) ta) ρ μ (.int (z.length : Int)) := ed_cb h fun H vs Q d1 k => by
  obtain ⟨v, rfl, dv⟩ := dps1 d1
  cases dv
  exact ⟨_, _, rfl, ⟨hl, rfl⟩, k _ H (Ex.refl H) (.int _)⟩
def rMaxI : List V → Hp → VK → Prop := fun xs H Q => ∃ i j, xs = [.int i, .int j] ∧ Q (.int (if j > i then j else i)) H
def rMinI : List V → Hp → VK → Prop := fun xs H Q => ∃ i j, xs = [.int i, .int j] ∧ Q (.int (if j < i then j else i)) H
theorem cr_maxI {X : Cx} (hc : X.calm = true) : CallR X (.builtin "max") rMaxI := call_max2 hc
theorem cr_minI {X : Cx} (hc : X.calm = true) : CallR X (.builtin "min") rMinI := call_min2 hc
theorem ed_maxI {ta : TA} {i j : Int} (h : EvS K ta ρ μ [.int i, .int j]) : EvD K (tCB rMaxI ta) ρ μ (.int (if j > i then j else i)) := ed_cb h fun H vs Q d1 k => by
  obtain ⟨v, w, rfl, dv, dw⟩ := dps2 d1
  cases dv
  cases dw
  exact ⟨i, j, rfl, k _ H (Ex.refl H) (.int _)⟩
theorem ed_minI {ta : TA} {i j : Int} (h : EvS K ta ρ μ [.int i, .int j]) : EvD K (tCB rMinI ta) ρ μ (.int (if j < i then j else i)) := ed_cb h fun H vs Q d1 k => by
  obtain ⟨v, w, rfl, dv, dw⟩ := dps2 d1
  cases dv
  cases dw
  exact ⟨i, j, rfl, k _ H (Ex.refl H) (.int _)⟩
end
section
variable {K : Frag} {ρ : Rho} {μ : Mu} {ta tb tc te : TE} {t u : TT} {d e : W}
/-! ### min, max, == of atoms -/
theorem ed_maxS {ta : TA} {i j : Str} (h : EvS K ta ρ μ [.str i, .str j]) : EvD K (tCB Pd.rMaxS ta) ρ μ (.str (Pd.sMax i j)) := ed_cb h fun H vs Q d1 k => by
  obtain ⟨v, w, rfl, dv, dw⟩ := dps2 d1
  cases dv
  cases dw
  exact ⟨i, j, rfl, k _ H (Ex.refl H) (.str _)⟩
theorem ed_minS {ta : TA} {i j : Str} (h : EvS K ta ρ μ [.str i, .str j]) : EvD K (tCB Pd.rMinS ta) ρ μ (.str (Pd.sMin i j)) := ed_cb h fun H vs Q d1 k => by
  obtain ⟨v, w, rfl, dv, dw⟩ := dps2 d1
  cases dv
  cases dw
  exact ⟨i, j, rfl, k _ H (Ex.refl H) (.str _)⟩
theorem ed_eqI {i j : Int} (ha : EvD K ta ρ μ (.int i)) (hb : EvD K tb ρ μ (.int j)) : EvD K (tOp rEq ta tb) ρ μ (.bl (decide (i = j))) := ed_two ha hb fun H v w Q dv dw k => by
  cases dv
  cases dw
  refine ⟨rfl, ?_⟩
  rw [show decide (V.int i = V.int j) = decide (i = j) by simp]
  exact k _ H (Ex.refl H) (.bl _)
theorem ed_neI {i j : Int} (ha : EvD K ta ρ μ (.int i)) (hb : EvD K tb ρ μ (.int j)) : EvD K (tOp rNe ta tb) ρ μ (.bl (!decide (i = j))) := ed_two ha hb fun H v w Q dv dw k => by
  cases dv
  cases dw
  refine ⟨rfl, ?_⟩
  rw [show decide (V.int i = V.int j) = decide (i = j) by simp]
  exact k _ H (Ex.refl H) (.bl _)
theorem ed_eqS {i j : Str} (ha : EvD K ta ρ μ (.str i)) (hb : EvD K tb ρ μ (.str j)) : EvD K (tOp rEq ta tb) ρ μ (.bl (decide (i = j))) := ed_two ha hb fun H v w Q dv dw k => by
  cases dv
  cases dw
  refine ⟨rfl, ?_⟩
  rw [show decide (V.str i = V.str j) = decide (i = j) by simp]
  exact k _ H (Ex.refl H) (.bl _)
theorem ed_neS {i j : Str} (ha : EvD K ta ρ μ (.str i)) (hb : EvD K tb ρ μ (.str j)) : EvD K (tOp rNe ta tb) ρ μ (.bl (!decide (i = j))) := ed_two ha hb fun H v w Q dv dw k => by
  cases dv
  cases dw
  refine ⟨rfl, ?_⟩
  rw [show decide (V.str i = V.str j) = decide (i = j) by simp]
  exact k _ H (Ex.refl H) (.bl _)
theorem ed_eqB {i j : Bool} (ha : EvD K ta ρ μ (.bl i)) (hb : EvD K tb ρ μ (.bl j)) : EvD K (tOp rEq ta tb) ρ μ (.bl (decide (i = j))) := ed_two ha hb fun H v w Q dv dw k => by
  cases dv
  cases dw
  refine ⟨rfl, ?_⟩
  rw [show decide (V.bl i = V.bl j) = decide (i = j) by simp]
  exact k _ H (Ex.refl H) (.bl _)
theorem ed_neB {i j : Bool} (ha : EvD K ta ρ μ (.bl i)) (hb : EvD K tb ρ μ (.bl j)) : EvD K (tOp rNe ta tb) ρ μ (.bl (!decide (i = j))) := ed_two ha hb fun H v w Q dv dw k => by
  cases dv
  cases dw
  refine ⟨rfl, ?_⟩
  rw [show decide (V.bl i = V.bl j) = decide (i = j) by simp]
  exact k _ H (Ex.refl H) (.bl _)
/-! ### tests -/
theorem ec_test {b : Bool} (h : EvD K ta ρ μ (.bl b)) : EvC K (tTest ta) ρ μ b := fun σ H g Q q => h σ H g _ fun v H1 e1 dv => by
  cases dv
  exact ⟨b, rfl, q H1 e1⟩
theorem ec_and {a b : Bool} (h1 : EvC K t ρ μ a) (h2 : a = true → EvC K u ρ μ b) : EvC K (tAnd t u) ρ μ (a && b) := fun σ H g Q q => h1 σ H g _ fun H1 e1 => by
  cases a with
  | true => exact iteT (h2 rfl σ H1 (g.mono e1) Q fun H2 e2 => q H2 (e1.trans e2))
  | false => exact iteF (q H1 e1)
theorem ec_or {a b : Bool} (h1 : EvC K t ρ μ a) (h2 : a = false → EvC K u ρ μ b) : EvC K (tOr t u) ρ μ (a || b) := fun σ H g Q q => h1 σ H g _ fun H1 e1 => by
  cases a with
  | true => exact iteT (q H1 e1)
  | false => exact iteF (h2 rfl σ H1 (g.mono e1) Q fun H2 e2 => q H2 (e1.trans e2))
theorem ec_not {a : Bool} (h1 : EvC K t ρ μ a) : EvC K (tNot t) ρ μ (!a) := fun σ H g Q q => h1 σ H g _ fun H1 e1 => q H1 e1
/-! ### lists of the store -/
def isL (μ : Mu) (a : Addr) (ws : List W) : Prop := μ a = some (.ls ws) ∨ μ a = some (.rl ws)
theorem isL.sq {H : Hp} {a : Addr} {ws : List W} (l : isL μ a ws) (m : Mem K H μ) : ∃ vs, SqL K H a vs ∧ RwAll K H vs ws := by
  rcases l with l | l
  · obtain ⟨vs, h, r⟩ := m a _ l
    exact ⟨vs, .inl (.inl h), r⟩
  · obtain ⟨vs, h, r⟩ := m a _ l
    exact ⟨vs, .inl h, r⟩
theorem ed_twom {r : R2} {x y z : W} (ha : EvD K ta ρ μ x) (hb : EvD K tb ρ μ y)
    (hr : ∀ (H : Hp) (v w : V) (Q : VK), Mem K H μ → Rw K H v x → Rw K H w y → (∀ u H2, Ex H H2 → Rw K H2 u z → Q u H2) → r v w H Q) : EvD K (tOp r ta tb) ρ μ z := fun σ H g Q q =>
  ha σ H g _ fun v H1 e1 d1 => hb σ H1 (g.mono e1) _ fun w H2 e2 d2 => hr H2 v w Q (g.2.ex (e1.trans e2)) (dpm e2 d1) d2 fun u H3 e3 d3 => q u H3 ((e1.trans e2).trans e3) d3
theorem ed_ixL {a : Addr} {xs : List W} {i : Int} {x : W} (ha : EvD K ta ρ μ (.ref a)) (hb : EvD K tb ρ μ (.int i)) (l : isL μ a xs) (hi : 0 ≤ i) (hx : xs[i.toNat]? = some x) : EvD K (tOp (rIxL K) ta tb) ρ μ x := ed_twom ha hb fun H v w Q m dv dw k => by
  cases dw
  cases dv
  obtain ⟨vs, h, hs⟩ := l.sq m
  obtain ⟨v, e1, e2⟩ := dps_at i.toNat hs hx
  exact ⟨_, _, i, v, rfl, rfl, h, at_of (by omega) e1, k v H (Ex.refl H) e2⟩
/-- an item of a list that is written there -/
theorem ed_pick {ta : TA} {xs : List W} {i : Int} {x : W} (h : EvS K ta ρ μ xs) (hb : EvD K tb ρ μ (.int i)) (hl : xs.length ≤ 100000) (hi : 0 ≤ i) (hx : xs[i.toNat]? = some x) : EvD K (tOp (rIxL K) (tLst ta) tb) ρ μ x := fun σ H g Q q =>
  h σ H g _ fun vs H1 e1 d1 => ⟨sz_of (by rw [dps_len d1]; exact hl), fun p hp => hb σ _ (g.mono (e1.trans (Ex.new hp))) _ fun w H2 e2 dw => by
    cases dw
    obtain ⟨v, f1, f2⟩ := dps_at i.toNat d1 hx
    exact ⟨p, vs, i, v, rfl, rfl, sq_of (e2 _ _ upd_same), at_of (by omega) f1, q v H2 ((e1.trans (Ex.new hp)).trans e2) (dpm ((Ex.new hp).trans e2) f2)⟩⟩
theorem ed_lenL {ta : TA} {a : Addr} {xs : List W} (h : EvS K ta ρ μ [.ref a]) (l : isL μ a xs) : EvD K (tCB (rLenD K) ta) ρ μ (.int (xs.length : Int)) := ed_cbm h fun H vs Q m d1 k => by
  obtain ⟨v, rfl, dv⟩ := dps1 d1
  cases dv
  obtain ⟨vs, h, hs⟩ := l.sq m
  exact ⟨_, _, rfl, .inl ⟨_, h, (dps_len hs).symm⟩, k _ H (Ex.refl H) (.int _)⟩
/-! ### isinstance -/
inductive Ty (μ : Mu) : W → String → Prop
  | non : Ty μ .non "NoneType"
  | bl {b : Bool} : Ty μ (.bl b) "bool"
  | int {i : Int} : Ty μ (.int i) "int"
  | str {x : Str} : Ty μ (.str x) "str"
  | tup {ws : List W} : Ty μ (.tup ws) "tuple"
  | lst {a : Addr} {ws : List W} (l : isL μ a ws) : Ty μ (.ref a) "list"
  | dct {a : Addr} {kvs : List (Key × W)} (l : μ a = some (.dk kvs)) : Ty μ (.ref a) "dict"
theorem tyx_of {H : Hp} {v : V} {T : String} (m : Mem K H μ) (h : Rw K H v d) (y : Ty μ d T) : TyX K H v (.type T) := by
  cases y with
  | non => cases h; exact .base .non
  | bl => cases h; exact .base (.bl _)
  | int => cases h; exact .base (.int _)
  | str => cases h; exact .base (.str _)
  | tup =>
    cases h with
    | tup h hs =>
      rcases h with (h | ⟨o, h⟩) | ⟨o, its, n, h, c, _⟩
      · exact .base (.tup h)
      · exact .fTuple h
      · exact .kTuple h c
  | lst l =>
    cases h
    rcases l with l | l
    · obtain ⟨vs, h, _⟩ := m _ _ l
      exact .base (.lst h)
    · obtain ⟨vs, h, _⟩ := m _ _ l
      rcases h with h | ⟨o, h⟩
      · exact .base (.lst h)
      · exact .base (.frz h)
  | dct l =>
    cases h
    obtain ⟨vs, h, _⟩ := m _ _ l
    exact .base (.dK h)
theorem ed_isi {n T : String} {x : W} {b : Bool} (h : EvD K ta ρ μ x) (y : Ty μ x T) (hb : kitB T n = some b) : EvD K (tCB (rIsi K) (tCons ta (tCons (tC (.ty n)) tNil))) ρ μ (.bl b) := fun σ H g Q q =>
  h σ H g _ fun v H1 e1 d1 => ⟨v, .ty n, _, _, b, rfl, .ty n, tyx_of (g.2.ex e1) d1 y, kit_ty hb, q _ H1 e1 (.bl b)⟩
/-! ### == of data -/
mutual
inductive Dw (μ : Mu) : W → PyData → Prop
  | non : Dw μ .non .none
  | bl {b : Bool} : Dw μ (.bl b) (.bool b)
  | int {i : Int} : Dw μ (.int i) (.int i)
  | str {x : Str} : Dw μ (.str x) (.str x)
  | tup {ws : List W} {ds : List PyData} (h : DwAll μ ws ds) : Dw μ (.tup ws) (.tuple ds)
  | lst {a : Addr} {ws : List W} {ds : List PyData} (l : isL μ a ws) (h : DwAll μ ws ds) : Dw μ (.ref a) (.list ds)
inductive DwAll (μ : Mu) : List W → List PyData → Prop
  | nil : DwAll μ [] []
  | cons {w : W} {ws : List W} {d : PyData} {ds : List PyData} (h : Dw μ w d) (hs : DwAll μ ws ds) : DwAll μ (w :: ws) (d :: ds)
end
mutual
theorem dp_of {H : Hp} (m : Mem K H μ) : ∀ {w : W} {d : PyData} {v : V}, Dw μ w d → Rw K H v w → Dp K H v d
  | _, _, _, .non, h => by cases h; exact .non
  | _, _, _, .bl, h => by cases h; exact .bl _
  | _, _, _, .int, h => by cases h; exact .int _
  | _, _, _, .str, h => by cases h; exact .str _
  | _, _, _, .tup z, h => by
    cases h with
    | tup h hs => exact .tup h (dps_of m z hs)
  | _, _, _, .lst l z, h => by
    cases h
    obtain ⟨vs, h, hs⟩ := l.sq m
    exact .lst h (dps_of m z hs)
theorem dps_of {H : Hp} (m : Mem K H μ) : ∀ {ws : List W} {ds : List PyData} {vs : List V}, DwAll μ ws ds → RwAll K H vs ws → DpAll K H vs ds
  | _, _, _, .nil, h => by cases h; exact .nil
  | _, _, _, .cons z zs, h => by
    cases h with
    | cons h hs => exact .cons (dp_of m z h) (dps_of m zs hs)
end
theorem ed_eq {x y : W} {dx dy : PyData} (ha : EvD K ta ρ μ x) (hb : EvD K tb ρ μ y) (zx : Dw μ x dx) (zy : Dw μ y dy) (hx : SeqAt.shaped dx = true) (hy : SeqAt.shaped dy = true) : EvD K (tOp (rEqD K) ta tb) ρ μ (.bl (PyData.eqv dx dy)) :=
  ed_twom ha hb fun H v w Q m dv dw k => ⟨dx, dy, dp_of m zx dv, dp_of m zy dw, hx, hy, k _ H (Ex.refl H) (.bl _)⟩
theorem ed_ne {x y : W} {dx dy : PyData} (ha : EvD K ta ρ μ x) (hb : EvD K tb ρ μ y) (zx : Dw μ x dx) (zy : Dw μ y dy) (hx : SeqAt.shaped dx = true) (hy : SeqAt.shaped dy = true) : EvD K (tOp (rNeD K) ta tb) ρ μ (.bl (!PyData.eqv dx dy)) :=
  ed_twom ha hb fun H v w Q m dv dw k => ⟨dx, dy, dp_of m zx dv, dp_of m zy dw, hx, hy, k _ H (Ex.refl H) (.bl _)⟩
/-! ### dicts of the store -/
def kW : Key → W
  | .inl i => .int i
  | .inr x => .str x
theorem kv_of {H : Hp} {v : V} {k : Key} (h : Rw K H v (kW k)) : v = kV k := by
  cases k <;> (cases h; rfl)
def valW (kvs : List (Key × W)) (k : Key) : Option W := (kvs.find? fun kv => decide (kv.1 = k)).map (·.2)
def putW (kvs : List (Key × W)) (k : Key) (v : W) : List (Key × W) :=
  if (kvs.any fun kv => decide (kv.1 = k)) = true then kvs.map (fun kv => if kv.1 = k then (kv.1, v) else kv) else kvs ++ [(k, v)]
def dropW (kvs : List (Key × W)) (k : Key) : List (Key × W) := kvs.filter fun kv => decide (kv.1 ≠ k)
theorem rwp_any {H : Hp} {k : Key} {kv : List (Key × V)} {kw : List (Key × W)} (h : RwP K H kv kw) : (kv.any fun p => decide (p.1 = k)) = (kw.any fun p => decide (p.1 = k)) := by
  induction h with
  | nil => rfl
  | cons a b ih => rw [List.any_cons, List.any_cons, ih, a.1]
theorem rwp_val {H : Hp} {k : Key} {kv : List (Key × V)} {kw : List (Key × W)} (h : RwP K H kv kw) : (valW kw k = none → valV kv k = none) ∧ ∀ w, valW kw k = some w → ∃ v, valV kv k = some v ∧ Rw K H v w := by
  induction h with
  | nil => exact ⟨fun _ => rfl, fun w e => by cases e⟩
  | @cons p q r s a b ih =>
    unfold valW valV at *
    rw [List.find?_cons, List.find?_cons, a.1]
    cases hd : decide (q.1 = k) with
    | true =>
      refine ⟨fun e => (by cases e), fun w e => ?_⟩
      cases e
      exact ⟨_, rfl, a.2⟩
    | false => exact ih
theorem rwp_map {H : Hp} {k : Key} {x : V} {y : W} (hv : Rw K H x y) {kv : List (Key × V)} {kw : List (Key × W)} (h : RwP K H kv kw) : RwP K H (kv.map fun p => if p.1 = k then (p.1, x) else p) (kw.map fun p => if p.1 = k then (p.1, y) else p) := by
  induction h with
  | nil => exact .nil
  | @cons p q r s a b ih =>
    obtain ⟨pk, pv⟩ := p
    obtain ⟨qk, qv⟩ := q
    obtain ⟨a1, a2⟩ := a
    have a1 : pk = qk := a1
    subst a1
    refine .cons ?_ ih
    show (if pk = k then (pk, x) else (pk, pv)).1 = (if pk = k then (pk, y) else (pk, qv)).1 ∧ Rw K H (if pk = k then (pk, x) else (pk, pv)).2 (if pk = k then (pk, y) else (pk, qv)).2
    by_cases c : pk = k
    · rw [if_pos c, if_pos c]
      exact ⟨rfl, hv⟩
    · rw [if_neg c, if_neg c]
      exact ⟨rfl, a2⟩
theorem rwp_snoc {H : Hp} {k : Key} {x : V} {y : W} (hv : Rw K H x y) {kv : List (Key × V)} {kw : List (Key × W)} (h : RwP K H kv kw) : RwP K H (kv ++ [(k, x)]) (kw ++ [(k, y)]) := by
  induction h with
  | nil => exact .cons ⟨rfl, hv⟩ .nil
  | cons a b ih => exact .cons a ih
theorem rwp_put {H : Hp} {k : Key} {x : V} {y : W} (hv : Rw K H x y) {kv : List (Key × V)} {kw : List (Key × W)} (h : RwP K H kv kw) : RwP K H (putK kv k x) (putW kw k y) := by
  unfold putK putW
  rw [rwp_any h]
  split
  · exact rwp_map hv h
  · exact rwp_snoc hv h
theorem rwp_drop {H : Hp} {k : Key} {kv : List (Key × V)} {kw : List (Key × W)} (h : RwP K H kv kw) : RwP K H (dropK kv k) (dropW kw k) := by
  unfold dropK dropW
  induction h with
  | nil => exact .nil
  | @cons p q r s a b ih =>
    rw [List.filter_cons, List.filter_cons, a.1]
    split
    · exact .cons a ih
    · exact ih
theorem rwp_len {H : Hp} {κ : Type} {kv : List (κ × V)} {kw : List (κ × W)} (h : RwP K H kv kw) : kv.length = kw.length := Paired.length h
theorem ed_dget {a : Addr} {kvs : List (Key × W)} {k : Key} {x : W} (ha : EvD K ta ρ μ (.ref a)) (hb : EvD K tb ρ μ (kW k)) (l : μ a = some (.dk kvs)) (hx : valW kvs k = some x) : EvD K (tDGet ta tb) ρ μ x := fun σ H g Q q =>
  ha σ H g _ fun v H1 e1 d1 => hb σ H1 (g.mono e1) _ fun w H2 e2 d2 => by
    cases d1
    rw [kv_of d2]
    obtain ⟨kv, h, r⟩ := g.2.ex (e1.trans e2) a _ l
    obtain ⟨u, f1, f2⟩ := (rwp_val r).2 x hx
    refine ⟨a, u, rfl, ?_, q u H2 (e1.trans e2) f2⟩
    rw [← f1]
    exact DGet.k h
theorem ed_din {a : Addr} {kvs : List (Key × W)} {k : Key} (hb : EvD K tb ρ μ (kW k)) (ha : EvD K ta ρ μ (.ref a)) (l : μ a = some (.dk kvs)) : EvD K (tDIn tb ta) ρ μ (.bl (valW kvs k).isSome) := fun σ H g Q q =>
  hb σ H g _ fun v H1 e1 d1 => ha σ H1 (g.mono e1) _ fun w H2 e2 d2 => by
    cases d2
    rw [kv_of d1]
    obtain ⟨kv, h, r⟩ := g.2.ex (e1.trans e2) a _ l
    refine ⟨a, _, rfl, DGet.k h, ?_⟩
    have e : (valV kv k).isSome = (valW kvs k).isSome := by
      cases f : valW kvs k with
      | none => rw [(rwp_val r).1 f] <;> rfl
      | some w =>
        obtain ⟨u, f1, _⟩ := (rwp_val r).2 w f
        rw [f1] <;> rfl
    rw [e]
    exact q _ H2 (e1.trans e2) (.bl _)
theorem ed_dnotin {a : Addr} {kvs : List (Key × W)} {k : Key} (hb : EvD K tb ρ μ (kW k)) (ha : EvD K ta ρ μ (.ref a)) (l : μ a = some (.dk kvs)) : EvD K (tDNotIn tb ta) ρ μ (.bl (!(valW kvs k).isSome)) := fun σ H g Q q =>
  hb σ H g _ fun v H1 e1 d1 => ha σ H1 (g.mono e1) _ fun w H2 e2 d2 => by
    cases d2
    rw [kv_of d1]
    obtain ⟨kv, h, r⟩ := g.2.ex (e1.trans e2) a _ l
    refine ⟨a, _, rfl, DGet.k h, ?_⟩
    have e : (valV kv k).isSome = (valW kvs k).isSome := by
      cases f : valW kvs k with
      | none => rw [(rwp_val r).1 f] <;> rfl
      | some w =>
        obtain ⟨u, f1, _⟩ := (rwp_val r).2 w f
        rw [f1] <;> rfl
    rw [e]
    exact q _ H2 (e1.trans e2) (.bl _)
end
/-! ### statements: N what is known where they end, R what they return -/
def Run (K : Frag) (ts : TS) (ρ : Rho) (μ : Mu) (N : Rho → Prop) (R : W → Prop) : Prop := ∀ (D : Ends) (σ : L2.St) (H : Hp), S K H σ ρ μ →
  (∀ ρ' σ' H', N ρ' → Ex H H' → S K H' σ' ρ' μ → D.nx σ' H') → (∀ d v H', R d → Ex H H' → Rw K H' v d → D.rt v H') → ts D σ H
section
variable {K : Frag} {ρ : Rho} {μ : Mu} {te : TE} {t : TT} {ta : TA} {t1 t2 tb : TS} {N M : Rho → Prop} {R : W → Prop} {d : W}
theorem run_seq (h1 : Run K t1 ρ μ M R) (h2 : ∀ ρ', M ρ' → Run K t2 ρ' μ N R) : Run K (tSeq t1 t2) ρ μ N R := fun D σ H g hN hR =>
  h1 { D with nx := t2 D } σ H g (fun ρ' σ' H' m e1 g1 => h2 ρ' m D σ' H' g1 (fun ρ2 σ2 H2 n e2 g2 => hN ρ2 σ2 H2 n (e1.trans e2) g2) fun d v H2 r e2 dv => hR d v H2 r (e1.trans e2) dv) hR
theorem run_next (h : N ρ) : Run K tNext ρ μ N R := fun D σ H g hN _ => hN ρ σ H h (Ex.refl H) g
theorem run_ret (h : EvD K te ρ μ d) (hr : R d) : Run K (tRet te) ρ μ N R := fun D σ H g _ hR => h σ H g _ fun v H1 e1 d1 => hR d v H1 hr e1 d1
theorem run_asg {i : Nat} (h : EvD K te ρ μ d) (hn : N (ρ.set i (some d))) : Run K (tAsg te (gName i)) ρ μ N R := fun D σ H g hN _ => h σ H g _ fun v H1 e1 d1 => hN _ _ H1 hn e1 ((g.mono e1).put i d1)
/-- x = e, and what follows -/
theorem run_set {i : Nat} (h : EvD K te ρ μ d) (k : Run K t2 (ρ.set i (some d)) μ N R) : Run K (tSeq (tAsg te (gName i)) t2) ρ μ N R := run_seq (M := fun ρ' => ρ' = ρ.set i (some d)) (run_asg h rfl) fun ρ' e => e ▸ k
theorem run_if {b : Bool} (h : EvC K t ρ μ b) (h1 : b = true → Run K t1 ρ μ N R) (h2 : b = false → Run K t2 ρ μ N R) : Run K (tIfS t t1 t2) ρ μ N R := fun D σ H g hN hR => h σ H g _ fun H1 e1 => by
  cases b with
  | true => exact iteT (h1 rfl D σ H1 (g.mono e1) (fun ρ' σ' H' n e2 g2 => hN ρ' σ' H' n (e1.trans e2) g2) fun d v H' r e2 dv => hR d v H' r (e1.trans e2) dv)
  | false => exact iteF (h2 rfl D σ H1 (g.mono e1) (fun ρ' σ' H' n e2 g2 => hN ρ' σ' H' n (e1.trans e2) g2) fun d v H' r e2 dv => hR d v H' r (e1.trans e2) dv)
/-- an if whose branches are followed by the same rest -/
theorem run_ifs {b : Bool} (h : EvC K t ρ μ b) (h1 : b = true → Run K (tSeq t1 tb) ρ μ N R) (h2 : b = false → Run K (tSeq t2 tb) ρ μ N R) : Run K (tSeq (tIfS t t1 t2) tb) ρ μ N R := fun D σ H g hN hR => h σ H g _ fun H1 e1 => by
  cases b with
  | true => exact iteT (h1 rfl D σ H1 (g.mono e1) (fun ρ' σ' H' n e2 g2 => hN ρ' σ' H' n (e1.trans e2) g2) fun d v H' r e2 dv => hR d v H' r (e1.trans e2) dv)
  | false => exact iteF (h2 rfl D σ H1 (g.mono e1) (fun ρ' σ' H' n e2 g2 => hN ρ' σ' H' n (e1.trans e2) g2) fun d v H' r e2 dv => hR d v H' r (e1.trans e2) dv)
theorem run_nexts (k : Run K t2 ρ μ N R) : Run K (tSeq tNext t2) ρ μ N R := fun D σ H g hN hR => k D σ H g hN hR
theorem run_retS (h : EvD K te ρ μ d) (hr : R d) : Run K (tSeq (tRet te) t2) ρ μ N R := fun D σ H g _ hR => h σ H g _ fun v H1 e1 d1 => hR d v H1 hr e1 d1
theorem run_assoc {t3 : TS} (h : Run K (tSeq t1 (tSeq t2 t3)) ρ μ N R) : Run K (tSeq (tSeq t1 t2) t3) ρ μ N R := h
/-- a, b = e -/
theorem run_pair {i j : Nat} {x y : W} (h : EvD K te ρ μ (.tup [x, y])) (k : Run K t2 ((ρ.set i (some x)).set j (some y)) μ N R) :
    Run K (tSeq (tAsg te (gTup K 2 (gCons (gName i) (gCons (gName j) gNil)))) t2) ρ μ N R := fun D σ H g hN hR => h σ H g _ fun v H1 e1 d1 => by
  cases d1 with
  | tup hq hs =>
    obtain ⟨v, w, rfl, dv, dw⟩ := dps2 hs
    refine ⟨_, _, rfl, hq, rfl, v, [w], rfl, w, [], rfl, rfl, ?_⟩
    exact k D _ H1 (((g.mono e1).put i dv).put j dw) (fun ρ' σ' H' n e2 g2 => hN ρ' σ' H' n (e1.trans e2) g2) fun d v H' r e2 dv => hR d v H' r (e1.trans e2) dv
/-- a, b = e, f -/
theorem run_par {i j : Nat} {x y : W} (h : EvS K ta ρ μ [x, y]) (k : Run K t2 ((ρ.set i (some x)).set j (some y)) μ N R) : Run K (tSeq (tPar i j ta) t2) ρ μ N R := fun D σ H g hN hR => h σ H g _ fun vs H1 e1 d1 => by
  obtain ⟨v, w, rfl, dv, dw⟩ := dps2 d1
  exact ⟨v, w, rfl, k D _ H1 (((g.mono e1).put i dv).put j dw) (fun ρ' σ' H' n e2 g2 => hN ρ' σ' H' n (e1.trans e2) g2) fun d v H' r e2 dv => hR d v H' r (e1.trans e2) dv⟩
/-! loops: I the word, by the turn -/
theorem run_range {j : Nat} {n : Int} (h : EvS K ta ρ μ [.int n]) (hn : -(2 ^ 62) ≤ n ∧ n < 2 ^ 62) (I : Nat → Rho → Prop) (h0 : I 0 ρ)
    (hs : ∀ (i : Nat) ρ', (i : Int) < n → I i ρ' → Run K tb (ρ'.set j (some (.int (i : Int)))) μ (I (i + 1)) R) (hd : ∀ ρ', I n.toNat ρ' → Run K t2 ρ' μ N R) : Run K (tSeq (tFor (iRng1 ta) (gName j) tb) t2) ρ μ N R := fun D σ H g hN hR =>
  h σ H g _ fun vs H1 e1 d1 => by
    obtain ⟨v, rfl, dv⟩ := dps1 d1
    cases dv
    refine ⟨n, rfl, hn.1, hn.2, for_range (lo := 0) (n := n.toNat) (fun i σ' H' => ∃ ρ', I i ρ' ∧ Ex H H' ∧ S K H' σ' ρ' μ) ⟨ρ, h0, e1, g.mono e1⟩ (fun i σ' H' hi w => ?_) fun σ' H' w => ?_⟩
    · obtain ⟨ρ', p, e2, g2⟩ := w
      have q := hs i ρ' (by omega) p
      show tb _ (σ'.set j (some (.int ((0 : Int) + (i : Int))))) H'
      rw [Int.zero_add]
      exact q _ _ H' (g2.put j (.int _)) (fun ρ3 σ3 H3 p3 e3 g3 => ⟨ρ3, p3, e2.trans e3, g3⟩) fun d v H3 r e3 dv => hR d v H3 r (e2.trans e3) dv
    · obtain ⟨ρ', p, e2, g2⟩ := w
      exact hd ρ' p D σ' H' g2 (fun ρ3 σ3 H3 p3 e3 g3 => hN ρ3 σ3 H3 p3 (e2.trans e3) g3) fun d v H3 r e3 dv => hR d v H3 r (e2.trans e3) dv
theorem run_forT {j : Nat} {xs : List W} (h : EvD K te ρ μ (.tup xs)) (I : Nat → Rho → Prop) (h0 : I 0 ρ)
    (hs : ∀ (i : Nat) x ρ', xs[i]? = some x → I i ρ' → Run K tb (ρ'.set j (some x)) μ (I (i + 1)) R) (hd : ∀ ρ', I xs.length ρ' → Run K t2 ρ' μ N R) : Run K (tSeq (tFor (iTup K te) (gName j) tb) t2) ρ μ N R := fun D σ H g hN hR =>
  h σ H g _ fun v H1 e1 d1 => by
    cases d1 with
    | tup hq hds =>
      refine ⟨_, rfl, ⟨_, hq⟩, for_tup (K := K) (fun i σ' H' => ∃ ρ', I i ρ' ∧ Ex H1 H' ∧ S K H' σ' ρ' μ) ⟨ρ, h0, Ex.refl _, g.mono e1⟩ (fun i σ' H' _ w => ex_t w.choose_spec.2.1 hq) (fun i v σ' H' hv w => ?_) fun σ' H' w => ?_⟩
      · obtain ⟨ρ', p, e2, g2⟩ := w
        obtain ⟨x, hx, dx⟩ := dps_to i hds hv
        exact hs i x ρ' hx p _ _ H' (g2.put j (dpm e2 dx)) (fun ρ3 σ3 H3 p3 e3 g3 => ⟨ρ3, p3, e2.trans e3, g3⟩) fun d v H3 r e3 dv => hR d v H3 r ((e1.trans e2).trans e3) dv
      · obtain ⟨ρ', p, e2, g2⟩ := w
        rw [dps_len hds] at p
        exact hd ρ' p D σ' H' g2 (fun ρ3 σ3 H3 p3 e3 g3 => hN ρ3 σ3 H3 p3 ((e1.trans e2).trans e3) g3) fun d v H3 r e3 dv => hR d v H3 r ((e1.trans e2).trans e3) dv
theorem run_forL {j : Nat} {a : Addr} {xs : List W} (h : EvD K te ρ μ (.ref a)) (l : isL μ a xs) (I : Nat → Rho → Prop) (h0 : I 0 ρ)
    (hs : ∀ (i : Nat) x ρ', xs[i]? = some x → I i ρ' → Run K tb (ρ'.set j (some x)) μ (I (i + 1)) R) (hd : ∀ ρ', I xs.length ρ' → Run K t2 ρ' μ N R) : Run K (tSeq (tFor (iList K te) (gName j) tb) t2) ρ μ N R := fun D σ H g hN hR =>
  h σ H g _ fun v H1 e1 d1 => by
    cases d1
    obtain ⟨vs, hq, hds⟩ := l.sq (g.2.ex e1)
    · refine ⟨_, rfl, ⟨_, hq⟩, for_list (K := K) (fun i σ' H' => ∃ ρ', I i ρ' ∧ Ex H1 H' ∧ S K H' σ' ρ' μ) ⟨ρ, h0, Ex.refl _, g.mono e1⟩ (fun i σ' H' _ w => ex_l w.choose_spec.2.1 hq) (fun i v σ' H' hv w => ?_) fun σ' H' w => ?_⟩
      · obtain ⟨ρ', p, e2, g2⟩ := w
        obtain ⟨x, hx, dx⟩ := dps_to i hds hv
        exact hs i x ρ' hx p _ _ H' (g2.put j (dpm e2 dx)) (fun ρ3 σ3 H3 p3 e3 g3 => ⟨ρ3, p3, e2.trans e3, g3⟩) fun d v H3 r e3 dv => hR d v H3 r ((e1.trans e2).trans e3) dv
      · obtain ⟨ρ', p, e2, g2⟩ := w
        rw [dps_len hds] at p
        exact hd ρ' p D σ' H' g2 (fun ρ3 σ3 H3 p3 e3 g3 => hN ρ3 σ3 H3 p3 ((e1.trans e2).trans e3) g3) fun d v H3 r e3 dv => hR d v H3 r ((e1.trans e2).trans e3) dv
theorem run_forS {j : Nat} {z : Str} (h : EvD K te ρ μ (.str z)) (I : Nat → Rho → Prop) (h0 : I 0 ρ)
    (hs : ∀ (i : Nat) c ρ', z.cps.toList[i]? = some c → I i ρ' → Run K tb (ρ'.set j (some (.str ⟨#[c]⟩))) μ (I (i + 1)) R) (hd : ∀ ρ', I z.cps.toList.length ρ' → Run K t2 ρ' μ N R) : Run K (tSeq (tFor (iStr te) (gName j) tb) t2) ρ μ N R := fun D σ H g hN hR =>
  h σ H g _ fun v H1 e1 d1 => by
    cases d1
    refine ⟨z, rfl, for_it (walk_str (z := z)) (fun i σ' H' => ∃ ρ', I i ρ' ∧ Ex H H' ∧ S K H' σ' ρ' μ) ⟨ρ, h0, e1, g.mono e1⟩ (fun _ _ _ _ _ => trivial) (fun i v σ' H' H2 hi w y => ?_) fun σ' H' w => ?_⟩
    · obtain ⟨ρ', p, e2, g2⟩ := w
      obtain ⟨rfl, c, hc, rfl⟩ := y
      exact hs i c ρ' (by rw [Array.getElem?_toList]; exact hc) p _ _ _ (g2.put j (.str _)) (fun ρ3 σ3 H3 p3 e3 g3 => ⟨ρ3, p3, e2.trans e3, g3⟩) fun d v H3 r e3 dv => hR d v H3 r (e2.trans e3) dv
    · obtain ⟨ρ', p, e2, g2⟩ := w
      exact hd ρ' (by rw [Array.length_toList]; exact p) D σ' H' g2 (fun ρ3 σ3 H3 p3 e3 g3 => hN ρ3 σ3 H3 p3 (e2.trans e3) g3) fun d v H3 r e3 dv => hR d v H3 r (e2.trans e3) dv
end

section
variable {K : Frag} {ρ : Rho} {μ : Mu} {te tl : TE} {t : TT} {ta : TA} {t1 t2 tb : TS} {N M : Rho → Prop} {R : W → Prop} {d : W}
/-- a, b, c = e -/
theorem run_triple {i j l : Nat} {x y z : W} (h : EvD K te ρ μ (.tup [x, y, z])) (k : Run K t2 (((ρ.set i (some x)).set j (some y)).set l (some z)) μ N R) :
    Run K (tSeq (tAsg te (gTup K 3 (gCons (gName i) (gCons (gName j) (gCons (gName l) gNil))))) t2) ρ μ N R := fun D σ H g hN hR => h σ H g _ fun v H1 e1 d1 => by
  cases d1 with
  | tup hq hs =>
    obtain ⟨v, w, u, rfl, dv, dw, du⟩ := dps3 hs
    refine ⟨_, _, rfl, hq, rfl, v, [w, u], rfl, w, [u], rfl, u, [], rfl, rfl, ?_⟩
    exact k D _ H1 ((((g.mono e1).put i dv).put j dw).put l du) (fun ρ' σ' H' n e2 g2 => hN ρ' σ' H' n (e1.trans e2) g2) fun d v H' r e2 dv => hR d v H' r (e1.trans e2) dv
theorem run_post {ts : TS} (h : Run K ts ρ μ M R) (q : ∀ ρ', M ρ' → N ρ') : Run K ts ρ μ N R := fun D σ H g hN hR => h D σ H g (fun ρ' σ' H' m => hN ρ' σ' H' (q ρ' m)) hR
end
/-! ### statements that change the store; E what is wished of what is raised -/
def RunM (K : Frag) (E : XK) (ts : TS) (ρ : Rho) (μ : Mu) (N : Rho → Mu → Prop) (R : W → Mu → Prop) (X : Value → Mu → Prop) : Prop := ∀ (D : Ends) (σ : L2.St) (H : Hp), S K H σ ρ μ →
  (∀ ρ' μ' σ' H', N ρ' μ' → Tk H H' → S K H' σ' ρ' μ' → D.nx σ' H') → (∀ w μ' v H', R w μ' → Tk H H' → Mem K H' μ' → Rw K H' v w → D.rt v H') → (∀ c μ' H', X c μ' → Tk H H' → Mem K H' μ' → E c none H') → ts D σ H
/-- an expression that may change the store or raise -/
def EvW (K : Frag) (E : XK) (te : TE) (ρ : Rho) (μ : Mu) (P : W → Mu → Prop) (X : Value → Mu → Prop) : Prop := ∀ (σ : L2.St) (H : Hp), S K H σ ρ μ → ∀ Q : VK, (∀ w μ' v H', P w μ' → Tk H H' → S K H' σ ρ μ' → Rw K H' v w → Q v H') →
  (∀ c μ' H', X c μ' → Tk H H' → Mem K H' μ' → E c none H') → te σ H Q
section
variable {K : Frag} {E : XK} {ρ : Rho} {μ : Mu} {te tl td ty tv : TE} {t : TT} {ta : TA} {t1 t2 tb : TS} {N M : Rho → Mu → Prop} {R : W → Mu → Prop} {X : Value → Mu → Prop} {d : W} {P : W → Mu → Prop}
theorem ew_pure (h : EvD K te ρ μ d) (p : P d μ) : EvW K E te ρ μ P X := fun σ H g Q q _ => h σ H g _ fun v H1 e1 d1 => q d μ v H1 p (Tk.ex e1) (g.mono e1) d1
theorem rm_of {N : Rho → Prop} {R : W → Prop} {N' : Rho → Mu → Prop} {R' : W → Mu → Prop} (h : Run K t1 ρ μ N R) (hn : ∀ ρ', N ρ' → N' ρ' μ) (hr : ∀ w, R w → R' w μ) : RunM K E t1 ρ μ N' R' X := fun D σ H g hN hR _ =>
  h D σ H g (fun ρ' σ' H' n e g' => hN ρ' μ σ' H' (hn _ n) (Tk.ex e) g') fun w v H' r e dv => hR w μ v H' (hr _ r) (Tk.ex e) (g.2.ex e) dv
theorem rm_seq (h1 : RunM K E t1 ρ μ M R X) (h2 : ∀ ρ' μ', M ρ' μ' → RunM K E t2 ρ' μ' N R X) : RunM K E (tSeq t1 t2) ρ μ N R X := fun D σ H g hN hR hX =>
  h1 { D with nx := t2 D } σ H g (fun ρ' μ' σ' H' m e1 g1 => h2 ρ' μ' m D σ' H' g1 (fun ρ2 μ2 σ2 H2 n e2 g2 => hN ρ2 μ2 σ2 H2 n (e1.trans e2) g2) (fun d μ2 v H2 r e2 => hR d μ2 v H2 r (e1.trans e2)) fun c μ2 H2 x e2 => hX c μ2 H2 x (e1.trans e2)) hR hX
theorem rm_next (h : N ρ μ) : RunM K E tNext ρ μ N R X := fun D σ H g hN _ _ => hN ρ μ σ H h (Tk.refl H) g
theorem rm_nexts (k : RunM K E t2 ρ μ N R X) : RunM K E (tSeq tNext t2) ρ μ N R X := fun D σ H g hN hR hX => k D σ H g hN hR hX
theorem rm_retW (h : EvW K E te ρ μ R X) : RunM K E (tRet te) ρ μ N R X := fun D σ H g _ hR hX => h σ H g _ (fun w μ' v H' r e g' dv => hR w μ' v H' r e g'.2 dv) hX
theorem rm_ret (h : EvD K te ρ μ d) (hr : R d μ) : RunM K E (tRet te) ρ μ N R X := rm_retW (ew_pure h hr)
theorem rm_retS (h : EvD K te ρ μ d) (hr : R d μ) : RunM K E (tSeq (tRet te) t2) ρ μ N R X := fun D σ H g _ hR _ => h σ H g _ fun v H1 e1 d1 => hR d μ v H1 hr (Tk.ex e1) (g.2.ex e1) d1
theorem rm_asgW {i : Nat} (h : EvW K E te ρ μ P X) (hn : ∀ w μ', P w μ' → N (ρ.set i (some w)) μ') : RunM K E (tAsg te (gName i)) ρ μ N R X := fun D σ H g hN _ hX =>
  h σ H g _ (fun w μ' v H' p e g' dv => hN _ _ _ H' (hn w μ' p) e (g'.put i dv)) hX
theorem rm_setW {i : Nat} (h : EvW K E te ρ μ P X) (k : ∀ w μ', P w μ' → RunM K E t2 (ρ.set i (some w)) μ' N R X) : RunM K E (tSeq (tAsg te (gName i)) t2) ρ μ N R X := fun D σ H g hN hR hX =>
  h σ H g _ (fun w μ' v H' p e g' dv => k w μ' p D _ H' (g'.put i dv) (fun ρ2 μ2 σ2 H2 n e2 => hN ρ2 μ2 σ2 H2 n (e.trans e2)) (fun d μ2 v H2 r e2 => hR d μ2 v H2 r (e.trans e2)) fun c μ2 H2 x e2 => hX c μ2 H2 x (e.trans e2)) hX
theorem rm_asg {i : Nat} (h : EvD K te ρ μ d) (hn : N (ρ.set i (some d)) μ) : RunM K E (tAsg te (gName i)) ρ μ N R X := rm_asgW (P := fun w μ' => w = d ∧ μ' = μ) (ew_pure h ⟨rfl, rfl⟩) fun w μ' p => by
  obtain ⟨rfl, rfl⟩ := p
  exact hn
theorem rm_set {i : Nat} (h : EvD K te ρ μ d) (k : RunM K E t2 (ρ.set i (some d)) μ N R X) : RunM K E (tSeq (tAsg te (gName i)) t2) ρ μ N R X := rm_setW (P := fun w μ' => w = d ∧ μ' = μ) (ew_pure h ⟨rfl, rfl⟩) fun w μ' p => by
  obtain ⟨rfl, rfl⟩ := p
  exact k
theorem rm_dropW (h : EvW K E te ρ μ P X) (hn : ∀ w μ', P w μ' → N ρ μ') : RunM K E (tDrop te) ρ μ N R X := fun D σ H g hN _ hX =>
  h σ H g _ (fun w μ' v H' p e g' dv => hN _ _ _ H' (hn w μ' p) e g') hX
theorem rm_drop (h : EvW K E te ρ μ P X) (k : ∀ w μ', P w μ' → RunM K E t2 ρ μ' N R X) : RunM K E (tSeq (tDrop te) t2) ρ μ N R X := fun D σ H g hN hR hX =>
  h σ H g _ (fun w μ' v H' p e g' dv => k w μ' p D _ H' g' (fun ρ2 μ2 σ2 H2 n e2 => hN ρ2 μ2 σ2 H2 n (e.trans e2)) (fun d μ2 v H2 r e2 => hR d μ2 v H2 r (e.trans e2)) fun c μ2 H2 x e2 => hX c μ2 H2 x (e.trans e2)) hX
theorem rm_if {b : Bool} (h : EvC K t ρ μ b) (h1 : b = true → RunM K E t1 ρ μ N R X) (h2 : b = false → RunM K E t2 ρ μ N R X) : RunM K E (tIfS t t1 t2) ρ μ N R X := fun D σ H g hN hR hX => h σ H g _ fun H1 e1 => by
  have a1 := Tk.ex e1
  cases b with
  | true => exact iteT (h1 rfl D σ H1 (g.mono e1) (fun ρ' μ' σ' H' n e2 => hN ρ' μ' σ' H' n (a1.trans e2)) (fun d μ' v H' r e2 => hR d μ' v H' r (a1.trans e2)) fun c μ' H' x e2 => hX c μ' H' x (a1.trans e2))
  | false => exact iteF (h2 rfl D σ H1 (g.mono e1) (fun ρ' μ' σ' H' n e2 => hN ρ' μ' σ' H' n (a1.trans e2)) (fun d μ' v H' r e2 => hR d μ' v H' r (a1.trans e2)) fun c μ' H' x e2 => hX c μ' H' x (a1.trans e2))
theorem rm_ifs {b : Bool} (h : EvC K t ρ μ b) (h1 : b = true → RunM K E (tSeq t1 tb) ρ μ N R X) (h2 : b = false → RunM K E (tSeq t2 tb) ρ μ N R X) : RunM K E (tSeq (tIfS t t1 t2) tb) ρ μ N R X := fun D σ H g hN hR hX => h σ H g _ fun H1 e1 => by
  have a1 := Tk.ex e1
  cases b with
  | true => exact iteT (h1 rfl D σ H1 (g.mono e1) (fun ρ' μ' σ' H' n e2 => hN ρ' μ' σ' H' n (a1.trans e2)) (fun d μ' v H' r e2 => hR d μ' v H' r (a1.trans e2)) fun c μ' H' x e2 => hX c μ' H' x (a1.trans e2))
  | false => exact iteF (h2 rfl D σ H1 (g.mono e1) (fun ρ' μ' σ' H' n e2 => hN ρ' μ' σ' H' n (a1.trans e2)) (fun d μ' v H' r e2 => hR d μ' v H' r (a1.trans e2)) fun c μ' H' x e2 => hX c μ' H' x (a1.trans e2))
theorem rm_assoc {t3 : TS} (h : RunM K E (tSeq t1 (tSeq t2 t3)) ρ μ N R X) : RunM K E (tSeq (tSeq t1 t2) t3) ρ μ N R X := h
theorem rm_pair {i j : Nat} {x y : W} (h : EvD K te ρ μ (.tup [x, y])) (k : RunM K E t2 ((ρ.set i (some x)).set j (some y)) μ N R X) :
    RunM K E (tSeq (tAsg te (gTup K 2 (gCons (gName i) (gCons (gName j) gNil)))) t2) ρ μ N R X := fun D σ H g hN hR hX => h σ H g _ fun v H1 e1 d1 => by
  have a1 := Tk.ex e1
  cases d1 with
  | tup hq hs =>
    obtain ⟨v, w, rfl, dv, dw⟩ := dps2 hs
    refine ⟨_, _, rfl, hq, rfl, v, [w], rfl, w, [], rfl, rfl, ?_⟩
    exact k D _ H1 (((g.mono e1).put i dv).put j dw) (fun ρ' μ' σ' H' n e2 => hN ρ' μ' σ' H' n (a1.trans e2)) (fun d μ' v H' r e2 => hR d μ' v H' r (a1.trans e2)) fun c μ' H' x e2 => hX c μ' H' x (a1.trans e2)
theorem rm_triple {i j l : Nat} {x y z : W} (h : EvD K te ρ μ (.tup [x, y, z])) (k : RunM K E t2 (((ρ.set i (some x)).set j (some y)).set l (some z)) μ N R X) :
    RunM K E (tSeq (tAsg te (gTup K 3 (gCons (gName i) (gCons (gName j) (gCons (gName l) gNil))))) t2) ρ μ N R X := fun D σ H g hN hR hX => h σ H g _ fun v H1 e1 d1 => by
  have a1 := Tk.ex e1
  cases d1 with
  | tup hq hs =>
    obtain ⟨v, w, u, rfl, dv, dw, du⟩ := dps3 hs
    refine ⟨_, _, rfl, hq, rfl, v, [w, u], rfl, w, [u], rfl, u, [], rfl, rfl, ?_⟩
    exact k D _ H1 ((((g.mono e1).put i dv).put j dw).put l du) (fun ρ' μ' σ' H' n e2 => hN ρ' μ' σ' H' n (a1.trans e2)) (fun d μ' v H' r e2 => hR d μ' v H' r (a1.trans e2)) fun c μ' H' x e2 => hX c μ' H' x (a1.trans e2)
/-! new objects -/
theorem ew_newD : EvW K E tDNewK ρ μ (fun w μ' => ∃ p, μ p = none ∧ w = .ref p ∧ μ' = mset μ p (.dk [])) X := fun σ H g Q q _ => fun p hp =>
  q (.ref p) (mset μ p (.dk [])) (.ref p) _ ⟨p, g.2.free hp, rfl, rfl⟩ (Tk.ex (Ex.new hp)) ⟨g.1.tk (Tk.ex (Ex.new hp)), g.2.put (nt_none hp) ⟨[], upd_same, .nil⟩⟩ (.ref p)
theorem ew_lst {ta : TA} {xs : List W} (h : EvS K ta ρ μ xs) (hl : xs.length ≤ 100000) : EvW K E (tLst ta) ρ μ (fun w μ' => ∃ p, μ p = none ∧ w = .ref p ∧ μ' = mset μ p (.ls xs)) X := fun σ H g Q q _ =>
  h σ H g _ fun vs H1 e1 d1 => ⟨sz_of (by rw [dps_len d1]; exact hl), fun p hp =>
    have t := (Tk.ex e1).trans (Tk.ex (Ex.new hp))
    q (.ref p) (mset μ p (.ls xs)) (.ref p) _ ⟨p, (g.2.ex e1).free hp, rfl, rfl⟩ t ⟨g.1.tk t, (g.2.ex e1).put (nt_none hp) ⟨vs, upd_same, dpms (Ex.new hp) d1⟩⟩ (.ref p)⟩
/-! d[k] = v, del d[k] -/
theorem rm_dput {a : Addr} {kvs : List (Key × W)} {k : Key} {x : W} (hv : EvD K tv ρ μ x) (hd : EvD K td ρ μ (.ref a)) (hk : EvD K ty ρ μ (kW k)) (l : μ a = some (.dk kvs)) (hl : kvs.length < 100000) (kk : RunM K E t2 ρ (mset μ a (.dk (putW kvs k x))) N R X) :
    RunM K E (tSeq (sDPut td ty tv) t2) ρ μ N R X := fun D σ H g hN hR hX =>
  hv σ H g _ fun v H1 e1 d1 => hd σ H1 (g.mono e1) _ fun u H2 e2 d2 => hk σ H2 (g.mono (e1.trans e2)) _ fun y H3 e3 d3 => by
    cases d2
    rw [kv_of d3]
    have e := (e1.trans e2).trans e3
    obtain ⟨kv, h, r⟩ := g.2.ex e a _ l
    have tk := Tk.upd (o := .dK (putK kv k v)) (nt_dk h)
    have t := (Tk.ex e).trans tk
    refine ⟨a, upd H3 a (.dK (putK kv k v)), rfl, DPut.k h (sz_lt (by rw [rwp_len r]; exact hl)), ?_⟩
    exact kk D σ _ ⟨g.1.tk t, (g.2.ex e).put (nt_dk h) ⟨_, upd_same, rwp_put (rwm tk (dpm (e2.trans e3) d1)) (rwpm tk r)⟩⟩ (fun ρ' μ' σ' H' n e2 => hN ρ' μ' σ' H' n (t.trans e2)) (fun d μ' v H' r e2 => hR d μ' v H' r (t.trans e2)) fun c μ' H' x e2 => hX c μ' H' x (t.trans e2)
theorem rm_dput1 {a : Addr} {kvs : List (Key × W)} {k : Key} {x : W} (hv : EvD K tv ρ μ x) (hd : EvD K td ρ μ (.ref a)) (hk : EvD K ty ρ μ (kW k)) (l : μ a = some (.dk kvs)) (hl : kvs.length < 100000) (hn : N ρ (mset μ a (.dk (putW kvs k x)))) :
    RunM K E (sDPut td ty tv) ρ μ N R X := fun D σ H g hN hR hX =>
  rm_dput (t2 := tNext) hv hd hk l hl (rm_next hn) D σ H g hN hR hX
theorem rm_ddel {a : Addr} {kvs : List (Key × W)} {k : Key} (hd : EvD K td ρ μ (.ref a)) (hk : EvD K ty ρ μ (kW k)) (l : μ a = some (.dk kvs)) (hs : (valW kvs k).isSome = true) (kk : RunM K E t2 ρ (mset μ a (.dk (dropW kvs k))) N R X) :
    RunM K E (tSeq (sDDel td ty) t2) ρ μ N R X := fun D σ H g hN hR hX =>
  hd σ H g _ fun u H2 e2 d2 => hk σ H2 (g.mono e2) _ fun y H3 e3 d3 => by
    cases d2
    have ey := kv_of d3
    have e := e2.trans e3
    obtain ⟨kv, h, r⟩ := g.2.ex e a _ l
    have tk := Tk.upd (o := .dK (dropK kv k)) (nt_dk h)
    have t := (Tk.ex e).trans tk
    have hs2 : (valV kv k).isSome = true := by
      cases f : valW kvs k with
      | none =>
        rw [f] at hs
        cases hs
      | some w =>
        obtain ⟨u, f1, _⟩ := (rwp_val r).2 w f
        rw [f1]
        rfl
    refine ⟨a, kv, k, rfl, h, ey, hs2, ?_⟩
    exact kk D σ _ ⟨g.1.tk t, (g.2.ex e).put (nt_dk h) ⟨_, upd_same, rwp_drop (rwpm tk r)⟩⟩ (fun ρ' μ' σ' H' n e2 => hN ρ' μ' σ' H' n (t.trans e2)) (fun d μ' v H' r e2 => hR d μ' v H' r (t.trans e2)) fun c μ' H' x e2 => hX c μ' H' x (t.trans e2)
/-! xs.append(e) -/
theorem rm_app {a : Addr} {xs : List W} {x : W} (hl : EvD K tl ρ μ (.ref a)) (hv : EvD K tv ρ μ x) (l : μ a = some (.ls xs)) (hz : xs.length < 100000) (kk : RunM K E t2 ρ (mset μ a (.ls (xs ++ [x]))) N R X) :
    RunM K E (tSeq (tDrop (tBM K "list" rAppend tl (tCons tv tNil))) t2) ρ μ N R X := fun D σ H g hN hR hX =>
  hl σ H g _ fun u H1 e1 d1 => by
    cases d1
    obtain ⟨vs, h, r⟩ := g.2.ex e1 a _ l
    refine ⟨.inl ⟨rfl, _, SqL.of h⟩, ?_⟩
    refine hv σ H1 (g.mono e1) _ fun v H2 e2 d2 => ?_
    have e := e1.trans e2
    have h2 := e2 _ _ h
    have tk := Tk.upd (o := .lst (vs ++ [v])) (nt_lst h2)
    have t := (Tk.ex e).trans tk
    refine ⟨a, vs, v, rfl, rfl, h2, sz_lt (by rw [dps_len r]; exact hz), ?_⟩
    exact kk D σ _ ⟨g.1.tk t, (g.2.ex e).put (nt_lst h2) ⟨_, upd_same, dps_app (rwms tk (dpms e2 r)) (.cons (rwm tk d2) .nil)⟩⟩ (fun ρ' μ' σ' H' n e2 => hN ρ' μ' σ' H' n (t.trans e2)) (fun d μ' v H' r e2 => hR d μ' v H' r (t.trans e2)) fun c μ' H' x e2 => hX c μ' H' x (t.trans e2)
/-! loops -/
theorem rm_range {j : Nat} {n : Int} (h : EvS K ta ρ μ [.int n]) (hn : -(2 ^ 62) ≤ n ∧ n < 2 ^ 62) (I : Nat → Rho → Mu → Prop) (h0 : I 0 ρ μ)
    (hs : ∀ (i : Nat) ρ' μ', (i : Int) < n → I i ρ' μ' → RunM K E tb (ρ'.set j (some (.int (i : Int)))) μ' (I (i + 1)) R X) (hd : ∀ ρ' μ', I n.toNat ρ' μ' → RunM K E t2 ρ' μ' N R X) : RunM K E (tSeq (tFor (iRng1 ta) (gName j) tb) t2) ρ μ N R X := fun D σ H g hN hR hX =>
  h σ H g _ fun vs H1 e1 d1 => by
    obtain ⟨v, rfl, dv⟩ := dps1 d1
    cases dv
    refine ⟨n, rfl, hn.1, hn.2, for_range (lo := 0) (n := n.toNat) (fun i σ' H' => ∃ ρ' μ', I i ρ' μ' ∧ Tk H H' ∧ S K H' σ' ρ' μ') ⟨ρ, μ, h0, Tk.ex e1, g.mono e1⟩ (fun i σ' H' hi w => ?_) fun σ' H' w => ?_⟩
    · obtain ⟨ρ', μ', p, e2, g2⟩ := w
      have q := hs i ρ' μ' (by omega) p
      show tb _ (σ'.set j (some (.int ((0 : Int) + (i : Int))))) H'
      rw [Int.zero_add]
      exact q _ _ H' (g2.put j (.int _)) (fun ρ3 μ3 σ3 H3 p3 e3 g3 => ⟨ρ3, μ3, p3, e2.trans e3, g3⟩) (fun d μ3 v H3 r e3 => hR d μ3 v H3 r (e2.trans e3)) fun c μ3 H3 x e3 => hX c μ3 H3 x (e2.trans e3)
    · obtain ⟨ρ', μ', p, e2, g2⟩ := w
      exact hd ρ' μ' p D σ' H' g2 (fun ρ3 μ3 σ3 H3 p3 e3 => hN ρ3 μ3 σ3 H3 p3 (e2.trans e3)) (fun d μ3 v H3 r e3 => hR d μ3 v H3 r (e2.trans e3)) fun c μ3 H3 x e3 => hX c μ3 H3 x (e2.trans e3)
/-- over a list that the body leaves -/
theorem rm_forL {j : Nat} {a : Addr} {xs : List W} (h : EvD K te ρ μ (.ref a)) (l : isL μ a xs) (I : Nat → Rho → Mu → Prop) (h0 : I 0 ρ μ) (hl : ∀ i ρ' μ', I i ρ' μ' → isL μ' a xs)
    (hs : ∀ (i : Nat) x ρ' μ', xs[i]? = some x → I i ρ' μ' → RunM K E tb (ρ'.set j (some x)) μ' (I (i + 1)) R X) (hd : ∀ ρ' μ', I xs.length ρ' μ' → RunM K E t2 ρ' μ' N R X)
    (flat : ∀ (H H' : Hp) (vs vs' : List V), RwAll K H vs xs → RwAll K H' vs' xs → vs' = vs) : RunM K E (tSeq (tFor (iList K te) (gName j) tb) t2) ρ μ N R X := fun D σ H g hN hR hX =>
  h σ H g _ fun v H1 e1 d1 => by
    cases d1
    obtain ⟨vs, hq, hds⟩ := l.sq (g.2.ex e1)
    refine ⟨_, rfl, ⟨_, hq⟩, for_list (K := K) (xs := vs) (fun i σ' H' => ∃ ρ' μ', I i ρ' μ' ∧ Tk H H' ∧ S K H' σ' ρ' μ') ⟨ρ, μ, h0, Tk.ex e1, g.mono e1⟩ (fun i σ' H' _ w => ?_) (fun i v σ' H' hv w => ?_) fun σ' H' w => ?_⟩
    · obtain ⟨ρ', μ', p, e2, g2⟩ := w
      obtain ⟨vs', hq', hds'⟩ := (hl i ρ' μ' p).sq g2.2
      rw [flat H1 H' vs vs' hds hds'] at hq'
      exact hq'
    · obtain ⟨ρ', μ', p, e2, g2⟩ := w
      obtain ⟨vs', hq', hds'⟩ := (hl i ρ' μ' p).sq g2.2
      rw [flat H1 H' vs vs' hds hds'] at hds'
      obtain ⟨x, hx, dx⟩ := dps_to i hds' hv
      exact hs i x ρ' μ' hx p _ _ H' (g2.put j dx) (fun ρ3 μ3 σ3 H3 p3 e3 g3 => ⟨ρ3, μ3, p3, e2.trans e3, g3⟩) (fun d μ3 v H3 r e3 => hR d μ3 v H3 r (e2.trans e3)) fun c μ3 H3 x e3 => hX c μ3 H3 x (e2.trans e3)
    · obtain ⟨ρ', μ', p, e2, g2⟩ := w
      rw [dps_len hds] at p
      exact hd ρ' μ' p D σ' H' g2 (fun ρ3 μ3 σ3 H3 p3 e3 => hN ρ3 μ3 σ3 H3 p3 (e2.trans e3)) (fun d μ3 v H3 r e3 => hR d μ3 v H3 r (e2.trans e3)) fun c μ3 H3 x e3 => hX c μ3 H3 x (e2.trans e3)
/-! ### promises of defs that change the store -/
def spM (K : Frag) (Wf : List W → Mu → (W → Mu → Prop) → (Value → Mu → Prop) → Prop) : Sp := fun vs H Q E => ∃ ws μ P X, RwAll K H vs ws ∧ Mem K H μ ∧ Wf ws μ P X ∧ (∀ w μ' v H', P w μ' → Tk H H' → Mem K H' μ' → Rw K H' v w → Q v H') ∧ (∀ c μ' H', X c μ' → Tk H H' → Mem K H' μ' → E c none H')
theorem ew_call {Wf : List W → Mu → (W → Mu → Prop) → (Value → Mu → Prop) → Prop} {ta : TA} {xs : List W} (h : EvS K ta ρ μ xs) (hw : Wf xs μ P X) : EvW K E (tCall (spM K Wf) [] E ta) ρ μ P X := fun σ H g Q q hX =>
  h σ H g _ fun vs H1 e1 d1 => by
    show spM K Wf (vs ++ []) H1 Q E
    rw [List.append_nil]
    exact ⟨xs, μ, P, X, d1, g.2.ex e1, hw, fun w μ' v H2 p e2 m2 d2 => q w μ' v H2 p ((Tk.ex e1).trans e2) ⟨g.1.tk ((Tk.ex e1).trans e2), m2⟩ d2, fun c μ' H2 x e2 m2 => hX c μ' H2 x ((Tk.ex e1).trans e2) m2⟩
end
/-! ### defs -/
section
variable {P : Program} {w : World} {K : Frag} {mg : Str → Option Value} {base : Heap}
abbrev FnP (K : Frag) (x : Str) (st : Stmt) (f : Addr) (fd : FuncData) : Prop := L2.FunD K x x (defArgs st) (defBody st) (defScope st) [] [] f fd
def rho0 (n : Nat) (ds : List W) : Rho := ds.map some ++ List.replicate (n - ds.length) none
theorem fn_pure {x : Str} {st : Stmt} {f : Addr} {fd : FuncData} {N ps : List Str} {k : Nat} {Wf : List W → Mu → W → Prop} (F : FnP K x st f fd) (S : FnScope N ps (defScope st)) (len : ∀ ds μ d, Wf ds μ d → ds.length = ps.length)
    (body : ∀ ds μ d, Wf ds μ d → ∀ (cdv : Value) (A : Around) (outer : List PySem.Env) (s : Shared) (H : Hp) (E : XK), Room k (A.deeper (PyProof.Rows.envOfC x (defScope st) s.heap.objs.size f cdv)) →
      ∃ t, PSs (cxOf CX0 P w K mg base N x (defScope st) f cdv A outer s H E).nox (defBody st) t ∧ Run K t (rho0 N.length ds) μ (fun _ => d = .non) (fun e => e = d)) : FnOk P w K mg base CX0 (k + 1) f fd ps (spP K Wf) := by
  refine L2.FunD.ok F S (fun vs H Q E h => ?_) (fun cdv A outer s H vs Q E hr h => ?_)
  · obtain ⟨ds, μ, d, h1, _, h2, _⟩ := h
    rw [dps_len h1]
    exact len ds μ d h2
  · obtain ⟨ds, μ, d, h1, hm, h2, q⟩ := h
    obtain ⟨t, ht, hrun⟩ := body ds μ d h2 cdv A outer s H E hr
    refine ⟨t, PSs.nox ht, hrun _ _ H ⟨dps_start h1, hm⟩ (fun ρ' σ' H' e e1 _ => ?_) fun e v H' q1 e1 dv => ?_⟩
    · subst e
      exact q .non H' e1 .non
    · subst q1
      exact q v H' e1 dv
theorem fn_mut {x : Str} {st : Stmt} {f : Addr} {fd : FuncData} {N ps : List Str} {k : Nat} {Wf : List W → Mu → (W → Mu → Prop) → (Value → Mu → Prop) → Prop} (F : FnP K x st f fd) (S : FnScope N ps (defScope st)) (len : ∀ ds μ Pq X, Wf ds μ Pq X → ds.length = ps.length)
    (body : ∀ ds μ Pq X, Wf ds μ Pq X → ∀ (cdv : Value) (A : Around) (outer : List PySem.Env) (s : Shared) (H : Hp) (E : XK), Room k (A.deeper (PyProof.Rows.envOfC x (defScope st) s.heap.objs.size f cdv)) →
      ∃ t, PSs (cxOf CX0 P w K mg base N x (defScope st) f cdv A outer s H E).nox (defBody st) t ∧ RunM K E t (rho0 N.length ds) μ (fun _ μ' => Pq .non μ') Pq X) : FnOk P w K mg base CX0 (k + 1) f fd ps (spM K Wf) := by
  refine L2.FunD.ok F S (fun vs H Q E h => ?_) (fun cdv A outer s H vs Q E hr h => ?_)
  · obtain ⟨ds, μ, Pq, X, h1, _, h2, _⟩ := h
    rw [dps_len h1]
    exact len ds μ Pq X h2
  · obtain ⟨ds, μ, Pq, X, h1, hm, h2, q, qx⟩ := h
    obtain ⟨t, ht, hrun⟩ := body ds μ Pq X h2 cdv A outer s H E hr
    exact ⟨t, PSs.nox ht, hrun _ _ H ⟨dps_start h1, hm⟩ (fun ρ' μ' σ' H' e e1 g => q .non μ' .non H' e e1 g.2 .non) (fun e μ' v H' q1 e1 m dv => q e μ' v H' q1 e1 m dv) fun c μ' H' x e1 m => qx c μ' H' x e1 m⟩
structure Def (P : Program) (w : World) (K : Frag) (mg : Str → Option Value) (base : Heap) (k : Nat) (x : Str) (ps : List Str) (sp : Sp) : Prop where
  ex : ∃ (f : Addr) (fd : FuncData), FnOk P w K mg base CX0 k f fd ps sp ∧ mg x = some (.ref f) ∧ PySem.W.keepIn K (.ref f) = true ∧ Binds K fd ps []
theorem def_mk {k : Nat} {x : Str} {st : Stmt} {f : Addr} {fd : FuncData} {ps : List Str} {sp : Sp} (F : FnP K x st f fd) (g : mg x = some (.ref f)) (b : Binds K fd ps []) (h : FnOk P w K mg base CX0 k f fd ps sp) : Def P w K mg base k x ps sp := ⟨f, fd, h, g, F.kp, b⟩
end
theorem pe_callD {X : Cx} {k : Nat} {x : Str} {ps : List Str} {sp : Sp} {e : Expr} {es : List Expr} {p pos : Pos} {t : TA} (D : Def X.prog X.w X.K X.mg X.base k x ps sp) (hr : Room k X.A) (hg : Gl X x) (ha : PA X (e :: es) t) (hdb : (x == ("__debug__" : Str)) = false := by decide)
    (he : starEach (e :: es) X.env = (false, eval e X.env) :: starEach es X.env := by rfl) (hpl : (backTo pos (starEach es X.env)).any (·.1) = false := by rfl) : PE X (.Call (.Name x p) (e :: es) [] pos) (tCall sp [] E0 t) := by
  obtain ⟨f, fd, h, g, kp, b⟩ := D.ex
  exact pe_call h hr hg g kp b .nil (fun _ _ _ _ _ _ _ h => h.elim) ha hdb he hpl
theorem pe_callD0 {X : Cx} {k : Nat} {x : Str} {ps : List Str} {sp : Sp} {p pos : Pos} (D : Def X.prog X.w X.K X.mg X.base k x ps sp) (hr : Room k X.A) (hg : Gl X x) (hdb : (x == ("__debug__" : Str)) = false := by decide) : PE X (.Call (.Name x p) [] [] pos) (tCall sp [] E0 tNil) := by
  obtain ⟨f, fd, h, g, kp, b⟩ := D.ex
  exact pe_call0 h hr hg g kp b .nil (fun _ _ _ _ _ _ _ h => h.elim) hdb
theorem pe_callM {X : Cx} {k : Nat} {x : Str} {ps : List Str} {sp : Sp} {e : Expr} {es : List Expr} {p pos : Pos} {t : TA} (E : XK) (D : Def X.prog X.w X.K X.mg X.base k x ps sp) (hr : Room k X.A) (hg : Gl X x) (ha : PA X (e :: es) t) (hdb : (x == ("__debug__" : Str)) = false := by decide)
    (he : starEach (e :: es) X.env = (false, eval e X.env) :: starEach es X.env := by rfl) (hpl : (backTo pos (starEach es X.env)).any (·.1) = false := by rfl) : PE X (.Call (.Name x p) (e :: es) [] pos) (tCall sp [] E t) := by
  obtain ⟨f, fd, h, g, kp, b⟩ := D.ex
  exact pe_call h hr hg g kp b .nil (fun _ _ _ _ _ _ _ h => h.elim) ha hdb he hpl
theorem pe_callM0 {X : Cx} {k : Nat} {x : Str} {ps : List Str} {sp : Sp} {p pos : Pos} (E : XK) (D : Def X.prog X.w X.K X.mg X.base k x ps sp) (hr : Room k X.A) (hg : Gl X x) (hdb : (x == ("__debug__" : Str)) = false := by decide) : PE X (.Call (.Name x p) [] [] pos) (tCall sp [] E tNil) := by
  obtain ⟨f, fd, h, g, kp, b⟩ := D.ex
  exact pe_call0 h hr hg g kp b .nil (fun _ _ _ _ _ _ _ h => h.elim) hdb
/-- the script -/
def scr (ns : List Int) : O := .rl (ns.map W.int)
end Pw

namespace Pw
open PySem L2 Evl
section
variable {K : Frag} {ρ : Rho} {μ : Mu} {ta tb tc te : TE} {t u : TT} {d e : W}
theorem ty_of {w : W} {d : PyData} (h : Dw μ w d) : Ty μ w (Pd.tyN d) := by
  cases h with
  | non => exact .non
  | bl => exact .bl
  | int => exact .int
  | str => exact .str
  | tup h => exact .tup
  | lst l h => exact .lst l
/-- no dict -/
def notD : PyData → Prop
  | .dict _ => False
  | _ => True
theorem dw_notD {w : W} {d : PyData} (h : Dw μ w d) : notD d := by cases h <;> trivial
theorem kit_str (d : PyData) (h : notD d) : kitB (Pd.tyN d) "str" = some (Pd.tyN d == "str") := by
  cases d with
  | none => exact (show kitB "NoneType" "str" = some ("NoneType" == "str") by decide +kernel)
  | bool b => exact (show kitB "bool" "str" = some ("bool" == "str") by decide +kernel)
  | int i => exact (show kitB "int" "str" = some ("int" == "str") by decide +kernel)
  | str x => exact (show kitB "str" "str" = some ("str" == "str") by decide +kernel)
  | list x => exact (show kitB "list" "str" = some ("list" == "str") by decide +kernel)
  | tuple x => exact (show kitB "tuple" "str" = some ("tuple" == "str") by decide +kernel)
  | dict x => exact h.elim
theorem kit_tuple (d : PyData) (h : notD d) : kitB (Pd.tyN d) "tuple" = some (Pd.tyN d == "tuple") := by
  cases d with
  | none => exact (show kitB "NoneType" "tuple" = some ("NoneType" == "tuple") by decide +kernel)
  | bool b => exact (show kitB "bool" "tuple" = some ("bool" == "tuple") by decide +kernel)
  | int i => exact (show kitB "int" "tuple" = some ("int" == "tuple") by decide +kernel)
  | str x => exact (show kitB "str" "tuple" = some ("str" == "tuple") by decide +kernel)
  | list x => exact (show kitB "list" "tuple" = some ("list" == "tuple") by decide +kernel)
  | tuple x => exact (show kitB "tuple" "tuple" = some ("tuple" == "tuple") by decide +kernel)
  | dict x => exact h.elim
theorem kit_bool (d : PyData) (h : notD d) : kitB (Pd.tyN d) "bool" = some (Pd.tyN d == "bool") := by
  cases d with
  | none => exact (show kitB "NoneType" "bool" = some ("NoneType" == "bool") by decide +kernel)
  | bool b => exact (show kitB "bool" "bool" = some ("bool" == "bool") by decide +kernel)
  | int i => exact (show kitB "int" "bool" = some ("int" == "bool") by decide +kernel)
  | str x => exact (show kitB "str" "bool" = some ("str" == "bool") by decide +kernel)
  | list x => exact (show kitB "list" "bool" = some ("list" == "bool") by decide +kernel)
  | tuple x => exact (show kitB "tuple" "bool" = some ("tuple" == "bool") by decide +kernel)
  | dict x => exact h.elim
theorem kit_int (d : PyData) (h : notD d) : kitB (Pd.tyN d) "int" = some (Pd.tyN d == "int" || Pd.tyN d == "bool") := by
  cases d with
  | none => exact (show kitB "NoneType" "int" = some ("NoneType" == "int" || "NoneType" == "bool") by decide +kernel)
  | bool b => exact (show kitB "bool" "int" = some ("bool" == "int" || "bool" == "bool") by decide +kernel)
  | int i => exact (show kitB "int" "int" = some ("int" == "int" || "int" == "bool") by decide +kernel)
  | str x => exact (show kitB "str" "int" = some ("str" == "int" || "str" == "bool") by decide +kernel)
  | list x => exact (show kitB "list" "int" = some ("list" == "int" || "list" == "bool") by decide +kernel)
  | tuple x => exact (show kitB "tuple" "int" = some ("tuple" == "int" || "tuple" == "bool") by decide +kernel)
  | dict x => exact h.elim
theorem ed_isStr {x : W} {d : PyData} (h : EvD K ta ρ μ x) (z : Dw μ x d) : EvD K (tCB (rIsi K) (tCons ta (tCons (tC (.ty "str")) tNil))) ρ μ (.bl (Pd.tyN d == "str")) := ed_isi h (ty_of z) (kit_str d (dw_notD z))
theorem ed_isTuple {x : W} {d : PyData} (h : EvD K ta ρ μ x) (z : Dw μ x d) : EvD K (tCB (rIsi K) (tCons ta (tCons (tC (.ty "tuple")) tNil))) ρ μ (.bl (Pd.tyN d == "tuple")) := ed_isi h (ty_of z) (kit_tuple d (dw_notD z))
theorem ed_isBool {x : W} {d : PyData} (h : EvD K ta ρ μ x) (z : Dw μ x d) : EvD K (tCB (rIsi K) (tCons ta (tCons (tC (.ty "bool")) tNil))) ρ μ (.bl (Pd.tyN d == "bool")) := ed_isi h (ty_of z) (kit_bool d (dw_notD z))
theorem ed_isInt {x : W} {d : PyData} (h : EvD K ta ρ μ x) (z : Dw μ x d) : EvD K (tCB (rIsi K) (tCons ta (tCons (tC (.ty "int")) tNil))) ρ μ (.bl (Pd.tyN d == "int" || Pd.tyN d == "bool")) := ed_isi h (ty_of z) (kit_int d (dw_notD z))
theorem is_str {d : PyData} (h : (Pd.tyN d == "str") = true) : ∃ x, d = .str x := by
  cases d with
  | none => exact absurd h (show ¬ ("NoneType" == "str") = true by decide)
  | bool b => exact absurd h (show ¬ ("bool" == "str") = true by decide)
  | int i => exact absurd h (show ¬ ("int" == "str") = true by decide)
  | str x => exact ⟨_, rfl⟩
  | list x => exact absurd h (show ¬ ("list" == "str") = true by decide)
  | tuple x => exact absurd h (show ¬ ("tuple" == "str") = true by decide)
  | dict x => exact absurd h (show ¬ ("dict" == "str") = true by decide)
theorem is_tuple {d : PyData} (h : (Pd.tyN d == "tuple") = true) : ∃ x, d = .tuple x := by
  cases d with
  | none => exact absurd h (show ¬ ("NoneType" == "tuple") = true by decide)
  | bool b => exact absurd h (show ¬ ("bool" == "tuple") = true by decide)
  | int i => exact absurd h (show ¬ ("int" == "tuple") = true by decide)
  | str x => exact absurd h (show ¬ ("str" == "tuple") = true by decide)
  | list x => exact absurd h (show ¬ ("list" == "tuple") = true by decide)
  | tuple x => exact ⟨_, rfl⟩
  | dict x => exact absurd h (show ¬ ("dict" == "tuple") = true by decide)
theorem dw_len : ∀ {ws : List W} {ds : List PyData}, DwAll μ ws ds → ws.length = ds.length
  | _, _, .nil => rfl
  | _, _, .cons _ h => congrArg Nat.succ (dw_len h)
theorem dw_at : ∀ {ws : List W} {ds : List PyData} (i : Nat) {d : PyData}, DwAll μ ws ds → ds[i]? = some d → ∃ w, ws[i]? = some w ∧ Dw μ w d
  | _, _, i, d, .nil, e => by simp at e
  | _, _, 0, d, .cons h _, e => by
    cases e
    exact ⟨_, rfl, h⟩
  | _, _, i + 1, d, .cons _ hs, e => dw_at i hs e
theorem dw_to : ∀ {ws : List W} {ds : List PyData} (i : Nat) {w : W}, DwAll μ ws ds → ws[i]? = some w → ∃ d, ds[i]? = some d ∧ Dw μ w d
  | _, _, i, d, .nil, e => by simp at e
  | _, _, 0, d, .cons h _, e => by
    cases e
    exact ⟨_, rfl, h⟩
  | _, _, i + 1, d, .cons _ hs, e => dw_to i hs e
/-- ord -/
def rOrd : List V → Hp → VK → Prop := fun xs H Q => ∃ x, xs = [.str x] ∧ x.length = 1 ∧ Q (.int (x.cps.getD 0 0 : Nat)) H
theorem cr_ord {X : Cx} : CallR X (.builtin "ord") rOrd := call_ord
theorem ed_ord {ta : TA} {c : Nat} (h : EvS K ta ρ μ [.str ⟨#[c]⟩]) : EvD K (tCB rOrd ta) ρ μ (.int (c : Int)) := ed_cb h fun H vs Q d1 k => by
  obtain ⟨v, rfl, dv⟩ := dps1 d1
  cases dv
  exact ⟨_, rfl, rfl, k _ H (Ex.refl H) (.int _)⟩
def rInC : R2 := fun x y H Q => ∃ (c : Nat) (z : Str), x = .str ⟨#[c]⟩ ∧ y = .str z ∧ Q (.bl (decide (c ∈ z.cps.toList))) H
def rNotInC : R2 := fun x y H Q => ∃ (c : Nat) (z : Str), x = .str ⟨#[c]⟩ ∧ y = .str z ∧ Q (.bl (!decide (c ∈ z.cps.toList))) H
theorem op_inC {X : Cx} : OpR X (compareOp .In) rInC := op_in_sign
theorem op_notInC {X : Cx} : OpR X (compareOp .NotIn) rNotInC := op_notIn_sign
/-- one sign in a text -/
theorem ed_inC {c : Nat} {z : Str} (ha : EvD K ta ρ μ (.str ⟨#[c]⟩)) (hb : EvD K tb ρ μ (.str z)) : EvD K (tOp rInC ta tb) ρ μ (.bl (decide (c ∈ z.cps.toList))) := ed_two ha hb fun H v w Q dv dw k => by
  cases dv
  cases dw
  exact ⟨c, z, rfl, rfl, k _ H (Ex.refl H) (.bl _)⟩
theorem ed_notinC {c : Nat} {z : Str} (ha : EvD K ta ρ μ (.str ⟨#[c]⟩)) (hb : EvD K tb ρ μ (.str z)) : EvD K (tOp rNotInC ta tb) ρ μ (.bl (!decide (c ∈ z.cps.toList))) := ed_two ha hb fun H v w Q dv dw k => by
  cases dv
  cases dw
  exact ⟨c, z, rfl, rfl, k _ H (Ex.refl H) (.bl _)⟩
/-- the last item -/
theorem ed_lastT {xs : List W} {x : W} (ha : EvD K ta ρ μ (.tup xs)) (hb : EvD K tb ρ μ (.int (-1))) (hx : xs.getLast? = some x) : EvD K (tOp (rIxT K) ta tb) ρ μ x := ed_two ha hb fun H v w Q dv dw k => by
  cases dw
  cases dv with
  | tup h hs =>
    have hl := dps_len hs
    have hne : xs ≠ [] := fun q => by
      rw [q] at hx
      cases hx
    have hp : 0 < xs.length := List.length_pos_iff.mpr hne
    rw [List.getLast?_eq_getElem?] at hx
    obtain ⟨v, e1, e2⟩ := dps_at (xs.length - 1) hs hx
    rw [← hl] at e1
    refine ⟨_, _, -1, v, rfl, rfl, h, ?_, k v H (Ex.refl H) e2⟩
    unfold atI ixN
    rw [if_neg (by decide), if_pos (by omega)]
    show _ = some v
    rw [← e1]
    show _[_]? = _
    congr 1
    omega
/-! dicts of the text -/
/-- the table at a: its keys, its values -/
structure KTab (K : Frag) (w : World) (a : Addr) (kvs : List (Str × V)) : Prop where
  dct : ∃ es n, KDict K w a es n
  out : ∀ z, z ∉ kvs.map (·.1) → PySem.W.nsIn K a z = some none
  at_ : ∀ p ∈ kvs, ∃ u, PySem.W.nsIn K a p.1 = some (some u) ∧ RelV p.2 u
def rNotInK (K : Frag) (a : Addr) : R2 := fun x y H Q => ∃ (z : Str) (r : Option Value), x = .str z ∧ y = .ref a ∧ PySem.W.nsIn K a z = some r ∧ Q (.bl (!r.isSome)) H
theorem op_notInK {X : Cx} {a : Addr} {kvs : List (Str × V)} (T : KTab X.K X.w a kvs) : OpR X (compareOp .NotIn) (rNotInK X.K a) := by
  obtain ⟨es, n, D⟩ := T.dct
  exact op_notIn_kd D
theorem ed_notInK {w : World} {a : Addr} {kvs : List (Str × V)} {z : Str} (T : KTab K w a kvs) (ha : EvD K ta ρ μ (.str z)) : EvD K (tOp (rNotInK K a) ta (tC (.ref a))) ρ μ (.bl (!decide (z ∈ kvs.map (·.1)))) := fun σ H g Q q =>
  ha σ H g _ fun v H1 e1 d1 => by
    cases d1
    by_cases hz : z ∈ kvs.map (·.1)
    · obtain ⟨p, hp, rfl⟩ := List.mem_map.mp hz
      obtain ⟨u, hu, _⟩ := T.at_ p hp
      refine ⟨p.1, some u, rfl, rfl, hu, ?_⟩
      rw [decide_eq_true hz] at q
      exact q _ H1 e1 (.bl _)
    · refine ⟨z, none, rfl, rfl, T.out z hz, ?_⟩
      rw [decide_eq_false hz] at q
      exact q _ H1 e1 (.bl _)
/-- x = TABLE[k] (a def), then return x(..) -/
theorem run_disp {w : World} {a : Addr} {kvs : List (Str × V)} {z : Str} {f : Addr} {i : Nat} {Wf : List W → Mu → W → Prop} {ta : TA} {xs : List W} {x : W} {N : Rho → Prop} {R : W → Prop} (T : KTab K w a kvs) (hz : (z, V.ref f) ∈ kvs) (hk : EvD K tb ρ μ (.str z)) (hi : i < ρ.length)
    (h : EvS K ta (ρ.set i none) μ xs) (hw : Wf xs μ x) (hr : R x) : Run K (tSeq (tAsg (tOp (rIxD K w) (tC (.ref a)) tb) (gName i)) (tRet (tCallL i f (spP K Wf) [] E0 ta))) ρ μ N R := fun D σ H g hN hR =>
  hk σ H g _ fun v H1 e1 d1 => by
    cases d1
    obtain ⟨es, n, KD⟩ := T.dct
    obtain ⟨u, hu, ru⟩ := T.at_ _ hz
    refine ⟨a, z, .ref f, rfl, rfl, ⟨es, n, u, KD.at_, KD.lit, hu, ru⟩, ?_⟩
    have g1 := (g.mono e1).hide (v := some (.ref f)) i
    refine ⟨by rw [List.getElem?_set, if_pos rfl, if_pos (by rw [g.1.1]; exact hi)], h _ H1 g1 _ fun vs H2 e2 d2 => ?_⟩
    show spP K Wf (vs ++ []) H2 _ E0
    rw [List.append_nil]
    exact ⟨xs, μ, x, d2, g1.2.ex e2, hw, fun v H3 e3 d3 => hR x v H3 hr ((e1.trans e2).trans e3) d3⟩
end
theorem pe_callDL {X : Cx} {k i : Nat} {x y : Str} {ps : List Str} {sp : Sp} {e : Expr} {es : List Expr} {p pos : Pos} {t : TA} (D : Def X.prog X.w X.K X.mg X.base k y ps sp) (hr : Room k X.A) (hN : X.N[i]? = some x) (hv : Vis X.env.scope x) (ha : PA X (e :: es) t)
    (hdb : (x == ("__debug__" : Str)) = false := by decide) (hcd : (x == ("__classdict__" : Str)) = false := by decide)
    (he : starEach (e :: es) X.env = (false, eval e X.env) :: starEach es X.env := by rfl) (hpl : (backTo pos (starEach es X.env)).any (·.1) = false := by rfl) : ∃ f, X.mg y = some (.ref f) ∧ PE X (.Call (.Name x p) (e :: es) [] pos) (tCallL i f sp [] E0 t) := by
  obtain ⟨f, fd, h, g, kp, b⟩ := D.ex
  exact ⟨f, g, pe_callL h hr hN hv kp b .nil (fun _ _ _ _ _ _ _ h => h.elim) ha hdb hcd he hpl⟩
end Pw

/-! the forms of the document, told over data -/
namespace Pw
open PySem L2 Evl
open Pd (sLt abc)
def one (c : Nat) : Str := ⟨#[c]⟩
def inAZ (c : Nat) : Bool := !sLt (one c) "a" && !sLt "z" (one c)
def inPr (c : Nat) : Bool := (!sLt (one c) " " && !sLt "~" (one c)) && !decide ((c : Int) = 37)
def keyS (x : Str) : Bool := (decide ((1 : Int) ≤ (x.length : Int)) && decide ((x.length : Int) ≤ 8)) && x.cps.toList.all inAZ
def keyB : PyData → Bool
  | .str x => keyS x
  | _ => false
def prB : PyData → Bool
  | .str x => x.cps.toList.all inPr
  | _ => false
def valB : PyData → Bool
  | .str x => x.cps.toList.all inPr && decide ((x.length : Int) ≤ 40)
  | _ => false
def kindS : PyData → Str
  | .tuple (.str x :: _) => x
  | _ => ""
def pairB : PyData → Bool
  | .tuple [a, b] => keyB a && valB b
  | _ => false
/-- the key of a pair -/
def headK : PyData → Str
  | .tuple (.str k :: _) => k
  | _ => ""
/-- ascending keys from last on -/
def pairsFrom (last : Str) : List PyData → Bool
  | [] => true
  | d :: r => pairB d && (sLt last (headK d) && pairsFrom (headK d) r)
def pairsB : PyData → Bool
  | .tuple ds => pairsFrom "" ds
  | _ => false
def boundB : PyData → Bool
  | .str x => keyS x || decide (x = "")
  | _ => false
theorem lt_one {a b : Nat} : sLt (one a) (one b) = decide (a < b) := by
  unfold sLt one
  simp [List.cons_lt_cons_iff]
theorem s1 (c : Nat) : (⟨#[c]⟩ : Str) = one c := rfl
theorem az_iff (c : Nat) : inAZ c = decide (97 ≤ c ∧ c ≤ 122) := by
  unfold inAZ
  rw [show ("a" : Str) = one 97 from by decide +kernel, show ("z" : Str) = one 122 from by decide +kernel, lt_one, lt_one]
  rw [Bool.eq_iff_iff]
  simp only [Bool.and_eq_true, Bool.not_eq_true', decide_eq_false_iff_not, decide_eq_true_eq]
  omega
theorem pr_iff (c : Nat) : inPr c = decide ((32 ≤ c ∧ c ≤ 126) ∧ c ≠ 37) := by
  unfold inPr
  rw [show (" " : Str) = one 32 from by decide +kernel, show ("~" : Str) = one 126 from by decide +kernel, lt_one, lt_one]
  rw [Bool.eq_iff_iff]
  simp only [Bool.and_eq_true, Bool.not_eq_true', decide_eq_false_iff_not, decide_eq_true_eq]
  omega
def printable : Str := " !\"#$&'()*+,-./0123456789:;<=>?@ABCDEFGHIJKLMNOPQRSTUVWXYZ[\\]^_`abcdefghijklmnopqrstuvwxyz{|}~"
theorem abc_cps : abc.cps.toList = (List.range 26).map (· + 97) := by decide +kernel
theorem pr_cps : printable.cps.toList = ((List.range 5).map (· + 32)) ++ ((List.range 89).map (· + 38)) := by decide +kernel
theorem in_abc (c : Nat) : decide (c ∈ abc.cps.toList) = inAZ c := by
  rw [az_iff, abc_cps]
  apply decide_eq_decide.mpr
  rw [List.mem_map]
  constructor
  · rintro ⟨a, ha, rfl⟩
    rw [List.mem_range] at ha
    omega
  · rintro ⟨h1, h2⟩
    exact ⟨c - 97, by rw [List.mem_range]; omega, by omega⟩
theorem in_pr (c : Nat) : decide (c ∈ printable.cps.toList) = inPr c := by
  rw [pr_iff, pr_cps]
  apply decide_eq_decide.mpr
  rw [List.mem_append, List.mem_map, List.mem_map]
  constructor
  · rintro (⟨a, ha, rfl⟩ | ⟨a, ha, rfl⟩) <;> rw [List.mem_range] at ha <;> omega
  · rintro ⟨⟨h1, h2⟩, h3⟩
    by_cases h : c < 37
    · exact .inl ⟨c - 32, by rw [List.mem_range]; omega, by omega⟩
    · exact .inr ⟨c - 38, by rw [List.mem_range]; omega, by omega⟩
theorem all_false {p : Nat → Bool} {l : List Nat} {i c : Nat} (h : l[i]? = some c) (hp : p c = false) : l.all p = false := by
  cases e : l.all p with
  | false => rfl
  | true =>
    have q := List.all_eq_true.mp e c (List.mem_of_getElem? h)
    rw [hp] at q
    cases q
theorem all_take {p : Nat → Bool} {l : List Nat} {i c : Nat} (h : l[i]? = some c) (h1 : (l.take i).all p = true) (hp : p c = true) : (l.take (i + 1)).all p = true := by
  rw [List.take_add_one, h, List.all_append, h1]
  simp [hp]
/-! all signs of a text -/
section
variable {K : Frag} {ρ : Rho} {μ : Mu} {te : TE} {t : TT} {t2 : TS} {N : Rho → Prop} {R : W → Prop}
/-- for c in text: if not p(c): return False -/
theorem run_allS {j : Nat} {z : Str} (p : Nat → Bool) (h : EvD K te ρ μ (.str z)) (ht : ∀ c, EvC K t (ρ.set j (some (.str ⟨#[c]⟩))) μ (!p c)) (hf : z.cps.toList.all p = false → R (.bl false))
    (hd : z.cps.toList.all p = true → ∀ ρ', (ρ' = ρ ∨ ∃ x, ρ' = ρ.set j x) → Run K t2 ρ' μ N R) : Run K (tSeq (tFor (iStr te) (gName j) (tIfS t (tRet (tC (.bl false))) tNext)) t2) ρ μ N R := by
  refine run_forS h (fun i ρ' => (ρ' = ρ ∨ ∃ x, ρ' = ρ.set j x) ∧ (z.cps.toList.take i).all p = true) ⟨.inl rfl, rfl⟩ (fun i c ρ' hc hI => ?_) (fun ρ' hI => ?_)
  · have e : ρ'.set j (some (.str ⟨#[c]⟩)) = ρ.set j (some (.str ⟨#[c]⟩)) := by
      rcases hI.1 with q | ⟨x, q⟩ <;> rw [q]
      rw [List.set_set]
    rw [e]
    refine run_if (ht c) (fun q => ?_) (fun q => run_next ⟨.inr ⟨_, rfl⟩, all_take hc hI.2 ?_⟩)
    · refine run_ret ed_bl (hf (all_false hc ?_))
      cases v : p c with
      | false => rfl
      | true =>
        rw [v] at q
        cases q
    · cases v : p c with
      | true => rfl
      | false =>
        rw [v] at q
        cases q
  · refine hd ?_ ρ' hI.1
    have q := hI.2
    rw [List.take_length] at q
    exact q
end
/-! good data: every text is short and of signs that there are -/
def okS (x : Str) : Prop := x.length ≤ 1000 ∧ PyData.strOk x = true
mutual
def okD : PyData → Prop
  | .str x => okS x
  | .list xs | .tuple xs => okDs xs
  | .dict _ => False
  | _ => True
def okDs : List PyData → Prop
  | [] => True
  | d :: ds => okD d ∧ okDs ds
end
theorem okDs_at : ∀ {ds : List PyData} {i : Nat} {d : PyData}, okDs ds → ds[i]? = some d → okD d
  | [], i, d, _, h => by simp at h
  | a :: r, 0, d, h, e => by
    cases e
    unfold okDs at h
    exact h.1
  | a :: r, i + 1, d, h, e => by
    unfold okDs at h
    exact okDs_at h.2 (by simpa using e)
end Pw

namespace Pw
open PySem L2 Evl
open Pd (sLt abc)
def oW : Option Str → W
  | none => .non
  | some x => .str x
def toldB : List PyData → Bool
  | [_, v] => valB v
  | _ => false
/-- the last key of pairs, or what stood before -/
def lastKey (last : Str) : List PyData → Str
  | [] => last
  | d :: r => lastKey (headK d) r
def pageB : List PyData → Bool
  | [_, .tuple ps, f] => (pairsFrom "" ps && decide ((ps.length : Int) ≤ 50)) && ((match f with
    | .none => true
    | .str y => keyS y && sLt (lastKey "" ps) y
    | _ => false))
  | _ => false
theorem nstr_key {d : PyData} (h : (Pd.tyN d == "str") = false) : keyB d = false := by
  cases d <;> first | rfl | exact absurd h (show ¬ ("str" == "str") = false by decide) | exact absurd h (show ¬ ("tuple" == "tuple") = false by decide)
theorem nstr_pr {d : PyData} (h : (Pd.tyN d == "str") = false) : prB d = false := by
  cases d <;> first | rfl | exact absurd h (show ¬ ("str" == "str") = false by decide) | exact absurd h (show ¬ ("tuple" == "tuple") = false by decide)
theorem nstr_val {d : PyData} (h : (Pd.tyN d == "str") = false) : valB d = false := by
  cases d <;> first | rfl | exact absurd h (show ¬ ("str" == "str") = false by decide) | exact absurd h (show ¬ ("tuple" == "tuple") = false by decide)
theorem ntup_pair {d : PyData} (h : (Pd.tyN d == "tuple") = false) : pairB d = false := by
  cases d <;> first | rfl | exact absurd h (show ¬ ("str" == "str") = false by decide) | exact absurd h (show ¬ ("tuple" == "tuple") = false by decide)
theorem ntup_pairs {d : PyData} (h : (Pd.tyN d == "tuple") = false) : pairsB d = false := by
  cases d <;> first | rfl | exact absurd h (show ¬ ("str" == "str") = false by decide) | exact absurd h (show ¬ ("tuple" == "tuple") = false by decide)
theorem ntup_kind {d : PyData} (h : (Pd.tyN d == "tuple") = false) : kindS d = "" := by
  cases d <;> first | rfl | exact absurd h (show ¬ ("str" == "str") = false by decide) | exact absurd h (show ¬ ("tuple" == "tuple") = false by decide)
theorem nn {a : Bool} (h : (!a) = false) : a = true := by
  cases a
  · cases h
  · rfl
theorem nt {a : Bool} (h : (!a) = true) : a = false := by
  cases a
  · rfl
  · cases h
theorem okS_sz {x : Str} (h : okS x) : x.length ≤ sizeLine := sz_of (Nat.le_trans h.1 (by decide))
theorem okD_str {x : Str} (h : okD (.str x)) : okS x := by
  unfold okD at h
  exact h
theorem okD_tup {ds : List PyData} (h : okD (.tuple ds)) : okDs ds := by
  unfold okD at h
  exact h
/-- a pair as it is told -/
theorem pairB_iff {d : PyData} : pairB d = true ↔ ∃ k v, d = .tuple [.str k, .str v] ∧ keyS k = true ∧ valB (.str v) = true := by
  constructor
  · intro h
    unfold pairB at h
    split at h
    · rename_i a b
      obtain ⟨h1, h2⟩ := Bool.and_eq_true_iff.mp h
      cases a with
      | str k =>
        cases b with
        | str v => exact ⟨k, v, rfl, h1, h2⟩
        | _ => cases h2
      | _ => cases h1
    · cases h
  · rintro ⟨k, v, rfl, h1, h2⟩
    unfold pairB
    exact Bool.and_eq_true_iff.mpr ⟨h1, h2⟩
theorem keyS_pos {y : Str} (h : keyS y = true) : sLt "" y = true := by
  unfold keyS at h
  have h1 := of_decide_eq_true (Bool.and_eq_true_iff.mp (Bool.and_eq_true_iff.mp h).1).1
  unfold sLt
  apply decide_eq_true
  have e : y.cps.toList.length = y.length := Array.length_toList
  cases q : y.cps.toList with
  | nil =>
    rw [q] at e
    have e : 0 = y.length := e
    omega
  | cons a r =>
    show ([] : List Nat) < a :: r
    exact List.nil_lt_cons _ _
/-- the last pair of a good row of pairs -/
theorem last_pair {μ : Mu} : ∀ {ps : List PyData} {ws : List W} {last : Str}, DwAll μ ws ps → pairsFrom last ps = true → ps ≠ [] →
    ∃ (wl : List W) (v : W) (kk : Str), ws.getLast? = some (.tup wl) ∧ wl[(0 : Int).toNat]? = some (.str kk) ∧ lastKey last ps = kk
  | [], _, _, _, _, h => absurd rfl h
  | [d], _, last, .cons zd .nil, hp, _ => by
    have hp2 : (pairB d && (sLt last (headK d) && true)) = true := hp
    obtain ⟨k, v, rfl, _, _⟩ := pairB_iff.mp (Bool.and_eq_true_iff.mp hp2).1
    cases zd with
    | tup zz =>
    cases zz with
    | cons za zb =>
    cases za
    exact ⟨_, .non, k, rfl, rfl, rfl⟩
  | d :: e :: r, _, last, .cons zd zr, hp, _ => by
    have hp2 : (pairB d && (sLt last (headK d) && pairsFrom (headK d) (e :: r))) = true := hp
    obtain ⟨wl, v, kk, h1, h2, h3⟩ := last_pair zr (Bool.and_eq_true_iff.mp (Bool.and_eq_true_iff.mp hp2).2).2 (by simp)
    refine ⟨wl, v, kk, ?_, h2, h3⟩
    cases zr with
    | cons a b =>
    rw [List.getLast?_cons_cons]
    exact h1
end Pw

/-! lists on the way: sorted, comprehensions, tuple(..) -/
namespace Pw
open PySem L2 Evl
open Pd (sLt)
/-- the order of texts is total, so a sorted arrangement is the only one -/
def leS (a b : Str) : Bool := !sLt b a
theorem leS_tr (a b c : Str) (h1 : leS a b = true) (h2 : leS b c = true) : leS a c = true := by
  unfold leS at *
  cases q : sLt c a with
  | false => rfl
  | true =>
    rcases Pd.sLt_tri b c with h | h | h
    · have := Pd.sLt_tr h q
      rw [this] at h1
      cases h1
    · subst h
      rw [q] at h1
      cases h1
    · rw [h] at h2
      cases h2
theorem leS_tot (a b : Str) : (leS a b || leS b a) = true := by
  unfold leS
  rcases Pd.sLt_tri a b with h | h | h
  · rw [Pd.sLt_as h]
    rfl
  · subst h
    rw [Pd.sLt_irr]
    rfl
  · rw [h, Pd.sLt_as h]
    rfl
theorem leS_anti {a b : Str} (h1 : leS a b = true) (h2 : leS b a = true) : a = b := by
  unfold leS at *
  rcases Pd.sLt_tri a b with h | h | h
  · rw [h] at h2
    cases h2
  · exact h
  · rw [h] at h1
    cases h1
def sortS (ks : List Str) : List Str := ks.mergeSort leS
theorem sortS_perm (ks : List Str) : (sortS ks).Perm ks := List.mergeSort_perm ks leS
theorem sortS_pw (ks : List Str) : (sortS ks).Pairwise (fun a b => leS a b = true) := List.pairwise_mergeSort leS_tr leS_tot ks
theorem rising_pw : ∀ (p : Str) (l : List Str), PyProof.Rows.risingS p l = true → (p :: l).Pairwise (fun a b => leS a b = true)
  | p, [], _ => by simp
  | p, x :: r, h => by
    unfold PyProof.Rows.risingS at h
    obtain ⟨h1, h2⟩ := Bool.and_eq_true_iff.mp h
    have ih := rising_pw x r h2
    have hpx : leS p x = true := by
      unfold leS Pd.sLt
      rw [PyProof.Rows.lt_meets]
      exact h1
    refine List.pairwise_cons.mpr ⟨fun y hy => ?_, ih⟩
    rcases List.mem_cons.mp hy with e | e
    · rw [e]
      exact hpx
    · exact leS_tr p x y hpx ((List.pairwise_cons.mp ih).1 y e)
theorem sorted_pw {l : List Str} (h : PyProof.Rows.sortedS l = true) : l.Pairwise (fun a b => leS a b = true) := by
  cases l with
  | nil => exact List.Pairwise.nil
  | cons x r => exact rising_pw x r h
theorem pw_only {a b : List Str} (hp : a.Perm b) (ha : a.Pairwise (fun a b => leS a b = true)) (hb : b.Pairwise (fun a b => leS a b = true)) : a = b :=
  List.Perm.eq_of_pairwise (le := fun a b => leS a b = true) (fun _ _ _ _ h1 h2 => leS_anti h1 h2) ha hb hp
theorem sorted_only {ks ys : List Str} (hp : ys.Perm ks) (h : PyProof.Rows.sortedS ys = true) : ys = sortS ks := pw_only (hp.trans (sortS_perm ks).symm) (sorted_pw h) (sortS_pw ks)
/-- a dict whose keys are texts -/
def encK (sd : List (Str × W)) : List (Key × W) := sd.map fun p => (Sum.inr p.1, p.2)
theorem encK_keys (sd : List (Str × W)) : (encK sd).map (·.1) = (sd.map (·.1)).map Sum.inr := by
  unfold encK
  rw [List.map_map, List.map_map]
  rfl
theorem rwp_keys {K : Frag} {H : Hp} {κ : Type} {kv : List (κ × V)} {kw : List (κ × W)} (h : RwP K H kv kw) : kv.map (·.1) = kw.map (·.1) := by
  induction h with
  | nil => rfl
  | cons a b ih => rw [List.map_cons, List.map_cons, ih, a.1]
/-- an expression that makes a list, which nothing else holds -/
def EvL (K : Frag) (te : TE) (ρ : Rho) (μ : Mu) (ws : List W) : Prop := ∀ (σ : L2.St) (H : Hp), S K H σ ρ μ → ∀ Q : VK, (∀ p vs H2, Ex H H2 → H p = none → H2 p = some (.lst vs) → RwAll K H2 vs ws → Q (.ref p) H2) → te σ H Q
section
variable {K : Frag} {E : XK} {ρ : Rho} {μ : Mu} {te tl ta tb td : TE} {t : TT} {X : Value → Mu → Prop}
theorem EvL.is {ws us : List W} (h : EvL K te ρ μ ws) (e : ws = us) : EvL K te ρ μ us := e ▸ h
theorem ew_ofL {ws : List W} (h : EvL K te ρ μ ws) : EvW K E te ρ μ (fun w μ' => ∃ p, μ p = none ∧ w = .ref p ∧ μ' = mset μ p (.ls ws)) X := fun σ H g Q q _ => h σ H g _ fun p vs H2 e hp h2 r => by
  have hn := g.2.free hp
  have m : Mem K H2 (mset μ p (.ls ws)) := fun b o e' => by
    by_cases hb : b = p
    · subst hb
      rw [mset_same] at e'
      cases e'
      exact ⟨vs, h2, r⟩
    · rw [mset_ne hb] at e'
      exact (g.2.ex e) b o e'
  exact q (.ref p) (mset μ p (.ls ws)) (.ref p) H2 ⟨p, hn, rfl, rfl⟩ (Tk.ex e) ⟨g.1.tk (Tk.ex e), m⟩ (.ref p)
theorem el_lst {ta : TA} {xs : List W} (h : EvS K ta ρ μ xs) (hl : xs.length ≤ 100000) : EvL K (tLst ta) ρ μ xs := fun σ H g Q q =>
  h σ H g _ fun vs H1 e1 d1 => ⟨sz_of (by rw [dps_len d1]; exact hl), fun p hp => q p vs _ (e1.trans (Ex.new hp)) (fresh_back e1 hp) upd_same (dpms (Ex.new hp) d1)⟩
theorem el_slice {a : Addr} {ws : List W} {tlo thi : TO} {lo hi : Option Int} (ha : EvD K ta ρ μ (.ref a)) (l : isL μ a ws) (hlo : ∀ σ H, S K H σ ρ μ → ∀ Q : Option Int → Hp → Prop, (∀ H2, Ex H H2 → Q lo H2) → tlo σ H Q)
    (hhi : ∀ σ H, S K H σ ρ μ → ∀ Q : Option Int → Hp → Prop, (∀ H2, Ex H H2 → Q hi H2) → thi σ H Q) : EvL K (tSl (rSlL K) ta tlo thi) ρ μ ((ws.drop (HT.sIx ws.length 0 lo)).take (HT.sIx ws.length ws.length hi - HT.sIx ws.length 0 lo)) := fun σ H g Q q =>
  ha σ H g _ fun v H1 e1 d1 => hlo σ H1 (g.mono e1) _ fun H2 e2 => hhi σ H2 (g.mono (e1.trans e2)) _ fun H3 e3 => by
    cases d1
    have e := (e1.trans e2).trans e3
    obtain ⟨vs, h, r⟩ := l.sq (g.2.ex e)
    have hl := dps_len r
    refine ⟨a, vs, rfl, h, fun p hp => q p _ _ (e.trans (Ex.new hp)) (fresh_back e hp) upd_same (dpms (Ex.new hp) ?_)⟩
    unfold cutV
    rw [hl]
    exact dps_take _ (dps_drop _ r)
theorem to_none : ∀ (σ : L2.St) (H : Hp), S K H σ ρ μ → ∀ Q : Option Int → Hp → Prop, (∀ H2, Ex H H2 → Q none H2) → tNoPart σ H Q := fun _ H _ _ q => q H (Ex.refl H)
theorem to_some {i : Int} (h : EvD K te ρ μ (.int i)) : ∀ (σ : L2.St) (H : Hp), S K H σ ρ μ → ∀ Q : Option Int → Hp → Prop, (∀ H2, Ex H H2 → Q (some i) H2) → tPart te σ H Q := fun σ H g Q q => h σ H g _ fun v H1 e1 d1 => by
  cases d1
  exact ⟨i, rfl, q H1 e1⟩
/-- sorted(d), the keys texts -/
def rSrtD : List V → Hp → VK → Prop := fun xs H Q => ∃ (a : Addr) (kvs : List (Key × V)) (ks : List Str), xs = [.ref a] ∧ Rd H a (.dK kvs) ∧ kvs.map (·.1) = ks.map Sum.inr ∧ ks.length < 64 ∧
    ∀ ys p, ys.Perm ks → PyProof.Rows.sortedS ys = true → H p = none → Q (.ref p) (upd H p (.lst (ys.map V.str)))
theorem cr_srtD {X : Cx} (hc : X.calm = true) : CallR X (.builtin "sorted") rSrtD := call_sortedD hc
theorem el_sortedD {ta : TA} {a : Addr} {sd : List (Str × W)} (ha : EvS K ta ρ μ [.ref a]) (l : μ a = some (.dk (encK sd))) (h64 : sd.length < 64) : EvL K (tCB rSrtD ta) ρ μ ((sortS (sd.map (·.1))).map W.str) := fun σ H g Q q =>
  ha σ H g _ fun vs H1 e1 d1 => by
    obtain ⟨v, rfl, dv⟩ := dps1 d1
    cases dv
    obtain ⟨kv, h, r⟩ := g.2.ex e1 a _ l
    refine ⟨a, kv, sd.map (·.1), rfl, .inl h, by rw [rwp_keys r, encK_keys], by rw [List.length_map]; exact h64, fun ys p hp hs hn => ?_⟩
    rw [sorted_only hp hs]
    exact q p _ _ (e1.trans (Ex.new hn)) (fresh_back e1 hn) upd_same (dps_strs _)
/-- sorted(list of texts) -/
def rSrtS (K : Frag) : List V → Hp → VK → Prop := rSortedS K
theorem cr_srtS {X : Cx} : CallR X (.builtin "sorted") (rSrtS X.K) := cr_sortedS
theorem el_sortedS {ks : List Str} (ha : EvL K te ρ μ (ks.map W.str)) (h64 : ks.length < 64) : EvL K (tCB (rSrtS K) (tCons te tNil)) ρ μ ((sortS ks).map W.str) := fun σ H g Q q =>
  ha σ H g _ fun p vs H1 e1 hp h1 r => by
    have ev := dps_strs_of r
    subst ev
    refine ⟨p, ks, rfl, SqL.of h1, h64, fun ys p2 hpm hs hn => ?_⟩
    rw [sorted_only hpm hs]
    exact q p2 _ _ (e1.trans (Ex.new hn)) (fresh_back e1 hn) upd_same (dps_strs _)
/-- tuple(list) -/
def rTupL (K : Frag) : List V → Hp → VK → Prop := fun xs H Q => ∃ p ys, xs = [.ref p] ∧ ((SqL K H p ys ∧ ∀ l, H l = none → Q (.ref l) (upd H l (.tup ys))) ∨ (SqT K H p ys ∧ Q (.ref p) H))
theorem cr_tupL {X : Cx} : CallR X (.type "tuple") (rTupL X.K) := call_tuple_of
theorem ed_tupL {ws : List W} (h : EvL K te ρ μ ws) : EvD K (tCB (rTupL K) (tCons te tNil)) ρ μ (.tup ws) := fun σ H g Q q =>
  h σ H g _ fun p vs H1 e1 _ h1 r => ⟨p, vs, rfl, .inl ⟨SqL.of h1, fun l hl => q _ _ (e1.trans (Ex.new hl)) (.tup (st_of upd_same) (dpms (Ex.new hl) r))⟩⟩
/-! comprehensions -/
theorem wipe1 (σ : L2.St) (j : Nat) (x : Option V) : wipe ((wipe σ [j]).set j x) [j] = wipe σ [j] := by
  show ((σ.set j none).set j x).set j none = σ.set j none
  rw [List.set_set, List.set_set]
/-- [v(x) for x in a new list if f(x)] -/
theorem el_lc {ws : List W} {j : Nat} (f : W → Bool) (v : W → W) (h : EvL K tl ρ μ ws) (hz : ws.length ≤ 40000) (ht : ∀ x, x ∈ ws → EvC K t ((ρ.set j none).set j (some x)) μ (f x)) (he : ∀ x, x ∈ ws → f x = true → EvD K te ((ρ.set j none).set j (some x)) μ (v x)) :
    EvL K (tLc (iList K tl) (gName j) t te [j]) ρ μ ((ws.filter f).map v) := fun σ H g Q q =>
  h σ H g _ fun a us H1 e1 ha h1 r1 => ⟨a, rfl, ⟨us, SqL.of h1⟩, fun D hD => by
    have hl := dps_len r1
    refine lc_list (xs := us) (fun i H' => Ex H1 H' ∧ ∃ acc, H' D = some (.lst acc) ∧ acc.length ≤ i ∧ RwAll K H' acc (((ws.take i).filter f).map v)) ⟨Ex.new hD, [], upd_same, Nat.le_refl _, .nil⟩ (fun i H' _ w => SqL.of (w.1 a _ h1)) (fun i x H' hx w => ?_) (fun H' w => ?_)
    · obtain ⟨ex, acc, hacc, hlen, r⟩ := w
      obtain ⟨y, hy, dy⟩ := dps_to i r1 hx
      have hi : i < us.length := (List.getElem?_eq_some_iff.mp hx).1
      have gg : S K H' ((wipe σ [j]).set j (some x)) ((ρ.set j none).set j (some y)) μ := ((g.mono (e1.trans ex)).hide (v := none) j).put j (dpm ex dy)
      refine ⟨wipe1 σ j (some x), ht y (List.mem_of_getElem? hy) _ _ gg _ fun H3 e3 => ?_⟩
      have ws1 : ws.take (i + 1) = ws.take i ++ [y] := by rw [List.take_add_one, hy]; rfl
      cases hf : f y with
      | true =>
        refine iteT (he y (List.mem_of_getElem? hy) hf _ H3 (gg.mono e3) _ fun u H4 e4 d4 => ?_)
        refine ⟨acc, e4 _ _ (e3 _ _ hacc), sz_lt (by omega), ?_, acc ++ [u], upd_same, by rw [List.length_append]; simp; omega, ?_⟩
        · exact Ex.mut ((ex.trans e3).trans e4) hD
        · have tk : Tk H4 (upd H4 D (.lst (acc ++ [u]))) := Tk.upd (nt_lst (e4 _ _ (e3 _ _ hacc)))
          rw [ws1, List.filter_append, List.map_append]
          have e5 : (List.filter f [y]) = [y] := by rw [List.filter_cons, hf]; rfl
          rw [e5]
          exact dps_app (rwms tk (dpms (e3.trans e4) r)) (.cons (rwm tk d4) .nil)
      | false =>
        refine iteF ⟨ex.trans e3, acc, e3 _ _ hacc, by omega, ?_⟩
        rw [ws1, List.filter_append, List.map_append]
        have e5 : (List.filter f [y]) = [] := by rw [List.filter_cons, hf]; rfl
        rw [e5, List.map_nil, List.append_nil]
        exact dpms e3 r
    · obtain ⟨ex, acc, hacc, hlen, r⟩ := w
      rw [hl, List.take_length] at r
      exact q D acc H' (e1.trans ex) (fresh_back e1 hD) hacc r⟩
theorem ec_yes : EvC K tYes ρ μ true := fun _ H _ _ q => q H (Ex.refl H)
/-- [key for key in d if f(key)] -/
theorem el_lcD {a : Addr} {sd : List (Str × W)} {i j : Nat} (f : Str → Bool) (hi : ρ[i]? = some (some (.ref a))) (l : μ a = some (.dk (encK sd))) (hz : sd.length ≤ 40000) (hj : j < ρ.length)
    (ht : ∀ x, x ∈ sd.map (·.1) → ∀ μ', EvC K t ((ρ.set j none).set j (some (.str x))) μ' (f x)) :
    EvL K (tLockE (tLc (iKeys (tVar i)) (gName j) t (tVar j) [j])) ρ μ (((sd.map (·.1)).filter f).map W.str) := fun σ H g Q q => by
  obtain ⟨va, s1, s2⟩ := g.1.2 i _ hi
  cases s2
  obtain ⟨kv, h, r⟩ := g.2 a _ l
  have hk : kv.map (·.1) = (sd.map (·.1)).map Sum.inr := by rw [rwp_keys r, encK_keys]
  have hlen : kv.length = sd.length := by
    have e := congrArg List.length hk
    simpa using e
  refine ⟨a, .dK kv, h, trivial, fun od => ⟨.ref a, s1, a, od, rfl, .inl ⟨kv, upd_same, fun D hD => ?_⟩⟩⟩
  have hja : D ≠ a := fun e => by
    rw [e, upd_same] at hD
    cases hD
  have hD0 : H D = none := by
    rw [upd_ne hja] at hD
    exact hD
  refine ⟨fun n m H' => m = kv.length - n ∧ n ≤ kv.length ∧ Ex (upd H a (.frz od (.dK kv))) H' ∧ H' D = some (.lst ((((sd.map (·.1)).take n).filter f).map V.str)), ⟨kv.length, by simp, Nat.zero_le _, Ex.new hD, upd_same⟩, ?_⟩
  rintro n m H' ⟨rfl, hn, ex, hacc⟩
  have hfa : H' a = some (.frz od (.dK kv)) := ex _ _ upd_same
  by_cases hlt : n < kv.length
  · refine .inr ⟨⟨hfa, hlt⟩, fun H2 => Ex (upd H a (.frz od (.dK kv))) H2 ∧ H2 D = some (.lst ((((sd.map (·.1)).take (n + 1)).filter f).map V.str)), fun H2 w => ⟨kv.length - (n + 1), by omega, rfl, hlt, w⟩, fun x H2 y => ?_⟩
    obtain ⟨rfl, kk, vv, hkv, rfl⟩ := y
    have hkk : (kv.map (·.1))[n]? = some kk := by rw [List.getElem?_map, hkv]; rfl
    rw [hk, List.getElem?_map] at hkk
    cases hz2 : (sd.map (·.1))[n]? with
    | none =>
      rw [hz2] at hkk
      cases hkk
    | some z =>
      rw [hz2] at hkk
      have ek : Sum.inr z = kk := Option.some.inj hkk
      subst ek
      have tk0 : Tk H H2 := fun b xs rd => by
        have nb : b ≠ a := fun e => nt_dk h xs (e ▸ rd)
        rcases rd with rd | ⟨ob, rd⟩
        · exact .inl (ex _ _ (by rw [upd_ne nb]; exact rd))
        · exact .inr ⟨ob, ex _ _ (by rw [upd_ne nb]; exact rd)⟩
      have mz : Mem K H2 (fun _ => none) := fun _ _ e => by cases e
      have gg : S K H2 ((wipe σ [j]).set j (some (.str z))) ((ρ.set j none).set j (some (.str z))) (fun _ => none) :=
        ⟨((g.1.tk tk0).hide (v := none) j).put j (.str z), mz⟩
      refine ⟨wipe1 σ j (some (.str z)), ht z (List.mem_of_getElem? hz2) (fun _ => none) _ _ gg _ fun H3 e3 => ?_⟩
      have ws1 : (sd.map (·.1)).take (n + 1) = (sd.map (·.1)).take n ++ [z] := by rw [List.take_add_one, hz2]; rfl
      cases hf : f z with
      | true =>
        have hsl : ((wipe σ [j]).set j (some (V.str z)))[j]? = some (some (.str z)) := by
          rw [List.getElem?_set, if_pos rfl, if_pos (by rw [wipe_length, g.1.1]; exact hj)]
        refine iteT ⟨.str z, hsl, _, e3 _ _ hacc, ?_, Ex.mut (ex.trans e3) hD, ?_⟩
        · refine sz_lt ?_
          have h1 := List.length_filter_le f ((sd.map (·.1)).take n)
          rw [List.length_map]
          rw [List.length_take, List.length_map] at h1
          omega
        · rw [ws1, List.filter_append, List.map_append]
          have e5 : (List.filter f [z]) = [z] := by rw [List.filter_cons, hf]; rfl
          rw [e5]
          exact upd_same
      | false =>
        refine iteF ⟨ex.trans e3, ?_⟩
        rw [ws1, List.filter_append]
        have e5 : (List.filter f [z]) = [] := by rw [List.filter_cons, hf]; rfl
        rw [e5, List.append_nil]
        exact e3 _ _ hacc
  · have en : n = kv.length := by omega
    subst en
    refine .inl ⟨⟨hfa, Nat.le_refl _⟩, hfa, ?_⟩
    have hall : (sd.map (·.1)).take kv.length = sd.map (·.1) := by
      rw [hlen]
      have e : (sd.map (·.1)).length = sd.length := List.length_map _
      rw [← e, List.take_length]
    rw [hall] at hacc
    refine q D _ _ (fun b o hb => ?_) hD0 ?_ (dps_strs _)
    · by_cases hb2 : b = a
      · subst hb2
        rw [upd_same, ← hb, h]
      · rw [upd_ne hb2]
        exact ex _ _ (by rw [upd_ne hb2]; exact hb)
    · rw [upd_ne hja]
      exact hacc
end
end Pw

namespace Pw
open PySem L2 Evl
open Pd (sLt)
/-- the store only grows -/
def Grow (μ μ' : Mu) : Prop := ∀ a o, μ a = some o → μ' a = some o
theorem Grow.refl (μ : Mu) : Grow μ μ := fun _ _ h => h
theorem Grow.trans {μ μ1 μ2 : Mu} (a : Grow μ μ1) (b : Grow μ1 μ2) : Grow μ μ2 := fun c o h => b c o (a c o h)
theorem Grow.new {μ : Mu} {p : Addr} {o : O} (h : μ p = none) : Grow μ (mset μ p o) := fun a u e => by
  by_cases q : a = p
  · rw [q, h] at e
    cases e
  · rw [mset_ne q]
    exact e
/-- .. but for the object at a -/
def Upd (a : Addr) (o : O) (μ μ' : Mu) : Prop := μ' a = some o ∧ ∀ b u, b ≠ a → μ b = some u → μ' b = some u
theorem Upd.set {a : Addr} {o : O} {μ : Mu} : Upd a o μ (mset μ a o) := ⟨mset_same, fun b u n h => by rw [mset_ne n]; exact h⟩
theorem Upd.grow {a : Addr} {o : O} {μ μ1 μ2 : Mu} (h : Upd a o μ μ1) (g : Grow μ1 μ2) : Upd a o μ μ2 := ⟨g _ _ h.1, fun b u n e => g _ _ (h.2 b u n e)⟩
theorem Grow.upd {a : Addr} {o u : O} {μ μ1 : Mu} (g : Grow μ μ1) (h : μ a = some u) (e : u = o) : Upd a o μ μ1 := ⟨by rw [← e]; exact g _ _ h, fun b _ _ q => g _ _ q⟩
theorem isL.grow {μ μ' : Mu} {a : Addr} {ws : List W} (l : isL μ a ws) (g : Grow μ μ') : isL μ' a ws := by
  rcases l with l | l
  · exact .inl (g _ _ l)
  · exact .inr (g _ _ l)
mutual
theorem Dw.grow {μ μ' : Mu} (g : Grow μ μ') : ∀ {w : W} {d : PyData}, Dw μ w d → Dw μ' w d
  | _, _, .non => .non
  | _, _, .bl => .bl
  | _, _, .int => .int
  | _, _, .str => .str
  | _, _, .tup h => .tup (DwAll.grow g h)
  | _, _, .lst l h => .lst (l.grow g) (DwAll.grow g h)
theorem DwAll.grow {μ μ' : Mu} (g : Grow μ μ') : ∀ {ws : List W} {ds : List PyData}, DwAll μ ws ds → DwAll μ' ws ds
  | _, _, .nil => .nil
  | _, _, .cons h hs => .cons (Dw.grow g h) (DwAll.grow g hs)
end
/-- a good value, at most n deep; a good row of values -/
def Good (n : Nat) (μ : Mu) (w : W) : Prop := ∃ d, Dw μ w d ∧ okD d ∧ PyData.depth d ≤ n
theorem Good.grow {n : Nat} {μ μ' : Mu} {w : W} (h : Good n μ w) (g : Grow μ μ') : Good n μ' w := by
  obtain ⟨d, z, k, q⟩ := h
  exact ⟨d, z.grow g, k, q⟩
theorem Good.le {n m : Nat} {μ : Mu} {w : W} (h : Good n μ w) (l : n ≤ m) : Good m μ w := by
  obtain ⟨d, z, k, q⟩ := h
  exact ⟨d, z, k, Nat.le_trans q l⟩
theorem goods {n : Nat} {μ : Mu} : ∀ {ws : List W}, (∀ w ∈ ws, Good n μ w) → ∃ ds, DwAll μ ws ds ∧ okDs ds ∧ PyData.depthAll ds ≤ n
  | [], _ => ⟨[], .nil, by unfold okDs; trivial, Nat.zero_le _⟩
  | w :: r, h => by
    obtain ⟨d, z, k, q⟩ := h w (List.mem_cons_self ..)
    obtain ⟨ds, zs, ks, qs⟩ := goods (ws := r) fun u hu => h u (List.mem_cons_of_mem _ hu)
    exact ⟨d :: ds, .cons z zs, by unfold okDs; exact ⟨k, ks⟩, by unfold PyData.depthAll; exact Nat.max_le.mpr ⟨q, qs⟩⟩
theorem good_tup {n : Nat} {μ : Mu} {ws : List W} (h : ∀ w ∈ ws, Good n μ w) : Good (n + 1) μ (.tup ws) := by
  obtain ⟨ds, z, k, q⟩ := goods h
  exact ⟨.tuple ds, .tup z, by unfold okD; exact k, by unfold PyData.depth; omega⟩
theorem good_lst {n : Nat} {μ : Mu} {a : Addr} {ws : List W} (l : isL μ a ws) (h : ∀ w ∈ ws, Good n μ w) : Good (n + 1) μ (.ref a) := by
  obtain ⟨ds, z, k, q⟩ := goods h
  exact ⟨.list ds, .lst l z, by unfold okD; exact k, by unfold PyData.depth; omega⟩
theorem good_str {n : Nat} {μ : Mu} {x : Str} (h : okS x) : Good n μ (.str x) := ⟨.str x, .str, by unfold okD; exact h, Nat.zero_le _⟩
theorem good_int {n : Nat} {μ : Mu} {i : Int} : Good n μ (.int i) := ⟨.int i, .int, by unfold okD; trivial, Nat.zero_le _⟩
theorem good_bl {n : Nat} {μ : Mu} {i : Bool} : Good n μ (.bl i) := ⟨.bool i, .bl, by unfold okD; trivial, Nat.zero_le _⟩
theorem good_non {n : Nat} {μ : Mu} : Good n μ .non := ⟨.none, .non, by unfold okD; trivial, Nat.zero_le _⟩
mutual
theorem canLay_ok : ∀ {d : PyData}, okD d → PyData.canLay0 d = true
  | .none, _ => rfl
  | .bool _, _ => rfl
  | .int _, _ => rfl
  | .str x, h => by
    unfold okD at h
    exact h.2
  | .list xs, h => by
    unfold okD at h
    unfold PyData.canLay0
    exact canLays_ok h
  | .tuple xs, h => by
    unfold okD at h
    unfold PyData.canLay0
    exact canLays_ok h
  | .dict _, h => by
    unfold okD at h
    exact h.elim
theorem canLays_ok : ∀ {ds : List PyData}, okDs ds → PyData.canLayAll0 ds = true
  | [], _ => rfl
  | d :: r, h => by
    unfold okDs at h
    unfold PyData.canLayAll0
    rw [canLay_ok h.1, canLays_ok h.2]
    rfl
end
theorem shaped_ok {d : PyData} {n : Nat} (h : okD d) (q : PyData.depth d ≤ n) (l : n ≤ 64) : SeqAt.shaped d = true := by
  unfold SeqAt.shaped
  rw [canLay_ok h, decide_eq_true (Nat.le_trans q l)]
  rfl
section
variable {K : Frag} {E : XK} {ρ : Rho} {μ : Mu} {te tl ta tb td ty tx : TE} {t u : TT} {t1 t2 : TS} {X : Value → Mu → Prop} {N : Rho → Mu → Prop} {R : W → Mu → Prop}
/-! tuples: +, slices -/
theorem ed_catA {xs ys : List W} (ha : EvD K ta ρ μ (.tup xs)) (hb : EvD K tb ρ μ (.tup ys)) (hl : xs.length + ys.length ≤ 100000) : EvD K (tOp (rCatA K) ta tb) ρ μ (.tup (xs ++ ys)) := ed_two ha hb fun H v w Q dv dw k => by
  cases dv with
  | @tup a vs _ h hs =>
  cases dw with
  | @tup b us _ g gs =>
  have l1 := dps_len hs
  have l2 := dps_len gs
  refine ⟨a, b, vs, us, rfl, rfl, h, g, sz_of (by omega), fun e => ?_, fun _ e => ?_, fun _ _ p hp => ?_⟩
  · subst e
    cases hs
    exact k _ H (Ex.refl H) (.tup g gs)
  · subst e
    cases gs
    rw [List.append_nil] at k
    exact k _ H (Ex.refl H) (.tup h hs)
  · exact k _ _ (Ex.new hp) (.tup (st_of upd_same) (dpms (Ex.new hp) (dps_app hs gs)))
def cutW (ws : List W) (lo hi : Option Int) : List W := (ws.drop (HT.sIx ws.length 0 lo)).take (HT.sIx ws.length ws.length hi - HT.sIx ws.length 0 lo)
theorem ed_slA {ws : List W} {tlo thi : TO} {lo hi : Option Int} (ha : EvD K ta ρ μ (.tup ws)) (hlo : ∀ σ H, S K H σ ρ μ → ∀ Q : Option Int → Hp → Prop, (∀ H2, Ex H H2 → Q lo H2) → tlo σ H Q)
    (hhi : ∀ σ H, S K H σ ρ μ → ∀ Q : Option Int → Hp → Prop, (∀ H2, Ex H H2 → Q hi H2) → thi σ H Q) : EvD K (tSl (rSlA K) ta tlo thi) ρ μ (.tup (cutW ws lo hi)) := fun σ H g Q q =>
  ha σ H g _ fun v H1 e1 d1 => hlo σ H1 (g.mono e1) _ fun H2 e2 => hhi σ H2 (g.mono (e1.trans e2)) _ fun H3 e3 => by
    have e := (e1.trans e2).trans e3
    cases d1 with
    | @tup a vs _ h hs =>
    have hl := dps_len hs
    have h3 := ex_t (e2.trans e3) h
    have r3 := dpms (e2.trans e3) hs
    have rc : RwAll K H3 (cutV vs lo hi) (cutW ws lo hi) := by
      unfold cutV cutW
      rw [hl]
      exact dps_take _ (dps_drop _ r3)
    refine ⟨a, vs, rfl, h3, fun w => ?_, fun _ p hp => q _ _ (e.trans (Ex.new hp)) (.tup (st_of upd_same) (dpms (Ex.new hp) rc))⟩
    have ec : cutW ws lo hi = ws := by
      unfold cutW
      rw [hl] at w
      rw [w.1, w.2, List.drop_zero, Nat.sub_zero, List.take_length]
    rw [ec] at q
    exact q _ H3 e (.tup h3 r3)
theorem cutW_mem {ws : List W} {lo hi : Option Int} {w : W} (h : w ∈ cutW ws lo hi) : w ∈ ws := List.mem_of_mem_drop (List.mem_of_mem_take h)
theorem cutW_len (ws : List W) (lo hi : Option Int) : (cutW ws lo hi).length ≤ ws.length := by
  unfold cutW
  rw [List.length_take, List.length_drop]
  omega
/-! list(t) -/
def rLstT (K : Frag) : List V → Hp → VK → Prop := fun xs H Q => ∃ p ys, xs = [.ref p] ∧ (SqL K H p ys ∨ SqT K H p ys) ∧ ∀ l, H l = none → Q (.ref l) (upd H l (.lst ys))
theorem cr_lstT {X : Cx} : CallR X (.type "list") (rLstT X.K) := call_list_of
theorem el_listT {ta : TA} {ws : List W} (h : EvS K ta ρ μ [.tup ws]) : EvL K (tCB (rLstT K) ta) ρ μ ws := fun σ H g Q q =>
  h σ H g _ fun vs H1 e1 d1 => by
    obtain ⟨v, rfl, dv⟩ := dps1 d1
    cases dv with
    | @tup a us _ h hs => exact ⟨a, us, rfl, .inr h, fun l hl => q l _ _ (e1.trans (Ex.new hl)) (fresh_back e1 hl) upd_same (dpms (Ex.new hl) hs)⟩
/-! a text times a number -/
def rRepS : R2 := fun x y H Q => ∃ z i, x = .str z ∧ y = .int i ∧ MulOk z i ∧ Q (.str (Txt.mul z i)) H
theorem op_repS {X : Cx} : OpR X (binaryOp .Mult) rRepS := by
  intro pins s σ H x y v u Q I rx ry h
  obtain ⟨z, i, rfl, rfl, ok, q⟩ := h
  obtain ⟨t, rfl⟩ := rx
  obtain ⟨t', rfl⟩ := ry
  exact SB.mul ok fun t2 k => ⟨.str (Txt.mul z i), H, I.tok _, ⟨_, rfl⟩, q⟩
theorem ed_repS {z : Str} {i : Int} (ha : EvD K ta ρ μ (.str z)) (hb : EvD K tb ρ μ (.int i)) (ok : MulOk z i) : EvD K (tOp rRepS ta tb) ρ μ (.str (Txt.mul z i)) := ed_two ha hb fun H v w Q dv dw k => by
  cases dv
  cases dw
  exact ⟨z, i, rfl, rfl, ok, k _ H (Ex.refl H) (.str _)⟩
/-! in a row of texts that is written there -/
theorem ed_inLs {ta' : TA} {z : Str} {zs : List Str} (ha : EvD K ta ρ μ (.str z)) (hb : EvS K ta' ρ μ (zs.map W.str)) (hl : zs.length ≤ 100000) : EvD K (tOp (rIn K false) ta (tLst ta')) ρ μ (.bl (decide (z ∈ zs))) := fun σ H g Q q =>
  ha σ H g _ fun v H1 e1 d1 => hb σ H1 (g.mono e1) _ fun vs H2 e2 d2 => ⟨sz_of (by rw [dps_len d2, List.length_map]; exact hl), fun p hp => by
    cases d1
    have ev := dps_strs_of d2
    subst ev
    refine ⟨p, zs.map V.str, rfl, .inl (SqL.of upd_same), rfl, ?_, ?_⟩
    · rw [List.all_map]
      exact List.all_eq_true.mpr fun _ _ => rfl
    · have e : inV (V.str z) (zs.map V.str) = decide (z ∈ zs) := by
        rw [Bool.eq_iff_iff, decide_eq_true_eq]
        unfold inV
        rw [List.any_eq_true]
        constructor
        · rintro ⟨y, hy, e⟩
          obtain ⟨u, hu, rfl⟩ := List.mem_map.mp hy
          have e2 : (u == z) = true := e
          rw [← eq_of_beq e2]
          exact hu
        · intro hz
          exact ⟨V.str z, List.mem_map.mpr ⟨z, hz, rfl⟩, (beq_self_eq_true z : (z == z) = true)⟩
      rw [e]
      exact q _ _ ((e1.trans e2).trans (Ex.new hp)) (.bl _)⟩
/-! arguments that change the store -/
def EvA (K : Frag) (E : XK) (ta : TA) (ρ : Rho) (μ : Mu) (P : List W → Mu → Prop) (X : Value → Mu → Prop) : Prop := ∀ (σ : L2.St) (H : Hp), S K H σ ρ μ → ∀ Q : List V → Hp → Prop, (∀ ws μ' vs H', P ws μ' → Tk H H' → S K H' σ ρ μ' → RwAll K H' vs ws → Q vs H') →
  (∀ c μ' H', X c μ' → Tk H H' → Mem K H' μ' → E c none H') → ta σ H Q
theorem ea_pure {ta : TA} {P : List W → Mu → Prop} {ws : List W} (h : EvS K ta ρ μ ws) (p : P ws μ) : EvA K E ta ρ μ P X := fun σ H g Q q _ => h σ H g _ fun vs H1 e1 d1 => q ws μ vs H1 p (Tk.ex e1) (g.mono e1) d1
theorem ea_cons {tr : TA} {P : W → Mu → Prop} {P2 : List W → Mu → Prop} (h : EvW K E te ρ μ P X) (hs : ∀ w μ1, P w μ1 → EvA K E tr ρ μ1 (fun ws μ2 => P2 (w :: ws) μ2) X) : EvA K E (tCons te tr) ρ μ P2 X := fun σ H g Q q hX =>
  h σ H g _ (fun w μ1 v H1 p e1 g1 dv => hs w μ1 p σ H1 g1 _ (fun ws μ2 vs H2 p2 e2 g2 ds => q (w :: ws) μ2 (v :: vs) H2 p2 (e1.trans e2) g2 (.cons (rwm e2 dv) ds)) fun c μ2 H2 x e2 => hX c μ2 H2 x (e1.trans e2)) hX
theorem ea_consP {tr : TA} {w : W} {P2 : List W → Mu → Prop} (h : EvD K te ρ μ w) (hs : EvA K E tr ρ μ (fun ws μ2 => P2 (w :: ws) μ2) X) : EvA K E (tCons te tr) ρ μ P2 X :=
  ea_cons (P := fun u μ1 => u = w ∧ μ1 = μ) (ew_pure h ⟨rfl, rfl⟩) fun u μ1 p => by
    obtain ⟨rfl, rfl⟩ := p
    exact hs
theorem ew_tup {ta : TA} {P : List W → Mu → Prop} {P2 : W → Mu → Prop} (h : EvA K E ta ρ μ P X) (hp : ∀ ws μ', P ws μ' → ws.length ≤ 100000 ∧ P2 (.tup ws) μ') : EvW K E (tTup ta) ρ μ P2 X := fun σ H g Q q hX =>
  h σ H g _ (fun ws μ1 vs H1 p e1 g1 ds => ⟨sz_of (by rw [dps_len ds]; exact (hp ws μ1 p).1), fun a ha => q _ μ1 _ _ (hp ws μ1 p).2 (e1.trans (Tk.ex (Ex.new ha))) (g1.mono (Ex.new ha)) (.tup (st_of upd_same) (dpms (Ex.new ha) ds))⟩) hX
theorem ew_lstA {ta : TA} {P : List W → Mu → Prop} {P2 : W → Mu → Prop} (h : EvA K E ta ρ μ P X) (hp : ∀ ws μ', P ws μ' → ws.length ≤ 100000 ∧ ∀ p, μ' p = none → P2 (.ref p) (mset μ' p (.ls ws))) : EvW K E (tLst ta) ρ μ P2 X := fun σ H g Q q hX =>
  h σ H g _ (fun ws μ1 vs H1 p e1 g1 ds => ⟨sz_of (by rw [dps_len ds]; exact (hp ws μ1 p).1), fun a ha => by
    have tk := Tk.ex (Ex.new (o := .lst vs) ha)
    exact q _ (mset μ1 a (.ls ws)) _ _ ((hp ws μ1 p).2 a (g1.2.free ha)) (e1.trans tk) ⟨g1.1.tk tk, g1.2.put (nt_none ha) ⟨vs, upd_same, dpms (Ex.new ha) ds⟩⟩ (.ref a)⟩) hX
theorem ew_callA {Wf : List W → Mu → (W → Mu → Prop) → (Value → Mu → Prop) → Prop} {ta : TA} {Pa : List W → Mu → Prop} {P : W → Mu → Prop} (h : EvA K E ta ρ μ Pa X) (hw : ∀ ws μ', Pa ws μ' → Wf ws μ' P X) : EvW K E (tCall (spM K Wf) [] E ta) ρ μ P X := fun σ H g Q q hX =>
  h σ H g _ (fun ws μ1 vs H1 p e1 g1 ds => by
    show spM K Wf (vs ++ []) H1 Q E
    rw [List.append_nil]
    exact ⟨ws, μ1, P, X, ds, g1.2, hw ws μ1 p, fun w μ' v H2 p e2 m2 d2 => q w μ' v H2 p (e1.trans e2) ⟨g1.1.tk e2, m2⟩ d2, fun c μ' H2 x e2 m2 => hX c μ' H2 x (e1.trans e2) m2⟩) hX
/-- two operands, of which each may change the store -/
theorem ew_two {r : R2} {P1 : W → Mu → Prop} {P2 : W → W → Mu → Prop} {P : W → Mu → Prop} (ha : EvW K E ta ρ μ P1 X) (hb : ∀ x μ1, P1 x μ1 → EvW K E tb ρ μ1 (P2 x) X)
    (hr : ∀ x y μ2, P2 x y μ2 → ∀ (σ : L2.St) (H : Hp) (v w : V) (Q : VK), S K H σ ρ μ2 → Rw K H v x → Rw K H w y → (∀ z μ3 u H', P z μ3 → Tk H H' → S K H' σ ρ μ3 → Rw K H' u z → Q u H') → r v w H Q) : EvW K E (tOp r ta tb) ρ μ P X := fun σ H g Q q hX =>
  ha σ H g _ (fun x μ1 v H1 p1 e1 g1 dv => hb x μ1 p1 σ H1 g1 _ (fun y μ2 w H2 p2 e2 g2 dw => hr x y μ2 p2 σ H2 v w Q g2 (rwm e2 dv) dw fun z μ3 u H3 p3 e3 g3 du => q z μ3 u H3 p3 ((e1.trans e2).trans e3) g3 du) fun c μ2 H2 x e2 => hX c μ2 H2 x (e1.trans e2)) hX
/-- t + u, where u is made on the way -/
theorem ew_catA {P1 : W → Mu → Prop} {P2 : W → W → Mu → Prop} {P : W → Mu → Prop} (ha : EvW K E ta ρ μ P1 X) (hb : ∀ x μ1, P1 x μ1 → EvW K E tb ρ μ1 (P2 x) X)
    (hp : ∀ x y μ2, P2 x y μ2 → ∃ xs ys, x = .tup xs ∧ y = .tup ys ∧ xs.length + ys.length ≤ 100000 ∧ P (.tup (xs ++ ys)) μ2) : EvW K E (tOp (rCatA K) ta tb) ρ μ P X :=
  ew_two ha hb fun x y μ2 p2 σ H v w Q g dv dw k => by
    obtain ⟨xs, ys, rfl, rfl, hl, hP⟩ := hp x y μ2 p2
    cases dv with
    | @tup a vs _ h hs =>
    cases dw with
    | @tup b us _ gt gs =>
    have l1 := dps_len hs
    have l2 := dps_len gs
    refine ⟨a, b, vs, us, rfl, rfl, h, gt, sz_of (by omega), fun e => ?_, fun _ e => ?_, fun _ _ p hp => ?_⟩
    · subst e
      cases hs
      exact k _ μ2 _ H hP (Tk.refl H) g (.tup gt gs)
    · subst e
      cases gs
      rw [List.append_nil] at hP
      exact k _ μ2 _ H hP (Tk.refl H) g (.tup h hs)
    · exact k _ μ2 _ _ hP (Tk.ex (Ex.new hp)) (g.mono (Ex.new hp)) (.tup (st_of upd_same) (dpms (Ex.new hp) (dps_app hs gs)))
/-- xs + ys, lists of the store -/
theorem ew_cat {P1 : W → Mu → Prop} {P2 : W → W → Mu → Prop} {P : W → Mu → Prop} (ha : EvW K E ta ρ μ P1 X) (hb : ∀ x μ1, P1 x μ1 → EvW K E tb ρ μ1 (P2 x) X)
    (hp : ∀ x y μ2, P2 x y μ2 → ∃ a b xs ys, x = .ref a ∧ y = .ref b ∧ μ2 a = some (.ls xs) ∧ μ2 b = some (.ls ys) ∧ xs.length + ys.length ≤ 100000 ∧ ∀ p, μ2 p = none → P (.ref p) (mset μ2 p (.ls (xs ++ ys)))) : EvW K E (tOp rCat ta tb) ρ μ P X :=
  ew_two ha hb fun x y μ2 p2 σ H v w Q g dv dw k => by
    obtain ⟨a, b, xs, ys, rfl, rfl, la, lb, hl, hP⟩ := hp x y μ2 p2
    cases dv
    cases dw
    obtain ⟨vs, h1, r1⟩ := g.2 a _ la
    obtain ⟨us, h2, r2⟩ := g.2 b _ lb
    have l1 := dps_len r1
    have l2 := dps_len r2
    refine ⟨a, b, vs, us, rfl, rfl, h1, h2, sz_of (by omega), fun p hp => ?_⟩
    have tk := Tk.ex (Ex.new (o := .lst (vs ++ us)) hp)
    exact k _ (mset μ2 p (.ls (xs ++ ys))) _ _ (hP p (g.2.free hp)) tk ⟨g.1.tk tk, g.2.put (nt_none hp) ⟨_, upd_same, dpms (Ex.new hp) (dps_app r1 r2)⟩⟩ (.ref p)
/-! d.pop(k, x) as a statement -/
theorem rm_dpop2 {a : Addr} {kvs : List (Key × W)} {k : Key} {x : W} (hd : EvD K td ρ μ (.ref a)) (hk : EvD K ty ρ μ (kW k)) (hx : EvD K tx ρ μ x) (l : μ a = some (.dk kvs)) (hn : N ρ (mset μ a (.dk (dropW kvs k)))) (same : valW kvs k = none → dropW kvs k = kvs) :
    RunM K E (tDrop (tDPop2 td ty tx)) ρ μ N R X := fun D σ H g hN hR hX =>
  hd σ H g _ fun u H1 e1 d1 => by
    cases d1
    obtain ⟨kv1, h1, r1⟩ := g.2.ex e1 a _ l
    refine ⟨a, rfl, .inl ⟨_, .inl h1⟩, hk σ H1 (g.mono e1) _ fun y H2 e2 d2 => hx σ H2 (g.mono (e1.trans e2)) _ fun z H3 e3 d3 => ?_⟩
    have e := (e1.trans e2).trans e3
    obtain ⟨kv, h, r⟩ := g.2.ex e a _ l
    have tk := Tk.upd (o := .dK (dropK kv k)) (nt_dk h)
    refine ⟨kv, k, h, kv_of d2, fun v hv => ?_, fun hv => ?_⟩
    · have t := (Tk.ex e).trans tk
      exact hN ρ (mset μ a (.dk (dropW kvs k))) σ _ hn t ⟨g.1.tk t, (g.2.ex e).put (nt_dk h) ⟨_, upd_same, rwp_drop (rwpm tk r)⟩⟩
    · have hv2 : valW kvs k = none := by
        cases f : valW kvs k with
        | none => rfl
        | some w =>
          obtain ⟨u, f1, _⟩ := (rwp_val r).2 w f
          rw [hv] at f1
          cases f1
      have em : mset μ a (.dk (dropW kvs k)) = μ := by
        funext b
        by_cases hb : b = a
        · rw [hb, mset_same, same hv2, l]
        · rw [mset_ne hb]
      rw [em] at hn
      exact hN ρ μ σ _ hn (Tk.ex e) (g.mono e)
/-! comprehension over range(n) -/
theorem el_lcR {ta : TA} {j : Nat} {n : Int} (v : Int → W) (h : EvS K ta ρ μ [.int n]) (hn : 0 ≤ n ∧ n ≤ 40000) (he : ∀ i : Nat, (i : Int) < n → EvD K te ((ρ.set j none).set j (some (.int (i : Int)))) μ (v (i : Int))) :
    EvL K (tLc (iRng1 ta) (gName j) tYes te [j]) ρ μ ((List.range n.toNat).map fun (i : Nat) => v (i : Int)) := fun σ H g Q q =>
  h σ H g _ fun vs H1 e1 d1 => by
    obtain ⟨u, rfl, du⟩ := dps1 d1
    cases du
    refine ⟨n, rfl, by omega, by omega, fun D hD => lc_range (lo := 0) (n := n.toNat) (fun i H' => Ex H1 H' ∧ ∃ acc, H' D = some (.lst acc) ∧ acc.length ≤ i ∧ RwAll K H' acc ((List.range i).map fun (i : Nat) => v (i : Int))) ⟨Ex.new hD, [], upd_same, Nat.le_refl _, .nil⟩ (fun i H' hi w => ?_) (fun H' w => ?_)⟩
    · obtain ⟨ex, acc, hacc, hlen, r⟩ := w
      have gg : S K H' ((wipe σ [j]).set j (some (.int (i : Int)))) ((ρ.set j none).set j (some (.int (i : Int)))) μ := ((g.mono (e1.trans ex)).hide (v := none) j).put j (.int _)
      show (fun σ2 H2 => _) ((wipe σ [j]).set j (some (.int ((0 : Int) + (i : Int))))) H'
      rw [Int.zero_add]
      refine ⟨wipe1 σ j (some (.int (i : Int))), ?_⟩
      show te ((wipe σ [j]).set j (some (.int (i : Int)))) H' _
      refine he i (by omega) _ H' gg _ fun u H4 e4 d4 => ?_
      refine ⟨acc, e4 _ _ hacc, sz_lt (by omega), Ex.mut (ex.trans e4) hD, acc ++ [u], upd_same, by rw [List.length_append]; simp; omega, ?_⟩
      have tk : Tk H4 (upd H4 D (.lst (acc ++ [u]))) := Tk.upd (nt_lst (e4 _ _ hacc))
      rw [List.range_succ, List.map_append]
      exact dps_app (rwms tk (dpms e4 r)) (.cons (rwm tk d4) .nil)
    · obtain ⟨ex, acc, hacc, hlen, r⟩ := w
      exact q D acc H' (e1.trans ex) (fresh_back e1 hD) hacc r
end
end Pw

namespace Pw
open PySem L2 Evl
open Pd (sLt abc)
def vals3 : List Str := ["x", "y", ""]
def valueF (r : Int) : Str := if r % 4 < 3 then vals3.getD (r / 4 % 3).toNat "" else Pd.word (r / 4 % 41) printable (r / 164)
def answerB : PyData → Bool
  | .tuple (.str k :: r) =>
    if k = "value" ∨ k = "other" then toldB (.str k :: r) else if k = "none" ∨ k = "done" then decide (r.length = 0) else if k = "page" then pageB (.str k :: r) else false
  | _ => false
theorem all_strOk {x : Str} : PyData.strOk x = true ↔ ∀ c ∈ x.cps.toList, c < 0x110000 := by
  unfold PyData.strOk
  rw [← Array.all_toList, List.all_eq_true]
  simp
theorem strOk_app {x y : Str} (hx : PyData.strOk x = true) (hy : PyData.strOk y = true) : PyData.strOk (x ++ y) = true := by
  rw [all_strOk] at *
  intro c hc
  have e : (x ++ y).cps.toList = x.cps.toList ++ y.cps.toList := by
    show (x.cps ++ y.cps).toList = _
    rw [Array.toList_append]
  rw [e, List.mem_append] at hc
  rcases hc with h | h
  · exact hx c h
  · exact hy c h
theorem sign_ok {ch : Str} (h : PyData.strOk ch = true) (r : Int) : Pd.sign ch r < 0x110000 := by
  unfold Pd.sign
  rw [List.getD_eq_getElem?_getD]
  cases e : ch.cps.toList[(r % (ch.length : Int)).toNat]? with
  | none => exact (by decide : 0 < 0x110000)
  | some c => exact all_strOk.mp h c (List.mem_of_getElem? e)
theorem strOk_wst {ch : Str} (h : PyData.strOk ch = true) (seed : Int) : ∀ n, PyData.strOk (Pd.wst ch seed n).1 = true
  | 0 => by
    show PyData.strOk "" = true
    decide +kernel
  | n + 1 => by
    show PyData.strOk ((Pd.wst ch seed n).1 ++ (⟨#[Pd.sign ch (Pd.wst ch seed n).2]⟩ : Str)) = true
    refine strOk_app (strOk_wst h seed n) (all_strOk.mpr fun c hc => ?_)
    have e : c = Pd.sign ch (Pd.wst ch seed n).2 := by simpa using hc
    rw [e]
    exact sign_ok h _
theorem okS_word {ch : Str} (h : PyData.strOk ch = true) {n : Int} (seed : Int) (hn : n ≤ 1000) : okS (Pd.word n ch seed) := by
  refine ⟨?_, strOk_wst h seed _⟩
  unfold Pd.word
  rw [Pd.wst_len]
  omega
theorem okS_lit {x : Str} (h : (decide (x.length ≤ 1000) && PyData.strOk x) = true) : okS x := ⟨of_decide_eq_true (Bool.and_eq_true_iff.mp h).1, (Bool.and_eq_true_iff.mp h).2⟩
theorem okS_mem {zs : List Str} (h : zs.all (fun x => decide (x.length ≤ 1000) && PyData.strOk x) = true) {x : Str} (hx : x ∈ zs) : okS x := okS_lit (List.all_eq_true.mp h x hx)
theorem okS_getD {zs : List Str} (h : zs.all (fun x => decide (x.length ≤ 1000) && PyData.strOk x) = true) (i : Nat) : okS (zs.getD i "") := by
  rw [List.getD_eq_getElem?_getD]
  cases e : zs[i]? with
  | none => exact okS_lit (by decide +kernel)
  | some x => exact okS_mem h (List.mem_of_getElem? e)
theorem okS_key (r : Int) : okS (Pd.keyF r) := by
  unfold Pd.keyF
  split
  · exact okS_getD (by decide +kernel) _
  · refine okS_word (by decide +kernel) _ ?_
    have := Int.emod_lt_of_pos (r / 4) (show (0 : Int) < 8 by decide)
    omega
theorem okS_value (r : Int) : okS (valueF r) := by
  unfold valueF
  split
  · exact okS_getD (by decide +kernel) _
  · refine okS_word (by decide +kernel) _ ?_
    have := Int.emod_lt_of_pos (r / 4) (show (0 : Int) < 41 by decide)
    omega
/-! dicts from texts to texts -/
def encS (m : List (Str × Str)) : List (Key × W) := m.map fun p => (Sum.inr p.1, W.str p.2)
def putS (m : List (Str × Str)) (k v : Str) : List (Str × Str) := if (m.any fun p => decide (p.1 = k)) = true then m.map (fun p => if p.1 = k then (p.1, v) else p) else m ++ [(k, v)]
def dropS (m : List (Str × Str)) (k : Str) : List (Str × Str) := m.filter fun p => decide (p.1 ≠ k)
def valS (m : List (Str × Str)) (k : Str) : Option Str := (m.find? fun p => decide (p.1 = k)).map (·.2)
theorem dec_inr (a b : Str) : decide ((Sum.inr a : Key) = Sum.inr b) = decide (a = b) := by
  by_cases h : a = b
  · subst h
    simp
  · rw [decide_eq_false h, decide_eq_false fun e => h (Sum.inr.inj e)]
theorem encS_any (m : List (Str × Str)) (k : Str) : ((encS m).any fun p => decide (p.1 = Sum.inr k)) = (m.any fun p => decide (p.1 = k)) := by
  induction m with
  | nil => rfl
  | cons a r ih =>
    show (decide ((Sum.inr a.1 : Key) = Sum.inr k) || (encS r).any fun p => decide (p.1 = Sum.inr k)) = (decide (a.1 = k) || r.any fun p => decide (p.1 = k))
    rw [ih, dec_inr]
theorem encS_put (m : List (Str × Str)) (k v : Str) : putW (encS m) (Sum.inr k) (.str v) = encS (putS m k v) := by
  unfold putW putS
  rw [encS_any]
  split
  · unfold encS
    rw [List.map_map, List.map_map]
    apply List.map_congr_left
    intro p _
    show (if (Sum.inr p.1 : Key) = Sum.inr k then _ else _) = _
    by_cases h : p.1 = k
    · rw [if_pos (congrArg Sum.inr h)]
      show _ = ((Sum.inr (if p.1 = k then (p.1, v) else p).1 : Key), W.str (if p.1 = k then (p.1, v) else p).2)
      rw [if_pos h]
    · rw [if_neg fun e => h (Sum.inr.inj e)]
      show _ = ((Sum.inr (if p.1 = k then (p.1, v) else p).1 : Key), W.str (if p.1 = k then (p.1, v) else p).2)
      rw [if_neg h]
  · unfold encS
    rw [List.map_append]
    rfl
theorem encS_drop (m : List (Str × Str)) (k : Str) : dropW (encS m) (Sum.inr k) = encS (dropS m k) := by
  unfold dropW dropS encS
  rw [List.filter_map]
  congr 1
  apply List.filter_congr
  intro p _
  show decide ((Sum.inr p.1 : Key) ≠ Sum.inr k) = decide (p.1 ≠ k)
  by_cases h : p.1 = k
  · simp [h]
  · have h2 : ¬ (Sum.inr p.1 : Key) = Sum.inr k := fun e => h (Sum.inr.inj e)
    simp [h, h2]
theorem encS_val (m : List (Str × Str)) (k : Str) : valW (encS m) (Sum.inr k) = (valS m k).map W.str := by
  unfold valW valS encS
  induction m with
  | nil => rfl
  | cons a r ih =>
    rw [List.map_cons, List.find?_cons, List.find?_cons]
    have e : decide (((Sum.inr a.1 : Key), W.str a.2).1 = Sum.inr k) = decide (a.1 = k) := dec_inr _ _
    rw [e]
    cases decide (a.1 = k) with
    | true => rfl
    | false => exact ih
theorem encS_K (m : List (Str × Str)) : encS m = encK (m.map fun p => (p.1, W.str p.2)) := by
  unfold encS encK
  rw [List.map_map]
  rfl
theorem keysS (m : List (Str × Str)) : (m.map fun p => (p.1, W.str p.2)).map (·.1) = m.map (·.1) := by
  rw [List.map_map]
  rfl
theorem putS_len (m : List (Str × Str)) (k v : Str) : (putS m k v).length ≤ m.length + 1 := by
  unfold putS
  split
  · rw [List.length_map]
    omega
  · rw [List.length_append]
    simp
theorem dropS_len (m : List (Str × Str)) (k : Str) : (dropS m k).length ≤ m.length := List.length_filter_le _ _
theorem valS_mem {m : List (Str × Str)} {k v : Str} (h : valS m k = some v) : (k, v) ∈ m := by
  unfold valS at h
  obtain ⟨p, hp, rfl⟩ := Option.map_eq_some_iff.mp h
  have h1 := List.find?_some hp
  have h2 := List.mem_of_find?_eq_some hp
  rw [← of_decide_eq_true h1]
  exact h2
theorem valS_some {m : List (Str × Str)} {k : Str} (h : k ∈ m.map (·.1)) : ∃ v, valS m k = some v := by
  obtain ⟨p, hp, rfl⟩ := List.mem_map.mp h
  unfold valS
  cases e : m.find? fun q => decide (q.1 = p.1) with
  | some q => exact ⟨q.2, rfl⟩
  | none =>
    have := List.find?_eq_none.mp e p hp
    simp at this
theorem valS_none {m : List (Str × Str)} {k : Str} (h : valS m k = none) : dropS m k = m := by
  unfold dropS
  apply List.filter_eq_self.mpr
  intro p hp
  apply decide_eq_true
  intro e
  obtain ⟨v, hv⟩ := valS_some (k := k) (List.mem_map.mpr ⟨p, hp, e⟩)
  rw [h] at hv
  cases hv
/-- good texts in a dict -/
def okM (m : List (Str × Str)) : Prop := ∀ p ∈ m, okS p.1 ∧ okS p.2
theorem okM_put {m : List (Str × Str)} {k v : Str} (h : okM m) (hk : okS k) (hv : okS v) : okM (putS m k v) := by
  unfold putS
  split
  · intro p hp
    obtain ⟨q, hq, rfl⟩ := List.mem_map.mp hp
    split
    · exact ⟨(h q hq).1, hv⟩
    · exact h q hq
  · intro p hp
    rcases List.mem_append.mp hp with e | e
    · exact h p e
    · rw [List.mem_singleton.mp e]
      exact ⟨hk, hv⟩
theorem okM_drop {m : List (Str × Str)} {k : Str} (h : okM m) : okM (dropS m k) := fun p hp => h p (List.mem_filter.mp hp).1
/-- the pairs in the order of their keys -/
def kinds6 : List Str := ["value", "none", "done", "other", "page", "page"]
def pairO (m : List (Str × Str)) : W → W
  | .str k => .tup [.str k, .str ((valS m k).getD "")]
  | w => w
def pairW (m : List (Str × Str)) (k : Str) : W := .tup [.str k, .str ((valS m k).getD "")]
end Pw

namespace Pw
open PySem L2 Evl
open Pd (sLt abc)
def odd1 : List W := [.str "", .str "A", .str "a", .str (Txt.mul "x" 41), .str "a\n", .int 0, .bl true, .non, .tup [], .tup [.str "a"], .tup [.tup [.str "a", .str "x"]], .tup [.tup [.str "b", .str "x"], .tup [.str "a", .str "y"]], .str "page"]
def odd2 (q : Addr) : List W := [.tup [.tup [.str "a", .str "x"], .tup [.str "a", .str "x"]], .tup [.tup [.str "", .str "x"]], .tup [.tup [.str "a", .int 1]], .tup [.tup [.str "a"]], .ref q, .str "none", .str "abcdefghi"]
/-! good whatever stands in the store -/
mutual
def goodW (n : Nat) : W → Bool
  | .non | .bl _ | .int _ => true
  | .str x => decide (x.length ≤ 1000) && PyData.strOk x
  | .ref _ => false
  | .tup ws => match n with
    | 0 => false
    | m + 1 => goodWs m ws
def goodWs (n : Nat) : List W → Bool
  | [] => true
  | w :: r => goodW n w && goodWs n r
end
mutual
theorem goodW_ok {μ : Mu} : ∀ {n : Nat} {w : W}, goodW n w = true → Good n μ w
  | n, .non, _ => good_non
  | n, .bl _, _ => good_bl
  | n, .int _, _ => good_int
  | n, .str x, h => by
    unfold goodW at h
    exact good_str (okS_lit h)
  | n, .ref _, h => by
    unfold goodW at h
    cases h
  | 0, .tup ws, h => by
    unfold goodW at h
    cases h
  | n + 1, .tup ws, h => by
    unfold goodW at h
    exact good_tup (goodWs_ok h)
theorem goodWs_ok {μ : Mu} : ∀ {n : Nat} {ws : List W}, goodWs n ws = true → ∀ w ∈ ws, Good n μ w
  | n, [], _ => fun _ h => by cases h
  | n, w :: r, h => fun u hu => by
    unfold goodWs at h
    obtain ⟨h1, h2⟩ := Bool.and_eq_true_iff.mp h
    rcases List.mem_cons.mp hu with e | e
    · rw [e]
      exact goodW_ok h1
    · exact goodWs_ok h2 u e
end
theorem odd1_good {μ : Mu} : ∀ u ∈ odd1, Good 4 μ u := goodWs_ok (by decide +kernel)
theorem odd2_good {μ : Mu} {q : Addr} (l : isL μ q [.tup [.str "a", .str "x"]]) : ∀ u ∈ odd2 q, Good 4 μ u := fun u hu => by
  have h1 : ∀ u ∈ [W.tup [.tup [.str "a", .str "x"], .tup [.str "a", .str "x"]], .tup [.tup [.str "", .str "x"]], .tup [.tup [.str "a", .int 1]], .tup [.tup [.str "a"]], .str "none", .str "abcdefghi"], Good 4 μ u := goodWs_ok (by decide +kernel)
  unfold odd2 at hu
  simp only [List.mem_cons, List.not_mem_nil, or_false] at hu
  rcases hu with e | e | e | e | e | e | e
  all_goals rw [e]
  · exact h1 _ (by simp)
  · exact h1 _ (by simp)
  · exact h1 _ (by simp)
  · exact h1 _ (by simp)
  · refine (good_lst (n := 1) l (goodWs_ok (by decide +kernel))).le (by decide)
  · exact h1 _ (by simp)
  · exact h1 _ (by simp)
def tenL : List Nat := ("abcdefghij" : Str).cps.toList
theorem ten_at {n : Nat} (h : n < 10) : ("abcdefghij" : Str).cps.toList[n]? = some (tenL.getD n 0) := by
  have e : n < tenL.length := by
    rw [show tenL.length = 10 by decide +kernel]
    exact h
  show tenL[n]? = _
  rw [List.getD_eq_getElem?_getD, List.getElem?_eq_getElem e]
  rfl
def pairR (i : Int) : W := .tup [.str (("k" : Str) ++ ⟨#[tenL.getD (i / 10).toNat 0]⟩ ++ ⟨#[tenL.getD (i % 10).toNat 0]⟩), .str "x"]
theorem ten_ok (n : Nat) : tenL.getD n 0 < 0x110000 := by
  rw [List.getD_eq_getElem?_getD]
  cases e : tenL[n]? with
  | none => exact (by decide : 0 < 0x110000)
  | some c =>
    have h : ∀ c ∈ tenL, c < 0x110000 := by decide +kernel
    exact h c (List.mem_of_getElem? e)
theorem pairR_good {μ : Mu} (i : Int) : Good 1 μ (pairR i) := by
  refine good_tup (n := 0) fun u hu => ?_
  rcases List.mem_cons.mp hu with e | hu
  · rw [e]
    refine good_str ⟨?_, ?_⟩
    · rw [Pd.len_app, Pd.len_app]
      show 1 + 1 + 1 ≤ 1000
      decide
    · have s : ∀ n, PyData.strOk (⟨#[tenL.getD n 0]⟩ : Str) = true := fun n => all_strOk.mpr fun c hc => by
        have e : c = tenL.getD n 0 := by simpa using hc
        rw [e]
        exact ten_ok n
      exact strOk_app (strOk_app (by decide +kernel) (s _)) (s _)
  · rw [List.mem_singleton.mp hu]
    exact good_str (okS_lit (by decide +kernel))
section
variable {K : Frag} {E : XK} {ρ : Rho} {μ : Mu} {te tl ta tb td ty tx : TE} {t u : TT} {t1 t2 : TS} {X : Value → Mu → Prop} {N : Rho → Mu → Prop} {R : W → Mu → Prop}
theorem rm_retWS (h : EvW K E te ρ μ R X) : RunM K E (tSeq (tRet te) t2) ρ μ N R X := fun D σ H g _ hR hX => h σ H g _ (fun w μ' v H' r e g' dv => hR w μ' v H' r e g'.2 dv) hX
/-- tuple(list of the store) -/
theorem ed_tupO {a : Addr} {ws : List W} (h : EvD K te ρ μ (.ref a)) (l : isL μ a ws) : EvD K (tCB (rTupL K) (tCons te tNil)) ρ μ (.tup ws) := fun σ H g Q q =>
  h σ H g _ fun v H1 e1 d1 => by
    cases d1
    obtain ⟨vs, hq, hs⟩ := l.sq (g.2.ex e1)
    exact ⟨a, vs, rfl, .inl ⟨hq, fun p hp => q _ _ (e1.trans (Ex.new hp)) (.tup (st_of upd_same) (dpms (Ex.new hp) hs))⟩⟩
/-- an item of a list that is written there, its items changing the store -/
theorem ew_pickA {ta : TA} {Pa : List W → Mu → Prop} {P : W → Mu → Prop} (h : EvA K E ta ρ μ Pa X) (hp : ∀ ws μ', Pa ws μ' → ∃ (i : Int) (x : W), ws.length ≤ 100000 ∧ EvD K tb ρ μ' (.int i) ∧ 0 ≤ i ∧ ws[i.toNat]? = some x ∧ P x μ') : EvW K E (tOp (rIxL K) (tLst ta) tb) ρ μ P X := fun σ H g Q q hX =>
  h σ H g _ (fun ws μ1 vs H1 p e1 g1 ds => by
    obtain ⟨i, x, hl, hb, hi, hx, hP⟩ := hp ws μ1 p
    refine ⟨sz_of (by rw [dps_len ds]; exact hl), fun a ha => hb σ _ (g1.mono (Ex.new ha)) _ fun w H2 e2 dw => ?_⟩
    cases dw
    obtain ⟨v, f1, f2⟩ := dps_at i.toNat ds hx
    exact ⟨a, vs, i, v, rfl, rfl, sq_of (e2 _ _ upd_same), at_of (by omega) f1, q x μ1 v H2 hP (e1.trans (Tk.ex ((Ex.new ha).trans e2))) (g1.mono ((Ex.new ha).trans e2)) (dpm ((Ex.new ha).trans e2) f2)⟩) hX
end
end Pw

namespace Pw
open PySem L2 Evl
open Pd (sLt abc)
/-- None or a key -/
def folB : PyData → Bool
  | .none => true
  | .str y => keyS y
  | _ => false
def endB (last : Str) : PyData → Bool
  | .none => true
  | .str y => sLt last y
  | _ => false
theorem fol_eq {μ : Mu} {y : W} {e : PyData} (z : Dw μ y e) : (!isNone y && !keyB e) = !folB e := by
  cases z <;> rfl
theorem page_eq (a : PyData) (ps : List PyData) (e : PyData) : pageB [a, .tuple ps, e] = ((pairsFrom "" ps && decide ((ps.length : Int) ≤ 50)) && (folB e && endB (lastKey "" ps) e)) := by
  unfold pageB
  cases e <;> rfl
theorem page_ntup {a d e : PyData} (h : (Pd.tyN d == "tuple") = false) : pageB [a, d, e] = false := by
  cases d <;> first | rfl | exact absurd h (show ¬ ("tuple" == "tuple") = false by decide)
theorem ntup_ans {d : PyData} (h : (Pd.tyN d == "tuple") = false) : answerB d = false := by
  cases d <;> first | rfl | exact absurd h (show ¬ ("tuple" == "tuple") = false by decide)
theorem ans_cons (k : Str) (r : List PyData) : answerB (.tuple (.str k :: r)) =
    if k = "value" ∨ k = "other" then toldB (.str k :: r) else if k = "none" ∨ k = "done" then decide (r.length = 0) else if k = "page" then pageB (.str k :: r) else false := rfl
theorem page_head (d e : PyData) : pageB [.none, d, e] = answerB (.tuple [.str "page", d, e]) := by
  rw [ans_cons, if_neg (by decide +kernel), if_neg (by decide +kernel), if_pos rfl]
  cases d <;> rfl
theorem eqv_nil : ∀ r : List PyData, PyData.eqvAll r [] = decide (r.length = 0)
  | [] => rfl
  | _ :: _ => rfl
theorem due_end {kk : Str} {dr : List PyData} (cp : (decide (kk = "page") && decide ((dr.length : Int) + 1 = 3)) = false) (cv : (decide (kk ∈ (["value", "other"] : List Str)) && decide ((dr.length : Int) + 1 = 2)) = false) :
    (PyData.eqv (.tuple (.str kk :: dr)) (.tuple [.str "none"]) || PyData.eqv (.tuple (.str kk :: dr)) (.tuple [.str "done"])) = answerB (.tuple (.str kk :: dr)) := by
  have e1 : ∀ x : Str, PyData.eqv (.tuple (.str kk :: dr)) (.tuple [.str x]) = ((kk == x) && decide (dr.length = 0)) := fun x => by
    show ((kk == x) && PyData.eqvAll dr []) = _
    rw [eqv_nil]
  rw [e1, e1, ans_cons]
  by_cases h1 : kk = "value" ∨ kk = "other"
  · rw [if_pos h1]
    have hm : kk ∈ (["value", "other"] : List Str) := by simpa using h1
    rw [decide_eq_true hm, Bool.true_and] at cv
    have hl := of_decide_eq_false cv
    have ht : toldB (.str kk :: dr) = false := by
      unfold toldB
      split
      · rename_i e
        injection e with e1 e2
        rw [e2] at hl
        exact absurd rfl hl
      · rfl
    rw [ht]
    rcases h1 with h | h <;> subst h <;> rfl
  · rw [if_neg h1]
    by_cases h2 : kk = "none" ∨ kk = "done"
    · rw [if_pos h2]
      rcases h2 with h | h <;> subst h
      · show (true && _ || (("none" : Str) == "done") && _) = _
        rw [show (("none" : Str) == "done") = false by decide +kernel, Bool.true_and, Bool.false_and, Bool.or_false]
      · show ((("done" : Str) == "none") && _ || _ && _) = _
        rw [show (("done" : Str) == "none") = false by decide +kernel, show (("done" : Str) == "done") = true by decide +kernel, Bool.true_and, Bool.false_and, Bool.false_or]
    · rw [if_neg h2]
      have n1 : (kk == "none") = false := beq_eq_false_iff_ne.mpr fun q => h2 (.inl q)
      have n2 : (kk == "done") = false := beq_eq_false_iff_ne.mpr fun q => h2 (.inr q)
      rw [n1, n2, Bool.false_and, Bool.false_or]
      by_cases h3 : kk = "page"
      · rw [if_pos h3]
        rw [decide_eq_true h3, Bool.true_and] at cp
        have hl := of_decide_eq_false cp
        unfold pageB
        split
        · rename_i e
          injection e with e1 e2
          rw [e2] at hl
          exact absurd rfl hl
        · rfl
      · rw [if_neg h3]
section
variable {K : Frag} {ρ : Rho} {μ : Mu} {i : Nat}
/-- a value that is no pair: the law's own test of it -/
theorem not_pair {Wk Wv : List W → Mu → W → Prop} (hk : ∀ w d, Dw μ w d → okD d → Wk [w] μ (.bl (keyB d))) (hv : ∀ w d, Dw μ w d → okD d → Wv [w] μ (.bl (valB d))) {x : W} {d : PyData} (hx : ρ[3]? = some (some x)) (z : Dw μ x d) (k : okD d) (hb : pairB d = false) :
    EvC K (tOr (tNot (tB (tCB (rIsi K) (tCons (tVar 3) (tCons (tC (.ty "tuple")) tNil))))) (tOr (tTest (tOp rNe (tCB (rLenD K) (tCons (tVar 3) tNil)) (tC (.int 2)))) (tOr (tNot (tB (tCall (spP K Wk) [] E0 (tCons (tOp (rIxT K) (tVar 3) (tC (.int 0))) tNil)))) (tNot (tB (tCall (spP K Wv) [] E0 (tCons (tOp (rIxT K) (tVar 3) (tC (.int 1))) tNil))))))) ρ μ true := by
  by_cases hs : (Pd.tyN d == "tuple") = true
  · obtain ⟨ds, rfl⟩ := is_tuple hs
    have kd := okD_tup k
    cases z with
    | @tup ws _ zs =>
    have hl := dw_len zs
    by_cases h2 : (ws.length : Int) = 2
    · match ws, ds, zs, kd, hl, h2, hx with
      | [w1, w2], [d1, d2], .cons z1 (.cons z2 .nil), kd, _, _, hx =>
        have k1 : okD d1 := okDs_at (i := 0) kd rfl
        have k2 : okD d2 := okDs_at (i := 1) kd rfl
        refine (ec_or (ec_not (ec_val (ed_isTuple (ed_var hx) (.tup (.cons z1 (.cons z2 .nil)))))) fun _ => (ec_or (ec_test (ed_neI (ed_lenT (es_cons (ed_var hx) es_nil)) ed_int)) fun _ => (ec_or (ec_not (ec_val (ed_call (es_cons (ed_ixT (ed_var hx) ed_int (by decide) rfl) es_nil) (hk _ _ z1 k1)))) fun _ => (ec_not (ec_val (ed_call (es_cons (ed_ixT (ed_var hx) ed_int (by decide) rfl) es_nil) (hv _ _ z2 k2))))))).is ?_
        have q : (keyB d1 && valB d2) = false := hb
        show (!keyB d1 || !valB d2) = true
        rw [← Bool.not_and, q]
        rfl
      | [], _, _, _, _, q, _ => exact absurd q (by simp)
      | [_], _, _, _, _, q, _ => exact absurd q (by simp)
      | _ :: _ :: _ :: r, _, _, _, _, q, _ => simp at q; omega
    · refine (ec_or (ec_not (ec_val (ed_isTuple (ed_var hx) (.tup zs)))) fun _ => (ec_or (b := true) (ec_test (ed_neI (ed_lenT (es_cons (ed_var hx) es_nil)) ed_int)) fun h => ?_)).is ?_
      · rw [decide_eq_false h2] at h
        cases h
      · rw [Bool.or_true, Bool.or_true]
  · have hs' := Bool.eq_false_iff.mpr hs
    refine (ec_or (b := true) (ec_not (ec_val (ed_isTuple (ed_var hx) z))) fun h => ?_).is (Bool.or_true _)
    rw [hs'] at h
    cases h
end
end Pw

namespace Pw
open PySem L2 Evl
open Pd (sLt abc)
/-- a table of the text, from texts to defs -/
structure TabOf (K : Frag) (w : World) (mg : Str → Option Value) (x : Str) (kfs : List (Str × Str)) : Prop where
  ex : ∃ (a : Addr) (kvs : List (Str × V)), mg x = some (.ref a) ∧ KTab K w a kvs ∧ kvs.map (·.1) = kfs.map (·.1) ∧ ∀ p ∈ kfs, ∃ f, mg p.2 = some (.ref f) ∧ (p.1, V.ref f) ∈ kvs
theorem kind_tup {d : PyData} {k : Str} (h : kindS d = k) (hk : k ≠ "") : ∃ r, d = .tuple (.str k :: r) := by
  unfold kindS at h
  split at h
  · exact ⟨_, by rw [h]⟩
  · exact absurd h.symm hk
theorem ans_kind {d : PyData} (h : ¬ kindS d ∈ (["value", "none", "done", "other", "page"] : List Str)) : answerB d = false := by
  unfold answerB
  split
  · rename_i k r
    have hk : kindS (.tuple (.str k :: r)) = k := rfl
    rw [hk] at h
    simp only [List.mem_cons, List.not_mem_nil, or_false, not_or] at h
    obtain ⟨h1, h2, h3, h4, h5⟩ := h
    rw [if_neg (fun q => q.elim h1 h4), if_neg (fun q => q.elim h2 h3), if_neg h5]
  · rfl
end Pw

namespace Pw
open PySem L2 Evl
theorem ents_out {P : Params} {z : Str} : ∀ {l : List DictEntry} {ks : List Str}, l.map He.keyOf = He.keysIn P ks → z ∉ ks → l.find? (·.key.isStr z) = none ∧ l.any (·.refKey) = false
  | [], _, _, _ => ⟨rfl, rfl⟩
  | e :: r, [], h, _ => by cases h
  | e :: r, k :: ks, h, hz => by
    have h1 : He.keyOf e :: r.map He.keyOf = some (k, PyData.keyHash P k) :: He.keysIn P ks := h
    injection h1 with h2 h3
    obtain ⟨i1, i2⟩ := ents_out h3 fun q => hz (List.mem_cons_of_mem _ q)
    unfold He.keyOf at h2
    split at h2
    · rename_i x t q
      have h4 := Option.some.inj h2
      obtain ⟨h5, h6⟩ := Prod.mk.inj h4
      subst h5
      have hne : ¬ x = z := fun q => hz (q ▸ List.mem_cons_self)
      refine ⟨?_, ?_⟩
      · rw [List.find?_cons, q]
        have this : Value.isStr (.str x t) z = false := by
          show (x == z) = false; exact beq_false_of_ne hne
        simp [this, i1]
      · rw [List.any_cons, i2]
        simp [DictEntry.refKey, q]
    · cases h2
theorem dic_out {K : Frag} {w : World} {a : Addr} {ks : List Str} {z : Str} (h : He.dicW K a = some (He.keysIn w.params ks)) (hz : z ∉ ks) : PySem.W.nsIn K a z = some none := by
  unfold He.dicW at h
  cases q : K.lookup a with
  | none =>
    rw [q] at h
    cases h
  | some o =>
    obtain ⟨oc, od, dt, osl⟩ := o
    rw [q] at h
    cases oc with
    | type c =>
      cases od with
      | none =>
        cases dt with
        | dict es n =>
          have h1 : (match decide (c = "dict") && (osl.isEmpty && !(a == sysModules)) with
            | true => some (es.toList.map He.keyOf)
            | false => none) = some (He.keysIn w.params ks) := h
          cases zz : decide (c = "dict") && (osl.isEmpty && !(a == sysModules)) with
          | false =>
            rw [zz] at h1
            cases h1
          | true =>
            rw [zz] at h1
            obtain ⟨i1, i2⟩ := ents_out (Option.some.inj h1) hz
            unfold PySem.W.nsIn
            rw [q]
            show (match es.toList.find? (·.key.isStr z) with | some e => some (some e.val) | none => if es.toList.any (·.refKey) then none else some none) = some none
            rw [i1]
            show (if es.toList.any (·.refKey) then none else some none) = some none
            rw [i2]
            rfl
        | _ => cases h
      | some b => cases dt <;> cases h
    | _ => cases od <;> cases dt <;> cases h
theorem saysT_dic {fa : List He.Fa} {fn : List He.DefD} {ts : List He.Tab} {w : World} {K : Frag} (c : He.SaysT fa fn ts w K) (i : Nat) {t : He.Tab} (h : ts[i]? = some t := by rfl) : He.dicW K (t.1 K) = some (He.keysIn w.params t.2) := by
  have e : ts.map (fun t => He.dicW K (t.1 K)) = ts.map fun t => some (He.keysIn w.params t.2) := congrArg (fun z : He.AlT => z.2) c
  have e2 : (ts.map fun t => He.dicW K (t.1 K))[i]? = (ts.map fun t => some (He.keysIn w.params t.2))[i]? := by rw [e]
  rw [List.getElem?_map, List.getElem?_map, h] at e2
  exact Option.some.inj e2
theorem tab_of {K : Frag} {w : World} {mg : Str → Option Value} {x : Str} (kfs : List (Str × Str)) (G : mg x = some (.ref (He.ga K x)))
    (hd : He.dicW K (He.ga K x) = some (He.keysIn w.params (kfs.map (·.1)))) (hv : He.valsB K (He.ga K x) (kfs.map fun p => (p.1, He.Dv.glo p.2)) = true) (hf : ∀ p ∈ kfs, mg p.2 = some (.ref (He.ga K p.2))) : TabOf K w mg x kfs := by
  refine ⟨He.ga K x, kfs.map (fun p => (p.1, V.ref (He.ga K p.2))), G, ⟨He.dicW_ok hd, fun z hz => dic_out hd ?_, ?_⟩, ?_, ?_⟩
  · rw [List.map_map] at hz
    exact hz
  · intro p hp
    obtain ⟨q, hq, rfl⟩ := List.mem_map.mp hp
    have hm : (q.1, He.Dv.glo q.2) ∈ (kfs.map fun p => (p.1, He.Dv.glo p.2)) := List.mem_map.mpr ⟨q, hq, rfl⟩
    exact He.valsB_ok hv hm
  · rw [List.map_map]
    rfl
  · intro p hp
    exact ⟨He.ga K p.2, hf p hp, List.mem_map.mpr ⟨p, hp, rfl⟩⟩
end Pw

namespace Pw
open PySem L2 Evl
/-- nothing that is looked at is a list -/
def noLst (K : Frag) : Bool := K.all fun q => match q.2.cls with
  | .type c => !decide (c = "list")
  | _ => true
theorem noLst_no {K : Frag} {a : Addr} {o : Obj} (h : noLst K = true) (e : K.lookup a = some o) : o.cls ≠ .type "list" := fun q => by
  have h2 := List.all_eq_true.mp h _ (He.lookup_mem e)
  rw [show ((a, o) : Addr × Obj).2.cls = .type "list" from q] at h2
  simp at h2
theorem rw_ints {K : Frag} {H : Hp} : ∀ ns : List Int, RwAll K H (ns.map V.int) (ns.map W.int)
  | [] => .nil
  | i :: r => .cons (.int i) (rw_ints r)
theorem law_endM {K : Frag} {H : Hp} {a : Addr} {ns : List Int} {Wf : List W → Mu → (W → Mu → Prop) → (Value → Mu → Prop) → Prop} (hn : noLst K = true) (h : SqL K H a (ns.map V.int))
    (hW : ∀ (μ : Mu), μ a = some (scr ns) → ∀ P : W → Mu → Prop, (∀ μ', P (.bl true) μ') → Wf [.ref a] μ P (fun _ _ => False)) : spM K Wf [.ref a] H (fun v _ => v = .bl true) (fun _ _ _ => False) := by
  have r : Rd H a (.lst (ns.map V.int)) := by
    rcases h with h | ⟨o, its, n, e, c, _⟩
    · exact h
    · exact absurd c (noLst_no hn e)
  refine ⟨[.ref a], fun b => if b = a then some (scr ns) else none, fun w _ => w = .bl true, fun _ _ => False, .cons (.ref a) .nil, fun b o q => ?_, hW _ (if_pos rfl) _ (fun _ => rfl), fun w μ' v H' p _ _ d => ?_, fun _ _ _ x _ _ => x⟩
  · by_cases hb : b = a
    · have q2 := (if_pos hb).symm.trans q
      cases q2
      subst hb
      exact ⟨_, r, rw_ints ns⟩
    · have q2 := (if_neg hb).symm.trans q
      cases q2
  · cases p
    cases d
    rfl
end Pw

namespace Pw
open PySem L2 Evl
open Pd (sLt)
/-! dicts of texts: copies, len, ==, pages -/
def rDictOf : List V → Hp → VK → Prop := fun xs H Q => ∃ (a : Addr) (kvs : List (Key × V)), xs = [.ref a] ∧ Rd H a (.dK kvs) ∧ ∀ p, H p = none → Q (.ref p) (upd H p (.dK kvs))
theorem cr_dictOf {X : Cx} : CallR X (.type "dict") rDictOf := by
  intro pins s σ H xs us Q I r q
  obtain ⟨a, kvs, ex, hd, q⟩ := q
  subst ex
  obtain ⟨u, eu, rx⟩ := vals1 r
  subst eu
  cases rx
  exact d_copyOf I hd fun p s' hp I' => ⟨.ref p, _, I', rfl, q p hp⟩
def rLenK : List V → Hp → VK → Prop := fun xs H Q => ∃ a kvs, xs = [V.ref a] ∧ H a = some (.dK kvs) ∧ Q (.int kvs.length) H
theorem cr_lenK {X : Cx} : CallR X (.builtin "len") rLenK := call_lenD
section
variable {K : Frag} {E : XK} {ρ : Rho} {μ : Mu} {te tl ta tb td ty tx tv : TE} {t u : TT} {t1 t2 : TS} {X : Value → Mu → Prop} {N : Rho → Mu → Prop} {R : W → Mu → Prop} {P : W → Mu → Prop}
theorem ew_dcopy {ta : TA} {a : Addr} {kvs : List (Key × W)} (ha : EvS K ta ρ μ [.ref a]) (l : μ a = some (.dk kvs)) : EvW K E (tCB rDictOf ta) ρ μ (fun w μ' => ∃ p, μ p = none ∧ w = .ref p ∧ μ' = mset μ p (.dk kvs)) X := fun σ H g Q q _ =>
  ha σ H g _ fun vs H1 e1 d1 => by
    obtain ⟨v, rfl, dv⟩ := dps1 d1
    cases dv
    obtain ⟨kv, h, r⟩ := g.2.ex e1 a _ l
    refine ⟨a, kv, rfl, .inl h, fun p hp => ?_⟩
    have t := (Tk.ex e1).trans (Tk.ex (Ex.new (o := .dK kv) hp))
    exact q (.ref p) (mset μ p (.dk kvs)) (.ref p) _ ⟨p, (g.2.ex e1).free hp, rfl, rfl⟩ t ⟨g.1.tk t, (g.2.ex e1).put (nt_none hp) ⟨kv, upd_same, rwpm (Tk.ex (Ex.new hp)) r⟩⟩ (.ref p)
theorem ed_lenK {ta : TA} {a : Addr} {kvs : List (Key × W)} (h : EvS K ta ρ μ [.ref a]) (l : μ a = some (.dk kvs)) : EvD K (tCB rLenK ta) ρ μ (.int (kvs.length : Int)) := ed_cbm h fun H vs Q m d1 k => by
  obtain ⟨v, rfl, dv⟩ := dps1 d1
  cases dv
  obtain ⟨kv, h, r⟩ := m a _ l
  refine ⟨a, kv, rfl, h, ?_⟩
  rw [rwp_len r]
  exact k _ H (Ex.refl H) (.int _)
theorem rwp_str {H : Hp} : ∀ {m : List (Str × Str)} {kv : List (Key × V)}, RwP K H kv (encS m) → kv = m.map fun p => ((Sum.inr p.1 : Key), V.str p.2)
  | [], _, h => by
    cases h
    rfl
  | p :: r, _, h => by
    cases h with
    | cons a b =>
      rename_i q ps
      obtain ⟨qk, qv⟩ := q
      obtain ⟨a1, a2⟩ := a
      have a1 : qk = Sum.inr p.1 := a1
      have a2 : Rw K H qv (.str p.2) := a2
      cases a2
      subst a1
      rw [rwp_str b]
      rfl
theorem valV_map (m : List (Str × Str)) (k : Str) : valV (m.map fun p => ((Sum.inr p.1 : Key), V.str p.2)) (Sum.inr k) = (valS m k).map V.str := by
  unfold valV valS
  induction m with
  | nil => rfl
  | cons a r ih =>
    rw [List.map_cons, List.find?_cons, List.find?_cons]
    have e : decide (((Sum.inr a.1 : Key), V.str a.2).1 = Sum.inr k) = decide (a.1 = k) := dec_inr _ _
    rw [e]
    cases decide (a.1 = k) with
    | true => rfl
    | false => exact ih
theorem ed_eqV {a b : Addr} {m : List (Str × Str)} (ha : EvD K ta ρ μ (.ref a)) (hb : EvD K tb ρ μ (.ref b)) (la : μ a = some (.dk (encS m))) (lb : μ b = some (.dk (encS m))) (hf : ∀ p ∈ m, valS m p.1 = some p.2) : EvD K (tOp (rEqV K) ta tb) ρ μ (.bl true) :=
  ed_twom ha hb fun H v w Q mm dv dw k => by
    cases dv
    cases dw
    obtain ⟨ka, h1, r1⟩ := mm a _ la
    obtain ⟨kb, h2, r2⟩ := mm b _ lb
    have e1 := rwp_str r1
    have e2 := rwp_str r2
    subst e1
    subst e2
    refine ⟨1, by decide, .inr ⟨a, b, _, _, rfl, rfl, h1, h2, rfl, fun p hp => ?_⟩, k _ H (Ex.refl H) (.bl _)⟩
    obtain ⟨q, hq, rfl⟩ := List.mem_map.mp hp
    refine ⟨.str q.2, ?_, .inl ⟨rfl, rfl⟩⟩
    rw [valV_map, hf q hq]
    rfl
/-- [v(x) for x in a tuple] -/
theorem el_lcT {ws : List W} {j : Nat} (v : W → W) (h : EvD K te ρ μ (.tup ws)) (hz : ws.length ≤ 40000) (he : ∀ x, x ∈ ws → EvD K tv ((ρ.set j none).set j (some x)) μ (v x)) :
    EvL K (tLc (iTup K te) (gName j) tYes tv [j]) ρ μ (ws.map v) := fun σ H g Q q =>
  h σ H g _ fun v1 H1 e1 d1 => by
    cases d1 with
    | tup hq r1 =>
      rename_i a us
      refine ⟨a, rfl, ⟨_, hq⟩, fun D hD => ?_⟩
      have hl := dps_len r1
      refine lc_tup (xs := us) (fun i H' => Ex H1 H' ∧ ∃ acc, H' D = some (.lst acc) ∧ acc.length ≤ i ∧ RwAll K H' acc ((ws.take i).map v)) ⟨Ex.new hD, [], upd_same, Nat.le_refl _, .nil⟩ (fun i H' _ w => tk_t (Tk.ex w.1) hq) (fun i x H' hx w => ?_) (fun H' w => ?_)
      · obtain ⟨ex, acc, hacc, hlen, r⟩ := w
        obtain ⟨y, hy, dy⟩ := dps_to i r1 hx
        have hi : i < us.length := (List.getElem?_eq_some_iff.mp hx).1
        have gg : S K H' ((wipe σ [j]).set j (some x)) ((ρ.set j none).set j (some y)) μ := ((g.mono (e1.trans ex)).hide (v := none) j).put j (dpm ex dy)
        refine ⟨wipe1 σ j (some x), ?_⟩
        have ws1 : ws.take (i + 1) = ws.take i ++ [y] := by rw [List.take_add_one, hy]; rfl
        show tv ((wipe σ [j]).set j (some x)) H' _
        refine he y (List.mem_of_getElem? hy) _ H' gg _ fun u H4 e4 d4 => ?_
        refine ⟨acc, e4 _ _ hacc, sz_lt (by omega), Ex.mut (ex.trans e4) hD, acc ++ [u], upd_same, by rw [List.length_append]; simp; omega, ?_⟩
        have tk : Tk H4 (upd H4 D (.lst (acc ++ [u]))) := Tk.upd (nt_lst (e4 _ _ hacc))
        rw [ws1, List.map_append]
        exact dps_app (rwms tk (dpms e4 r)) (.cons (rwm tk d4) .nil)
      · obtain ⟨ex, acc, hacc, hlen, r⟩ := w
        rw [hl, List.take_length] at r
        exact q D acc H' (e1.trans ex) (fresh_back e1 hD) hacc r
/-- a list of the store == a new list -/
theorem ed_eqL {a : Addr} {ws us : List W} {dx dy : List PyData} (ha : EvD K ta ρ μ (.ref a)) (l : isL μ a ws) (hb : EvL K tb ρ μ us) (zx : DwAll μ ws dx) (zy : DwAll μ us dy) (hx : SeqAt.shaped (.list dx) = true) (hy : SeqAt.shaped (.list dy) = true) :
    EvD K (tOp (rEqD K) ta tb) ρ μ (.bl (PyData.eqv (.list dx) (.list dy))) := fun σ H g Q q =>
  ha σ H g _ fun v H1 e1 d1 => hb σ H1 (g.mono e1) _ fun p vs H2 e2 hp h2 r => by
    have m1 := g.2.ex (e1.trans e2)
    exact ⟨.list dx, .list dy, dp_of m1 (.lst l zx) (dpm e2 d1), .lst (SqL.of h2) (dps_of m1 zy r), hx, hy, q _ H2 (e1.trans e2) (.bl _)⟩
/-- x = TABLE[k] (a def), then return x(..), which may change the store -/
theorem rm_disp {w : World} {a : Addr} {kvs : List (Str × V)} {z : Str} {f : Addr} {i : Nat} {Wf : List W → Mu → (W → Mu → Prop) → (Value → Mu → Prop) → Prop} {ta : TA} {xs : List W} (T : KTab K w a kvs) (hz : (z, V.ref f) ∈ kvs) (hk : EvD K tb ρ μ (.str z)) (hi : i < ρ.length)
    (h : EvS K ta (ρ.set i none) μ xs) (hw : Wf xs μ R X) : RunM K E (tSeq (tAsg (tOp (rIxD K w) (tC (.ref a)) tb) (gName i)) (tRet (tCallL i f (spM K Wf) [] E ta))) ρ μ N R X := fun D σ H g hN hR hX =>
  hk σ H g _ fun v H1 e1 d1 => by
    cases d1
    obtain ⟨es, n, KD⟩ := T.dct
    obtain ⟨u, hu, ru⟩ := T.at_ _ hz
    refine ⟨a, z, .ref f, rfl, rfl, ⟨es, n, u, KD.at_, KD.lit, hu, ru⟩, ?_⟩
    have g1 := (g.mono e1).hide (v := some (.ref f)) i
    refine ⟨by rw [List.getElem?_set, if_pos rfl, if_pos (by rw [g.1.1]; exact hi)], h _ H1 g1 _ fun vs H2 e2 d2 => ?_⟩
    show spM K Wf (vs ++ []) H2 _ E
    rw [List.append_nil]
    have t := (Tk.ex e1).trans (Tk.ex e2)
    exact ⟨xs, μ, R, X, d2, g1.2.ex e2, hw, fun w μ' v H3 p e3 m3 d3 => hR w μ' v H3 p (t.trans e3) m3 d3, fun c μ' H3 x e3 m3 => hX c μ' H3 x (t.trans e3) m3⟩
end
/-! ### a text or None -/
def oD : Option Str → PyData
  | none => .none
  | some x => .str x
theorem dw_oW {μ : Mu} : ∀ {o : Option Str}, Dw μ (oW o) (oD o)
  | none => .non
  | some _ => .str
theorem shaped_oD {o : Option Str} (h : ∀ z, o = some z → okS z) : SeqAt.shaped (oD o) = true := by
  cases o with
  | none => decide +kernel
  | some x => exact shaped_ok (n := 0) (by unfold oD okD; exact h x rfl) (Nat.le_of_eq (by unfold oD PyData.depth; rfl)) (by decide)
theorem eqv_oD (o : Option Str) : PyData.eqv (oD o) (oD o) = true := by
  cases o with
  | none => rfl
  | some x =>
    show (x == x) = true
    exact beq_self_eq_true x
theorem eqv_oD_ne {x : Str} {o : Option Str} (h : o ≠ some x) : PyData.eqv (oD (some x)) (oD o) = false := by
  cases o with
  | none => rfl
  | some z =>
    show (x == z) = false
    exact beq_false_of_ne fun e => h (by rw [e])
/-! ### pages -/
def pageK (m : List (Str × Str)) (low : Str) : List Str := sortS ((m.map (·.1)).filter fun k => !sLt k low)
def pageW (m : List (Str × Str)) (low : Str) (limit : Int) (high : W) : W :=
  .tup [.str "page", .tup (((pageK m low).take limit.toNat).map (pairW m)), if limit < ((pageK m low).length : Int) then .str ((pageK m low).getD limit.toNat "") else high]
def pairD (m : List (Str × Str)) (k : Str) : PyData := .tuple [.str k, .str ((valS m k).getD "")]
theorem dw_pairs (m : List (Str × Str)) (μ : Mu) : ∀ ks : List Str, DwAll μ (ks.map (pairW m)) (ks.map (pairD m))
  | [] => .nil
  | k :: r => .cons (.tup (.cons .str (.cons .str .nil))) (dw_pairs m μ r)
theorem ok_pairs {m : List (Str × Str)} (h : okM m) : ∀ {ks : List Str}, (∀ k ∈ ks, k ∈ m.map (·.1)) → okDs (ks.map (pairD m)) ∧ PyData.depthAll (ks.map (pairD m)) ≤ 2
  | [], _ => ⟨by unfold okDs; trivial, by show PyData.depthAll [] ≤ 2; decide +kernel⟩
  | k :: r, hk => by
    obtain ⟨i1, i2⟩ := ok_pairs h (ks := r) fun x hx => hk x (List.mem_cons_of_mem _ hx)
    have hm := hk k List.mem_cons_self
    obtain ⟨v, hv⟩ := valS_some hm
    have o := h _ (valS_mem hv)
    constructor
    · show okDs (pairD m k :: r.map (pairD m))
      unfold okDs pairD
      refine ⟨?_, i1⟩
      unfold okD okDs okD okDs okD okDs
      rw [hv]
      exact ⟨o.1, o.2, trivial⟩
    · show PyData.depthAll (pairD m k :: r.map (pairD m)) ≤ 2
      unfold PyData.depthAll
      have e : PyData.depth (pairD m k) ≤ 2 := by
        unfold pairD PyData.depth PyData.depthAll PyData.depth PyData.depthAll PyData.depth PyData.depthAll
        omega
      exact Nat.max_le.mpr ⟨e, i2⟩
theorem shaped_pairs {m : List (Str × Str)} (h : okM m) {ks : List Str} (hk : ∀ k ∈ ks, k ∈ m.map (·.1)) : SeqAt.shaped (.list (ks.map (pairD m))) = true ∧ PyData.eqv (.list (ks.map (pairD m))) (.list (ks.map (pairD m))) = true := by
  obtain ⟨h1, h2⟩ := ok_pairs h hk
  have o : okD (.list (ks.map (pairD m))) := by unfold okD; exact h1
  exact ⟨shaped_ok o (n := 3) (by unfold PyData.depth; omega) (by decide), PySem.SeqAt.eqv_refl _ (canLay_ok o)⟩
theorem perm_nodup {m : List (Str × Str)} (h : (m.map (·.1)).Nodup) (low : Str) : (pageK m low).Nodup := (sortS_perm _).symm.nodup (h.sublist List.filter_sublist)
theorem page_mem {m : List (Str × Str)} {low k : Str} : k ∈ pageK m low ↔ k ∈ m.map (·.1) ∧ sLt k low = false := by
  unfold pageK
  rw [(sortS_perm _).mem_iff, List.mem_filter]
  simp
theorem putS_nodup {m : List (Str × Str)} {k v : Str} (h : (m.map (·.1)).Nodup) : ((putS m k v).map (·.1)).Nodup := by
  unfold putS
  split
  · rename_i c
    have e : (m.map (fun p => if p.1 = k then (p.1, v) else p)).map (·.1) = m.map (·.1) := by
      rw [List.map_map]
      apply List.map_congr_left
      intro p _
      show (if p.1 = k then (p.1, v) else p).1 = p.1
      split <;> rfl
    rw [e]
    exact h
  · rename_i c
    rw [List.map_append, List.nodup_append]
    refine ⟨h, by simp, ?_⟩
    intro x hx y hy e
    rw [List.map_cons, List.map_nil, List.mem_singleton] at hy
    subst e
    apply c
    rw [List.any_eq_true]
    obtain ⟨p, hp, e2⟩ := List.mem_map.mp hx
    exact ⟨p, hp, decide_eq_true (e2.trans hy)⟩
theorem valS_nodup : ∀ {m : List (Str × Str)}, (m.map (·.1)).Nodup → ∀ p ∈ m, valS m p.1 = some p.2
  | [], _, p, hp => by cases hp
  | a :: r, h, p, hp => by
    rw [List.map_cons, List.nodup_cons] at h
    unfold valS
    rw [List.find?_cons]
    rcases List.mem_cons.mp hp with e | e
    · subst e
      simp
    · have hne : ¬ a.1 = p.1 := fun q => h.1 (q ▸ List.mem_map.mpr ⟨p, e, rfl⟩)
      rw [decide_eq_false hne]
      exact valS_nodup h.2 p e
/-- strictly rising -/
theorem strict_of {l : List Str} (h1 : l.Pairwise (fun a b => leS a b = true)) (h2 : l.Nodup) : l.Pairwise (fun a b => sLt a b = true) := by
  induction l with
  | nil => exact .nil
  | cons a r ih =>
    rw [List.pairwise_cons] at h1
    rw [List.nodup_cons] at h2
    refine List.pairwise_cons.mpr ⟨fun b hb => ?_, ih h1.2 h2.2⟩
    cases e : sLt a b with
    | true => rfl
    | false =>
      have l1 : leS b a = true := by unfold leS; rw [e]; rfl
      have := leS_anti (h1.1 b hb) l1
      exact absurd (this ▸ hb) h2.1
theorem sLt_irr (a : Str) : sLt a a = false := by
  have h := leS_tot a a
  rw [Bool.or_self] at h
  unfold leS at h
  cases e : sLt a a with
  | false => rfl
  | true =>
    rw [e] at h
    cases h
theorem sLt_asym {a b : Str} (h : sLt a b = true) : sLt b a = false := by
  have t := leS_tot a b
  unfold leS at t
  rw [h] at t
  cases e : sLt b a with
  | false => rfl
  | true =>
    rw [e] at t
    cases t
theorem drop_at : ∀ {S : List Str} {j : Nat} {x : Str}, S.Pairwise (fun a b => sLt a b = true) → S[j]? = some x → S.filter (fun k => !sLt k x) = S.drop j
  | [], j, x, _, e => by simp at e
  | a :: r, 0, x, h, e => by
    cases e
    rw [List.drop_zero]
    apply List.filter_eq_self.mpr
    intro k hk
    rcases List.mem_cons.mp hk with q | q
    · rw [q, sLt_irr]
      rfl
    · rw [sLt_asym ((List.pairwise_cons.mp h).1 k q)]
      rfl
  | a :: r, j + 1, x, h, e => by
    have e2 : r[j]? = some x := by simpa using e
    rw [List.drop_succ_cons, List.filter_cons, (List.pairwise_cons.mp h).1 x (List.mem_of_getElem? e2)]
    exact drop_at (List.pairwise_cons.mp h).2 e2
theorem page_filter (m : List (Str × Str)) (low : Str) : pageK m low = (sortS (m.map (·.1))).filter fun k => !sLt k low :=
  pw_only ((sortS_perm _).trans (List.Perm.filter _ (sortS_perm _).symm)) (sortS_pw _) ((sortS_pw _).sublist List.filter_sublist)
theorem sLt_nil (k : Str) : sLt k "" = false := by
  unfold sLt
  apply decide_eq_false
  intro h
  have : ("" : Str).cps.toList = [] := by decide +kernel
  rw [this] at h
  exact absurd h (List.not_lt_nil _)
theorem page_all (m : List (Str × Str)) : pageK m "" = sortS (m.map (·.1)) := by
  rw [page_filter]
  apply List.filter_eq_self.mpr
  intro k _
  rw [sLt_nil]
  rfl
theorem le_lt {a b c : Str} (h1 : sLt b a = false) (h2 : sLt b c = true) : sLt a c = true := by
  cases e : sLt a c with
  | true => rfl
  | false =>
    have l1 : leS c a = true := by unfold leS; rw [e]; rfl
    have l2 : leS a b = true := by unfold leS; rw [h1]; rfl
    have l3 := leS_tr c a b l1 l2
    unfold leS at l3
    rw [h2] at l3
    cases l3
end Pw

namespace Pw
open PySem L2 Evl PyProof.Rows SrtO Srt
open Pd (sLt)
/-! texts sorted, any number of them, also from the last to the first -/
def sv : Value → Str
  | .str x _ => x
  | _ => ""
def ltSv (v u : Value) : Bool := sLt (sv v) (sv u)
theorem swo_str : Swo ltSv := by
  refine ⟨fun x y h => sLt_asym h, fun x y z h1 h2 => ?_⟩
  have l1 : leS (sv x) (sv y) = true := by unfold leS; rw [show sLt (sv y) (sv x) = false from h1]; rfl
  have l2 : leS (sv y) (sv z) = true := by unfold leS; rw [show sLt (sv z) (sv y) = false from h2]; rfl
  have l3 := leS_tr _ _ _ l1 l2
  unfold leS at l3
  show sLt (sv z) (sv x) = false
  cases e : sLt (sv z) (sv x) with
  | false => rfl
  | true =>
    rw [e] at l3
    cases l3
theorem strs_mem : ∀ {vs : List Value} {ss : List Str}, StrsAre vs ss → ∀ v ∈ vs, ∃ x t, v = Value.str x t
  | _, _, .nil, v, h => absurd h (by simp)
  | _, _, .cons n t r, v, h => by
    rcases List.mem_cons.mp h with e | h
    · exact ⟨n, t, e⟩
    · exact strs_mem r v h
theorem strs_sv : ∀ {vs : List Value}, (∀ v ∈ vs, ∃ x t, v = Value.str x t) → StrsAre vs (vs.map sv)
  | [], _ => .nil
  | v :: vs, h => by
    obtain ⟨i, t, e⟩ := h v List.mem_cons_self
    subst e
    exact .cons i t (strs_sv fun u hu => h u (List.mem_cons_of_mem _ hu))
theorem sv_strs : ∀ {vs : List Value} {ns : List Str}, StrsAre vs ns → vs.map sv = ns
  | _, _, .nil => rfl
  | _, _, .cons n t r => congrArg (n :: ·) (sv_strs r)
section
variable {prog : Program} {w : World} {A : Around} {E : Value → Shared → Prop} {s : Shared}
theorem str_cmp {vs : List Value} {ns : List Str} (hI : StrsAre vs ns) : Cmp prog w A s oneType' (fun p => p.1 ∈ vs) (lt2 ltSv) := by
  intro p q hm hm'
  obtain ⟨a, t, e⟩ := strs_mem hI _ hm
  obtain ⟨b, u, e'⟩ := strs_mem hI _ hm'
  show wpAny (model prog w) A (keyLt' oneType' p.1 q.1) (fun r s' => s' = s ∧ r = ltSv p.1 q.1) (fun _ _ => False) s
  rw [e, e', keyLt'_oneType]
  exact oneLt_str ⟨rfl, rfl⟩
theorem strs_sortable {a : Addr} {vs : List Value} {ns : List Str} (hI : StrsAre vs ns) (h2 : 2 ≤ vs.length) : SortableO prog w A s a vs ltSv := by
  intro h' _
  refine ⟨oneType', fun Q E hq => ?_, str_cmp hI⟩
  match vs, hI, h2 with
  | v1 :: v2 :: rest, hI, _ =>
    rw [keyKind_strs hI]
    exact wpAny_pure hq
  | [], _, h => exact absurd h (by decide)
  | [v], _, h => exact absurd h (by simp)
theorem strs_out {vs out : List Value} {ns : List Str} (hI : StrsAre vs ns) (hs : Srtd ltSv out) (hp : out.Perm vs) : StrsAre out (sortS ns) := by
  have h1 : StrsAre out (out.map sv) := strs_sv fun v hv => strs_mem hI v (hp.mem_iff.mp hv)
  have h2 : (out.map sv).Perm ns := by
    have q := hp.map sv
    rw [sv_strs hI] at q
    exact q
  have h3 : (out.map sv).Pairwise (fun a b => leS a b = true) := List.pairwise_map.mpr (hs.imp fun {x y} h => by
    have h' : sLt (sv y) (sv x) = false := h
    unfold leS
    rw [h']
    rfl)
  have e : out.map sv = sortS ns := pw_only (h2.trans (sortS_perm ns).symm) h3 (sortS_pw ns)
  rwa [e] at h1
end
/-- sorted(list of texts) -/
def rSrtSA (K : Frag) : List V → Hp → VK → Prop := fun vs H Q => ∃ (a : Addr) (xs : List Str), vs = [V.ref a] ∧ SqL K H a (xs.map V.str) ∧
  ∀ p : Addr, H p = none → Q (.ref p) (upd H p (.lst ((sortS xs).map V.str)))
theorem cr_srtSA {X : Cx} : CallR X (.builtin "sorted") (rSrtSA X.K) := by
  intro pins s σ H vs us Q I r h
  obtain ⟨a, xs, rfl, hs, q⟩ := h
  obtain ⟨its, rv, hl, hz⟩ := I.list hs
  rw [Vals.ref1 r]
  have hlen0 := rv.length
  rw [List.length_map] at hlen0 hz
  refine sorted_strsAny hl.isList rv.strs (by rw [← hlen0]; exact hz) fun out ys h1 h2 h3 => ?_
  have e := sorted_only h2 h3
  subst e
  obtain ⟨ep, he'⟩ := sortedAll_at s.heap its out
  have hlen : ((sortS xs).map V.str).length ≤ sizeLine := by
    rw [List.length_map, h2.length_eq]
    exact hz
  exact ⟨.ref _, upd H (s.heap.objs.size + 1) (.lst ((sortS xs).map V.str)), I.laid (t' := s.toks) (fun _ _ => sortedAll_old) (Nat.le_succ _) ⟨hlen, out.toList, ep, vals_of_strs h1, he'⟩, rfl, q _ (I.hok.fresh (Nat.le_succ _))⟩
/-- sorted(dict of texts) -/
def rSrtDA : List V → Hp → VK → Prop := fun xs H Q => ∃ (a : Addr) (kvs : List (Key × V)) (ks : List Str), xs = [.ref a] ∧ Rd H a (.dK kvs) ∧ kvs.map (·.1) = ks.map Sum.inr ∧
    ∀ p, H p = none → Q (.ref p) (upd H p (.lst ((sortS ks).map V.str)))
theorem dict_keys {X : Cx} {ks : List Str} {vs : List (Key × Value)} {acc : Array Value} (hkeys : vs.map (·.1) = ks.map Sum.inr) (hl : vs.length = ks.length) (hacc1 : acc.size = vs.length)
    (hacc2 : ∀ (j : Nat) (v : Value), acc[j]? = some v → ∃ (k : Key) (x : Value), vs[j]? = some (k, x) ∧ (mixKind X.prog X.w).is k v = true) : StrsAre acc.toList ks := by
  have hal : acc.toList.length = ks.length := by rw [Array.length_toList, hacc1, hl]
  exact strs_at hal fun j v e => by
    obtain ⟨k, x, e1, e2⟩ := hacc2 j v (by rw [← Array.getElem?_toList]; exact e)
    have e3 : (vs.map (·.1))[j]? = some k := by rw [List.getElem?_map, e1]; all_goals rfl
    rw [hkeys, List.getElem?_map] at e3
    cases e4 : ks[j]? with
    | none => rw [e4] at e3; cases e3
    | some y =>
      rw [e4] at e3
      have e5 : Sum.inr y = k := Option.some.inj e3
      subst e5
      obtain ⟨t, ev⟩ := Value.isStrOf_shape (x := y) (v := v) e2
      exact ⟨y, t, rfl, ev⟩
theorem cr_srtDA {X : Cx} (hcalm : X.calm = true) : CallR X (.builtin "sorted") rSrtDA := by
  intro pins s σ H xs us Q I r q
  obtain ⟨a, kvs, ks, ex, hd, hks, q⟩ := q
  subst ex
  obtain ⟨u, eu, rx⟩ := vals1 r
  subst eu
  cases rx
  obtain ⟨z, lo, vs, rel, dd⟩ := dk_rd I.hok hd
  obtain ⟨ep, hat⟩ := dd.dictAt
  have hkeys : vs.map (·.1) = ks.map Sum.inr := rel.keys.symm.trans hks
  have hl : vs.length = ks.length := by
    have e := congrArg List.length hkeys
    rw [List.length_map, List.length_map] at e
    exact e
  have h16 : vs.length ≤ sizeLine := by rw [← rel.length]; exact z
  refine Calls.call_function_entry PyProof.Rows.kind_sorted PyProof.Rows.plain_sorted PyProof.Rows.entry_sorted (PyProof.Rows.args_sorted1 _) ?_
  unfold Builtin.«sorted»
  refine wpAny_bind (m := checkCount "sorted" 1 1 _) (wpAny_pure ?_)
  refine wpAny_bind (PySem.W.kdu_collect (A := X.A.in1) (PySem.W.kdl_dict (knd := mixKind X.prog X.w) (kvs := vs) (ep := ep) lo) (I.ok.hd hcalm) hat h16 fun h' tk acc hk hacc => ?_)
  have hS : StrsAre acc.toList ks := dict_keys (X := X) hkeys hl hacc.1 hacc.2
  have hal : acc.toList.length = ks.length := by rw [Array.length_toList, hacc.1, hl]
  have I1 : Inv X pins σ H { s with heap := h', toks := tk } := I.kept hk
  have hz2 : acc.toList.length ≤ sizeLine := by
    rw [hal, ← hl]
    exact h16
  refine wpAny_bind (wpAny_newList ?_ hz2)
  have hoL : (h'.push (seqObj "list" acc.toList.toArray 0)).get? h'.objs.size = some (seqObj "list" acc.toList.toArray 0) := Heap.get?_push_size _ rfl
  show wpAny _ _ _ _ _ { s with heap := h'.push (seqObj "list" acc.toList.toArray 0), toks := tk }
  refine wpAny_bind (wpAny_holding (wpAny_call_entry PyProof.Rows.slot_list_sort ⟨_, hoL, rfl⟩ PyProof.Rows.entry_list_sort
    (list_sort_ord (s := { s with heap := h'.push (seqObj "list" acc.toList.toArray 0), toks := tk }) swo_str hoL hz2 (fun h2 => strs_sortable hS h2) fun out hs hb => ⟨_, rfl, ?_⟩)
    (PyProof.Rows.args_list_sort _)))
  have g1 := strs_out hS hs hb.perm
  obtain ⟨e', he'⟩ := PyProof.Rows.sortedHeap_at (vs := acc.toList) (out := out.toArray) hoL
  have hlen : ((sortS ks).map V.str).length ≤ sizeLine := by
    rw [List.length_map, (sortS_perm ks).length_eq, ← hl]
    exact h16
  refine wpAny_pure ⟨_, rfl, .ref h'.objs.size, upd H h'.objs.size (.lst ((sortS ks).map V.str)), I1.laid (t' := tk) (fun b u e => ?_) (Nat.le_refl _)
    (show ObjOk X.prog X.w _ _ _ (.lst ((sortS ks).map V.str)) from ⟨hlen, out, e', vals_of_strs g1, he'⟩), rfl, q _ (I1.hok.fresh (Nat.le_refl _))⟩
  have hb : b < h'.objs.size := Heap.lt_size e
  rw [PyProof.Rows.sortedHeap_old (Nat.ne_of_lt hb) (by rw [size_push']; exact Nat.lt_succ_of_lt hb)]
  exact Heap.get?_push_of_some _ e
/-- sorted(dict of texts, reverse=True) -/
def rSrtDR : List V → List V → Hp → VK → Prop := fun xs zs H Q => ∃ (a : Addr) (kvs : List (Key × V)) (ks : List Str), xs = [.ref a] ∧ zs = [.bl true] ∧ Rd H a (.dK kvs) ∧ kvs.map (·.1) = ks.map Sum.inr ∧
    ∀ p, H p = none → Q (.ref p) (upd H p (.lst ((sortS ks).reverse.map V.str)))
theorem strs_rev : ∀ {vs : List Value} {ss : List Str}, StrsAre vs ss → StrsAre vs.reverse ss.reverse := fun {vs ss} h => by
  have h1 : StrsAre vs.reverse (vs.reverse.map sv) := strs_sv fun v hv => strs_mem h v (List.mem_reverse.mp hv)
  rwa [List.map_reverse, sv_strs h] at h1
theorem cr_srtDR {X : Cx} (hcalm : X.calm = true) : CallRK X (.builtin "sorted") [Str.ofString "reverse"] rSrtDR := by
  intro pins s σ H xs zs us ws Q I r rz q
  obtain ⟨a, kvs, ks, ex, ez, hd, hks, q⟩ := q
  subst ex
  subst ez
  obtain ⟨u, eu, rx⟩ := vals1 r
  subst eu
  cases rx
  obtain ⟨w1, rfl, e1⟩ := vals1 rz
  obtain rfl : w1 = Value.bool true := e1
  obtain ⟨z, lo, vs, rel, dd⟩ := dk_rd I.hok hd
  obtain ⟨ep, hat⟩ := dd.dictAt
  have hkeys : vs.map (·.1) = ks.map Sum.inr := rel.keys.symm.trans hks
  have hl : vs.length = ks.length := by
    have e := congrArg List.length hkeys
    rw [List.length_map, List.length_map] at e
    exact e
  have h16 : vs.length ≤ sizeLine := by rw [← rel.length]; exact z
  refine call_function_entry_kw PyProof.Rows.kind_sorted PyProof.Rows.plain_sorted PyProof.Rows.entry_sorted (PyProof.Rows.args_sorted_rev _ _) ?_
  unfold Builtin.«sorted»
  refine wpAny_bind (m := checkCount "sorted" 1 1 _) (wpAny_pure ?_)
  refine wpAny_bind (PySem.W.kdu_collect (A := X.A.in1) (PySem.W.kdl_dict (knd := mixKind X.prog X.w) (kvs := vs) (ep := ep) lo) (I.ok.hd hcalm) hat h16 fun h' tk acc hk hacc => ?_)
  have hS : StrsAre acc.toList ks := dict_keys (X := X) hkeys hl hacc.1 hacc.2
  have hal : acc.toList.length = ks.length := by rw [Array.length_toList, hacc.1, hl]
  have I1 : Inv X pins σ H { s with heap := h', toks := tk } := I.kept hk
  have hz2 : acc.toList.length ≤ sizeLine := by
    rw [hal, ← hl]
    exact h16
  refine wpAny_bind (wpAny_newList ?_ hz2)
  have hoL : (h'.push (seqObj "list" acc.toList.toArray 0)).get? h'.objs.size = some (seqObj "list" acc.toList.toArray 0) := Heap.get?_push_size _ rfl
  show wpAny _ _ _ _ _ { s with heap := h'.push (seqObj "list" acc.toList.toArray 0), toks := tk }
  refine wpAny_bind (wpAny_holding (wpAny_call_entry_kw PyProof.Rows.slot_list_sort ⟨_, hoL, rfl⟩ PyProof.Rows.entry_list_sort
    (SrtR.list_sort_ordR (b := true) (s := { s with heap := h'.push (seqObj "list" acc.toList.toArray 0), toks := tk }) swo_str hoL hz2 (fun h2 => strs_sortable hS h2) fun out hs hb => ⟨_, rfl, ?_⟩)
    (PyProof.Rows.args_list_sort_rev _ _)))
  have g1 := strs_rev (strs_out hS hs (hb.perm.trans (List.reverse_perm _)))
  obtain ⟨e', he'⟩ := PyProof.Rows.sortedHeap_at (vs := acc.toList) (out := out.toArray.reverse) hoL
  have hlen : ((sortS ks).reverse.map V.str).length ≤ sizeLine := by
    rw [List.length_map, List.length_reverse, (sortS_perm ks).length_eq, ← hl]
    exact h16
  have e0 : out.reverse.toArray = out.toArray.reverse := by simp
  refine wpAny_pure ⟨_, rfl, .ref h'.objs.size, upd H h'.objs.size (.lst ((sortS ks).reverse.map V.str)), I1.laid (t' := tk) (fun b u e => ?_) (Nat.le_refl _)
    (show ObjOk X.prog X.w _ _ _ (.lst ((sortS ks).reverse.map V.str)) from ⟨hlen, out.reverse, e', vals_of_strs g1, by rw [e0]; exact he'⟩), rfl, q _ (I1.hok.fresh (Nat.le_refl _))⟩
  have hb : b < h'.objs.size := Heap.lt_size e
  rw [PyProof.Rows.sortedHeap_old (Nat.ne_of_lt hb) (by rw [size_push']; exact Nat.lt_succ_of_lt hb)]
  exact Heap.get?_push_of_some _ e
section
variable {K : Frag} {E : XK} {ρ : Rho} {μ : Mu} {te tl ta tb td ty tx tv : TE} {t u : TT} {t1 t2 : TS} {X : Value → Mu → Prop} {N : Rho → Mu → Prop} {R : W → Mu → Prop} {P : W → Mu → Prop}
theorem el_srtSA {ks : List Str} (ha : EvL K te ρ μ (ks.map W.str)) : EvL K (tCB (rSrtSA K) (tCons te tNil)) ρ μ ((sortS ks).map W.str) := fun σ H g Q q =>
  ha σ H g _ fun p vs H1 e1 hp h1 r => by
    have ev := dps_strs_of r
    subst ev
    exact ⟨p, ks, rfl, SqL.of h1, fun p2 hn => q p2 _ _ (e1.trans (Ex.new hn)) (fresh_back e1 hn) upd_same (dps_strs _)⟩
theorem el_srtDA {ta : TA} {a : Addr} {sd : List (Str × W)} (ha : EvS K ta ρ μ [.ref a]) (l : μ a = some (.dk (encK sd))) : EvL K (tCB rSrtDA ta) ρ μ ((sortS (sd.map (·.1))).map W.str) := fun σ H g Q q =>
  ha σ H g _ fun vs H1 e1 d1 => by
    obtain ⟨v, rfl, dv⟩ := dps1 d1
    cases dv
    obtain ⟨kv, h, r⟩ := g.2.ex e1 a _ l
    exact ⟨a, kv, sd.map (·.1), rfl, .inl h, by rw [rwp_keys r, encK_keys], fun p hn => q p _ _ (e1.trans (Ex.new hn)) (fresh_back e1 hn) upd_same (dps_strs _)⟩
theorem el_srtDR {ta tk : TA} {a : Addr} {sd : List (Str × W)} (ha : EvS K ta ρ μ [.ref a]) (hk : EvS K tk ρ μ [.bl true]) (l : μ a = some (.dk (encK sd))) : EvL K (tCKw rSrtDR ta tk) ρ μ ((sortS (sd.map (·.1))).reverse.map W.str) := fun σ H g Q q =>
  ha σ H g _ fun vs H1 e1 d1 => hk σ H1 (g.mono e1) _ fun zs H2 e2 d2 => by
    obtain ⟨v, rfl, dv⟩ := dps1 d1
    cases dv
    obtain ⟨v2, rfl, dv2⟩ := dps1 d2
    cases dv2
    have e := e1.trans e2
    obtain ⟨kv, h, r⟩ := g.2.ex e a _ l
    exact ⟨a, kv, sd.map (·.1), rfl, rfl, .inl h, by rw [rwp_keys r, encK_keys], fun p hn => q p _ _ (e.trans (Ex.new hn)) (fresh_back e hn) upd_same (dps_strs _)⟩
end
end Pw

namespace Pw
open PySem L2 Evl
open Pd (sLt)
theorem op_neDA {X : Cx} (hu : X.A.units + 64 < cLine) : OpR X (compareOp .NotEq) rNeDA := op_ne_dictA (by omega)
/-! tests that change the store -/
def EcW (K : Frag) (E : XK) (t : TT) (ρ : Rho) (μ : Mu) (P : Bool → Mu → Prop) (X : Value → Mu → Prop) : Prop := ∀ (σ : L2.St) (H : Hp), S K H σ ρ μ → ∀ Q : Bool → Hp → Prop, (∀ b μ' H', P b μ' → Tk H H' → S K H' σ ρ μ' → Q b H') →
  (∀ c μ' H', X c μ' → Tk H H' → Mem K H' μ' → E c none H') → t σ H Q
section
variable {K : Frag} {E : XK} {ρ : Rho} {μ : Mu} {te tl ta tb td ty tx tv : TE} {t u : TT} {t1 t2 ts : TS} {X : Value → Mu → Prop} {N : Rho → Mu → Prop} {R : W → Mu → Prop} {P : Bool → Mu → Prop}
theorem ed_neDA {a b : Addr} {m : List (Str × Str)} (ha : EvD K ta ρ μ (.ref a)) (hb : EvD K tb ρ μ (.ref b)) (la : μ a = some (.dk (encS m))) (lb : μ b = some (.dk (encS m))) (hf : ∀ p ∈ m, valS m p.1 = some p.2) : EvD K (tOp rNeDA ta tb) ρ μ (.bl false) :=
  ed_twom ha hb fun H v w Q mm dv dw k => by
    cases dv
    cases dw
    obtain ⟨ka, h1, r1⟩ := mm a _ la
    obtain ⟨kb, h2, r2⟩ := mm b _ lb
    have e1 := rwp_str r1
    have e2 := rwp_str r2
    subst e1
    subst e2
    refine ⟨a, b, _, _, rfl, rfl, h1, h2, rfl, fun p hp => ?_, k _ H (Ex.refl H) (.bl _)⟩
    obtain ⟨q, hq, rfl⟩ := List.mem_map.mp hp
    refine ⟨?_, rfl⟩
    rw [valV_map, hf q hq]
    rfl
theorem ecw_pure {b : Bool} (h : EvC K t ρ μ b) (p : P b μ) : EcW K E t ρ μ P X := fun σ H g Q q _ => h σ H g _ fun H1 e1 => q b μ H1 p (Tk.ex e1) (g.mono e1)
theorem ecw_test (h : EvW K E te ρ μ (fun w μ' => ∃ b, w = .bl b ∧ P b μ') X) : EcW K E (tTest te) ρ μ P X := fun σ H g Q q hX => h σ H g _ (fun w μ' v H' p e g' dv => by
  obtain ⟨b, rfl, hp⟩ := p
  cases dv
  exact ⟨b, rfl, q b μ' H' hp e g'⟩) hX
theorem ecw_or {P1 : Bool → Mu → Prop} (h1 : EcW K E t ρ μ P1 X) (h2 : ∀ μ1, P1 true μ1 → P true μ1) (h3 : ∀ μ1, P1 false μ1 → EcW K E u ρ μ1 P X) : EcW K E (tOr t u) ρ μ P X := fun σ H g Q q hX => h1 σ H g _ (fun b μ1 H1 p1 e1 g1 => by
  cases b with
  | true => exact iteT (q true μ1 H1 (h2 μ1 p1) e1 g1)
  | false => exact iteF (h3 μ1 p1 σ H1 g1 Q (fun b2 μ2 H2 p2 e2 g2 => q b2 μ2 H2 p2 (e1.trans e2) g2) fun c μ2 H2 x e2 => hX c μ2 H2 x (e1.trans e2))) hX
theorem rm_ifsW (h : EcW K E t ρ μ P X) (h1 : ∀ μ', P true μ' → RunM K E (tSeq t1 ts) ρ μ' N R X) (h2 : ∀ μ', P false μ' → RunM K E (tSeq t2 ts) ρ μ' N R X) : RunM K E (tSeq (tIfS t t1 t2) ts) ρ μ N R X := fun D σ H g hN hR hX => h σ H g _ (fun b μ1 H1 p1 a1 g1 => by
  cases b with
  | true => exact iteT (h1 μ1 p1 D σ H1 g1 (fun ρ' μ' σ' H' n e2 => hN ρ' μ' σ' H' n (a1.trans e2)) (fun d μ' v H' r e2 => hR d μ' v H' r (a1.trans e2)) fun c μ' H' x e2 => hX c μ' H' x (a1.trans e2))
  | false => exact iteF (h2 μ1 p1 D σ H1 g1 (fun ρ' μ' σ' H' n e2 => hN ρ' μ' σ' H' n (a1.trans e2)) (fun d μ' v H' r e2 => hR d μ' v H' r (a1.trans e2)) fun c μ' H' x e2 => hX c μ' H' x (a1.trans e2))) hX
/-- for x in a new list -/
theorem rm_forN {j : Nat} {xs : List W} (h : EvL K te ρ μ xs) (I : Addr → Nat → Rho → Mu → Prop) (h0 : ∀ p, μ p = none → I p 0 ρ (mset μ p (.ls xs))) (hl : ∀ p i ρ' μ', I p i ρ' μ' → μ' p = some (.ls xs))
    (hs : ∀ p (i : Nat) x ρ' μ', xs[i]? = some x → I p i ρ' μ' → RunM K E ts (ρ'.set j (some x)) μ' (I p (i + 1)) R X) (hd : ∀ p ρ' μ', I p xs.length ρ' μ' → RunM K E t2 ρ' μ' N R X)
    (flat : ∀ (H H' : Hp) (vs vs' : List V), RwAll K H vs xs → RwAll K H' vs' xs → vs' = vs) : RunM K E (tSeq (tFor (iList K te) (gName j) ts) t2) ρ μ N R X := fun D σ H g hN hR hX =>
  h σ H g _ fun p vs H1 e1 hp h1 hds => by
    have hn := g.2.free hp
    have m : Mem K H1 (mset μ p (.ls xs)) := fun b o e' => by
      by_cases hb : b = p
      · subst hb
        rw [mset_same] at e'
        cases e'
        exact ⟨vs, h1, hds⟩
      · rw [mset_ne hb] at e'
        exact (g.2.ex e1) b o e'
    refine ⟨_, rfl, ⟨_, SqL.of h1⟩, for_list (K := K) (xs := vs) (fun i σ' H' => ∃ ρ' μ', I p i ρ' μ' ∧ Tk H H' ∧ S K H' σ' ρ' μ') ⟨ρ, _, h0 p hn, Tk.ex e1, ⟨g.1.tk (Tk.ex e1), m⟩⟩ (fun i σ' H' _ w => ?_) (fun i v σ' H' hv w => ?_) fun σ' H' w => ?_⟩
    · obtain ⟨ρ', μ', p1, e2, g2⟩ := w
      obtain ⟨vs', hq', hds'⟩ := (show isL μ' p xs from .inl (hl p i ρ' μ' p1)).sq g2.2
      rw [flat H1 H' vs vs' hds hds'] at hq'
      exact hq'
    · obtain ⟨ρ', μ', p1, e2, g2⟩ := w
      obtain ⟨vs', hq', hds'⟩ := (show isL μ' p xs from .inl (hl p i ρ' μ' p1)).sq g2.2
      rw [flat H1 H' vs vs' hds hds'] at hds'
      obtain ⟨x, hx, dx⟩ := dps_to i hds' hv
      exact hs p i x ρ' μ' hx p1 _ _ H' (g2.put j dx) (fun ρ3 μ3 σ3 H3 p3 e3 g3 => ⟨ρ3, μ3, p3, e2.trans e3, g3⟩) (fun d μ3 v H3 r e3 => hR d μ3 v H3 r (e2.trans e3)) fun c μ3 H3 x e3 => hX c μ3 H3 x (e2.trans e3)
    · obtain ⟨ρ', μ', p1, e2, g2⟩ := w
      rw [dps_len hds] at p1
      exact hd p ρ' μ' p1 D σ' H' g2 (fun ρ3 μ3 σ3 H3 p3 e3 => hN ρ3 μ3 σ3 H3 p3 (e2.trans e3)) (fun d μ3 v H3 r e3 => hR d μ3 v H3 r (e2.trans e3)) fun c μ3 H3 x e3 => hX c μ3 H3 x (e2.trans e3)
theorem flat_strs {ks : List Str} (H H' : Hp) (vs vs' : List V) (h : RwAll K H vs (ks.map W.str)) (h' : RwAll K H' vs' (ks.map W.str)) : vs' = vs := by
  rw [dps_strs_of h, dps_strs_of h']
/-- d.pop(k), the key there -/
theorem rm_dpop1 {a : Addr} {kvs : List (Key × W)} {k : Key} {w : W} (hd : EvD K td ρ μ (.ref a)) (hk : EvD K ty ρ μ (kW k)) (l : μ a = some (.dk kvs)) (hw : valW kvs k = some w) (kk : RunM K E t2 ρ (mset μ a (.dk (dropW kvs k))) N R X) :
    RunM K E (tSeq (tDrop (tDPop1 td ty)) t2) ρ μ N R X := fun D σ H g hN hR hX =>
  hd σ H g _ fun u H1 e1 d1 => by
    cases d1
    obtain ⟨kv1, h1, r1⟩ := g.2.ex e1 a _ l
    refine ⟨a, rfl, .inl ⟨_, .inl h1⟩, hk σ H1 (g.mono e1) _ fun y H2 e2 d2 => ?_⟩
    have e := e1.trans e2
    obtain ⟨kv, h, r⟩ := g.2.ex e a _ l
    have tk := Tk.upd (o := .dK (dropK kv k)) (nt_dk h)
    have t := (Tk.ex e).trans tk
    obtain ⟨u, f1, _⟩ := (rwp_val r).2 w hw
    refine ⟨kv, k, u, h, kv_of d2, f1, ?_⟩
    exact kk D σ _ ⟨g.1.tk t, (g.2.ex e).put (nt_dk h) ⟨_, upd_same, rwp_drop (rwpm tk r)⟩⟩ (fun ρ' μ' σ' H' n e2 => hN ρ' μ' σ' H' n (t.trans e2)) (fun d μ' v H' r e2 => hR d μ' v H' r (t.trans e2)) fun c μ' H' x e2 => hX c μ' H' x (t.trans e2)
theorem dps4 {H : Hp} {vs : List V} {x y z s : W} (h : RwAll K H vs [x, y, z, s]) : ∃ v w u r, vs = [v, w, u, r] ∧ Rw K H v x ∧ Rw K H w y ∧ Rw K H u z ∧ Rw K H r s := by
  cases h with
  | cons a b =>
    obtain ⟨w, u, r, rfl, c, d, e⟩ := dps3 b
    exact ⟨_, w, u, r, rfl, a, c, d, e⟩
theorem rm_quad {i j l k4 : Nat} {x y z s : W} (h : EvD K te ρ μ (.tup [x, y, z, s])) (k : RunM K E t2 ((((ρ.set i (some x)).set j (some y)).set l (some z)).set k4 (some s)) μ N R X) :
    RunM K E (tSeq (tAsg te (gTup K 4 (gCons (gName i) (gCons (gName j) (gCons (gName l) (gCons (gName k4) gNil)))))) t2) ρ μ N R X := fun D σ H g hN hR hX => h σ H g _ fun v H1 e1 d1 => by
  have a1 := Tk.ex e1
  cases d1 with
  | tup hq hs =>
    obtain ⟨v, w, u, r, rfl, dv, dw, du, dr⟩ := dps4 hs
    refine ⟨_, _, rfl, hq, rfl, v, [w, u, r], rfl, w, [u, r], rfl, u, [r], rfl, r, [], rfl, rfl, ?_⟩
    exact k D _ H1 (((((g.mono e1).put i dv).put j dw).put l du).put k4 dr) (fun ρ' μ' σ' H' n e2 => hN ρ' μ' σ' H' n (a1.trans e2)) (fun d μ' v H' r e2 => hR d μ' v H' r (a1.trans e2)) fun c μ' H' x e2 => hX c μ' H' x (a1.trans e2)
end
/-! tuples of texts that the module names -/
structure TupOf (K : Frag) (mg : Str → Option Value) (x : Str) (ws : List Str) : Prop where
  ex : ∃ t : Addr, mg x = some (.ref t) ∧ ∀ H : Hp, SqT K H t (ws.map V.str)
theorem rw_strs {K : Frag} {H : Hp} : ∀ ws : List Str, RwAll K H (ws.map V.str) (ws.map W.str)
  | [] => .nil
  | i :: r => .cons (.str i) (rw_strs r)
theorem ed_gtup {K : Frag} {ρ : Rho} {μ : Mu} {mg : Str → Option Value} {x : Str} {ws : List Str} (u : TupOf K mg x ws) : EvD K (tC (.ref u.ex.choose)) ρ μ (.tup (ws.map W.str)) := fun σ H g Q q => q _ H (Ex.refl H) (.tup (u.ex.choose_spec.2 H) (rw_strs ws))
def eqStrs : List Value → List Str → Bool
  | [], [] => true
  | .str x _ :: r, y :: s => decide (x = y) && eqStrs r s
  | _, _ => false
theorem eqStrs_ok : ∀ {vs : List Value} {ws : List Str}, eqStrs vs ws = true → Vals (ws.map V.str) vs
  | [], [], _ => .nil
  | v :: r, y :: s, h => by
    cases v with
    | str x t =>
      obtain ⟨h1, h2⟩ := Bool.and_eq_true_iff.mp (show (decide (x = y) && eqStrs r s) = true from h)
      have e : x = y := of_decide_eq_true h1
      exact .cons ⟨t, by rw [e]⟩ (eqStrs_ok h2)
    | _ => cases h
  | [], _ :: _, h => by cases h
  | v :: _, [], h => by cases v <;> cases h
def tupB (K : Frag) (a : Addr) (ws : List Str) : Bool := match K.lookup a with
  | some ⟨.type c, _, .seq its _, _⟩ => decide (c = "tuple") && (decide (its.size ≤ 100) && eqStrs its.toList ws)
  | _ => false
theorem tup_of {K : Frag} {mg : Str → Option Value} {x : Str} {ws : List Str} (G : mg x = some (.ref (He.ga K x))) (h : tupB K (He.ga K x) ws = true) : TupOf K mg x ws := by
  refine ⟨He.ga K x, G, fun H => .inr ?_⟩
  unfold tupB at h
  cases q : K.lookup (He.ga K x) with
  | none =>
    rw [q] at h
    cases h
  | some o =>
    obtain ⟨oc, od, dt, osl⟩ := o
    rw [q] at h
    cases oc with
    | type c =>
      cases dt with
      | seq its n =>
        obtain ⟨h1, h2⟩ := Bool.and_eq_true_iff.mp (show (decide (c = "tuple") && (decide (its.size ≤ 100) && eqStrs its.toList ws)) = true from h)
        obtain ⟨h3, h4⟩ := Bool.and_eq_true_iff.mp h2
        have e : c = "tuple" := of_decide_eq_true h1
        have e2 : its.size ≤ 100 := of_decide_eq_true h3
        subst e
        exact ⟨_, its, n, rfl, rfl, rfl, sz_of (by omega), eqStrs_ok h4⟩
      | _ => cases h
    | _ => cases dt <;> cases h
/-! ### operations on a table -/
inductive Op where
  | get (k : Str) | put (k v : Str) | drop (k : Str) | swap (k o n : Str) | page (low : Str) (lim : Int)
def opW : Op → W
  | .get k => .tup [.str "get", .str k]
  | .put k v => .tup [.str "put", .str k, .str v]
  | .drop k => .tup [.str "drop", .str k]
  | .swap k o n => .tup [.str "swap", .str k, .str o, .str n]
  | .page low lim => .tup [.str "page", .str low, .int lim]
def okOp : Op → Prop
  | .get k | .drop k => okS k
  | .put k v => okS k ∧ okS v
  | .swap k o n => okS k ∧ okS o ∧ okS n
  | .page low lim => okS low ∧ 1 ≤ lim ∧ lim ≤ 1000
def resW (m : List (Str × Str)) (op : Op) (high : W) : W := match op with
  | .get k => (match valS m k with
    | none => .tup [.str "none"]
    | some v => .tup [.str "value", .str v])
  | .put _ _ => .tup [.str "done"]
  | .drop k => (match valS m k with
    | none => .tup [.str "none"]
    | some _ => .tup [.str "done"])
  | .swap k o _ => (match valS m k with
    | none => .tup [.str "none"]
    | some v => if v = o then .tup [.str "done"] else .tup [.str "other", .str v])
  | .page low lim => pageW m low lim high
def resM (m : List (Str × Str)) : Op → List (Str × Str)
  | .put k v => putS m k v
  | .drop k => dropS m k
  | .swap k o n => (match valS m k with
    | none => m
    | some v => if v = o then putS m k n else m)
  | _ => m
theorem upd_refl {a : Addr} {o : O} {μ : Mu} (h : μ a = some o) : Upd a o μ μ := ⟨h, fun _ _ _ e => e⟩
theorem upd_grow {a : Addr} {o : O} {μ μ' : Mu} (h : μ a = some o) (g : Grow μ μ') : Upd a o μ μ' := ⟨g _ _ h, fun _ _ _ e => g _ _ e⟩
section
variable {K : Frag} {E : XK} {ρ : Rho} {μ : Mu} {ta tb : TE} {X : Value → Mu → Prop}
theorem ew_neD {P1 : W → Mu → Prop} {P2 : W → W → Mu → Prop} {P : W → Mu → Prop} (ha : EvW K E ta ρ μ P1 X) (hb : ∀ x μ1, P1 x μ1 → EvW K E tb ρ μ1 (P2 x) X)
    (hp : ∀ x y μ2, P2 x y μ2 → ∃ dx dy, Dw μ2 x dx ∧ Dw μ2 y dy ∧ SeqAt.shaped dx = true ∧ SeqAt.shaped dy = true ∧ P (.bl (!PyData.eqv dx dy)) μ2) : EvW K E (tOp (rNeD K) ta tb) ρ μ P X :=
  ew_two ha hb fun x y μ2 p2 σ H v w Q g dv dw k => by
    obtain ⟨dx, dy, zx, zy, sx, sy, hP⟩ := hp x y μ2 p2
    exact ⟨dx, dy, dp_of g.2 zx dv, dp_of g.2 zy dw, sx, sy, k _ μ2 _ H hP (Tk.refl H) g (.bl _)⟩
theorem ew_eqD {P1 : W → Mu → Prop} {P2 : W → W → Mu → Prop} {P : W → Mu → Prop} (ha : EvW K E ta ρ μ P1 X) (hb : ∀ x μ1, P1 x μ1 → EvW K E tb ρ μ1 (P2 x) X)
    (hp : ∀ x y μ2, P2 x y μ2 → ∃ dx dy, Dw μ2 x dx ∧ Dw μ2 y dy ∧ SeqAt.shaped dx = true ∧ SeqAt.shaped dy = true ∧ P (.bl (PyData.eqv dx dy)) μ2) : EvW K E (tOp (rEqD K) ta tb) ρ μ P X :=
  ew_two ha hb fun x y μ2 p2 σ H v w Q g dv dw k => by
    obtain ⟨dx, dy, zx, zy, sx, sy, hP⟩ := hp x y μ2 p2
    exact ⟨dx, dy, dp_of g.2 zx dv, dp_of g.2 zy dw, sx, sy, k _ μ2 _ H hP (Tk.refl H) g (.bl _)⟩
end
inductive KindOk : W → Prop
  | one (k : Str) (h : k ≠ "page") : KindOk (.tup [.str k])
  | two (k v : Str) (h : k ≠ "page") : KindOk (.tup [.str k, .str v])
  | page (m : List (Str × Str)) (ks : List Str) (nx : Option Str) : KindOk (.tup [.str "page", .tup (ks.map (pairW m)), oW nx])
/-- what comes behind a page -/
def nextO (m : List (Str × Str)) (low : Str) (lim : Int) (hi : Option Str) : Option Str := if lim < ((pageK m low).length : Int) then some ((pageK m low).getD lim.toNat "") else hi
theorem page_oW (m : List (Str × Str)) (low : Str) (lim : Int) (hi : Option Str) : pageW m low lim (oW hi) = .tup [.str "page", .tup (((pageK m low).take lim.toNat).map (pairW m)), oW (nextO m low lim hi)] := by
  unfold pageW nextO
  split <;> rfl
section
variable {m : List (Str × Str)} {k o n v : Str} {high : W}
theorem rg0 (h : valS m k = none) : resW m (.get k) high = .tup [.str "none"] := by
  show (match valS m k with | none => W.tup [.str "none"] | some v => W.tup [.str "value", .str v]) = _
  rw [h]
theorem rg1 (h : valS m k = some v) : resW m (.get k) high = .tup [.str "value", .str v] := by
  show (match valS m k with | none => W.tup [.str "none"] | some v => W.tup [.str "value", .str v]) = _
  rw [h]
theorem rd0 (h : valS m k = none) : resW m (.drop k) high = .tup [.str "none"] := by
  show (match valS m k with | none => W.tup [.str "none"] | some v => W.tup [.str "done"]) = _
  rw [h]
theorem rd1 (h : valS m k = some v) : resW m (.drop k) high = .tup [.str "done"] := by
  show (match valS m k with | none => W.tup [.str "none"] | some v => W.tup [.str "done"]) = _
  rw [h]
theorem rs0 (h : valS m k = none) : resW m (.swap k o n) high = .tup [.str "none"] := by
  show (match valS m k with | none => W.tup [.str "none"] | some v => if v = o then W.tup [.str "done"] else .tup [.str "other", .str v]) = _
  rw [h]
theorem rs1 (h : valS m k = some v) (c : v = o) : resW m (.swap k o n) high = .tup [.str "done"] := by
  show (match valS m k with | none => W.tup [.str "none"] | some v => if v = o then W.tup [.str "done"] else .tup [.str "other", .str v]) = _
  rw [h]
  exact if_pos c
theorem rs2 (h : valS m k = some v) (c : ¬ v = o) : resW m (.swap k o n) high = .tup [.str "other", .str v] := by
  show (match valS m k with | none => W.tup [.str "none"] | some v => if v = o then W.tup [.str "done"] else .tup [.str "other", .str v]) = _
  rw [h]
  exact if_neg c
theorem ms0 (h : valS m k = none) : resM m (.swap k o n) = m := by
  show (match valS m k with | none => m | some v => if v = o then putS m k n else m) = _
  rw [h]
theorem ms1 (h : valS m k = some v) (c : v = o) : resM m (.swap k o n) = putS m k n := by
  show (match valS m k with | none => m | some v => if v = o then putS m k n else m) = _
  rw [h]
  exact if_pos c
theorem ms2 (h : valS m k = some v) (c : ¬ v = o) : resM m (.swap k o n) = m := by
  show (match valS m k with | none => m | some v => if v = o then putS m k n else m) = _
  rw [h]
  exact if_neg c
end
theorem kind_res (m : List (Str × Str)) (op : Op) (hi : Option Str) : KindOk (resW m op (oW hi)) := by
  cases op with
  | get k =>
    cases h : valS m k with
    | none => rw [rg0 h]; exact .one "none" (by decide +kernel)
    | some v => rw [rg1 h]; exact .two "value" _ (by decide +kernel)
  | put k v => exact .one "done" (by decide +kernel)
  | drop k =>
    cases h : valS m k with
    | none => rw [rd0 h]; exact .one "none" (by decide +kernel)
    | some v => rw [rd1 h]; exact .one "done" (by decide +kernel)
  | swap k o n =>
    cases h : valS m k with
    | none => rw [rs0 h]; exact .one "none" (by decide +kernel)
    | some v =>
      by_cases c : v = o
      · rw [rs1 h c]; exact .one "done" (by decide +kernel)
      · rw [rs2 h c]; exact .two "other" _ (by decide +kernel)
  | page low lim =>
    show KindOk (pageW m low lim (oW hi))
    rw [page_oW]
    exact .page _ _ _
theorem res_head (m : List (Str × Str)) (op : Op) (high : W) : ∃ k rest, resW m op high = .tup (.str k :: rest) ∧ (k ≠ "done" → resM m op = m) := by
  cases op with
  | get k =>
    cases h : valS m k with
    | none => exact ⟨"none", [], rg0 h, fun _ => rfl⟩
    | some v => exact ⟨"value", _, rg1 h, fun _ => rfl⟩
  | put k v => exact ⟨"done", _, rfl, fun q => absurd rfl q⟩
  | drop k =>
    cases h : valS m k with
    | none => exact ⟨"none", [], rd0 h, fun _ => valS_none h⟩
    | some v => exact ⟨"done", _, rd1 h, fun q => absurd rfl q⟩
  | swap k o n =>
    cases h : valS m k with
    | none => exact ⟨"none", [], rs0 h, fun _ => ms0 h⟩
    | some v =>
      by_cases c : v = o
      · exact ⟨"done", [], rs1 h c, fun q => absurd rfl q⟩
      · exact ⟨"other", [.str v], rs2 h c, fun _ => ms2 h c⟩
  | page low lim => exact ⟨"page", _, rfl, fun _ => rfl⟩
theorem resM_len (m : List (Str × Str)) (op : Op) : (resM m op).length ≤ m.length + 1 := by
  cases op with
  | get k => exact Nat.le_succ _
  | put k v => exact putS_len _ _ _
  | drop k => exact Nat.le_succ_of_le (dropS_len _ _)
  | swap k o n =>
    cases h : valS m k with
    | none => rw [ms0 h]; exact Nat.le_succ _
    | some v =>
      by_cases c : v = o
      · rw [ms1 h c]; exact putS_len _ _ _
      · rw [ms2 h c]; exact Nat.le_succ _
  | page low lim => exact Nat.le_succ _
theorem resM_nodup {m : List (Str × Str)} (h : (m.map (·.1)).Nodup) (op : Op) : ((resM m op).map (·.1)).Nodup := by
  cases op with
  | get k => exact h
  | put k v => exact putS_nodup h
  | drop k => exact h.sublist (List.Sublist.map _ List.filter_sublist)
  | swap k o n =>
    cases e : valS m k with
    | none => rw [ms0 e]; exact h
    | some v =>
      by_cases c : v = o
      · rw [ms1 e c]; exact putS_nodup h
      · rw [ms2 e c]; exact h
  | page low lim => exact h
theorem resM_ok {m : List (Str × Str)} (h : okM m) {op : Op} (q : okOp op) : okM (resM m op) := by
  cases op with
  | get k => exact h
  | put k v => exact okM_put h q.1 q.2
  | drop k => exact okM_drop h
  | swap k o n =>
    cases e : valS m k with
    | none => rw [ms0 e]; exact h
    | some v =>
      by_cases c : v = o
      · rw [ms1 e c]; exact okM_put h q.1 q.2.2
      · rw [ms2 e c]; exact h
  | page low lim => exact h
/-- the answer as data -/
theorem res_data {m : List (Str × Str)} (h : okM m) {op : Op} {hi : Option Str} (hh : ∀ z, hi = some z → okS z) : ∃ d, (∀ μ, Dw μ (resW m op (oW hi)) d) ∧ SeqAt.shaped d = true ∧ PyData.eqv d d = true := by
  have one : ∀ k : Str, okS k → ∃ d, (∀ μ, Dw μ (.tup [.str k]) d) ∧ SeqAt.shaped d = true ∧ PyData.eqv d d = true := fun k hk => by
    have o : okD (.tuple [.str k]) := by unfold okD okDs okD okDs; exact ⟨hk, trivial⟩
    exact ⟨_, fun μ => .tup (.cons .str .nil), shaped_ok (n := 1) o (by unfold PyData.depth PyData.depthAll PyData.depth PyData.depthAll; omega) (by decide), PySem.SeqAt.eqv_refl _ (canLay_ok o)⟩
  have two : ∀ k v : Str, okS k → okS v → ∃ d, (∀ μ, Dw μ (.tup [.str k, .str v]) d) ∧ SeqAt.shaped d = true ∧ PyData.eqv d d = true := fun k v hk hv => by
    have o : okD (.tuple [.str k, .str v]) := by unfold okD okDs okD okDs okD okDs; exact ⟨hk, hv, trivial⟩
    exact ⟨_, fun μ => .tup (.cons .str (.cons .str .nil)), shaped_ok (n := 1) o (by unfold PyData.depth PyData.depthAll PyData.depth PyData.depthAll PyData.depth PyData.depthAll; omega) (by decide), PySem.SeqAt.eqv_refl _ (canLay_ok o)⟩
  have vo : ∀ {k v}, valS m k = some v → okS v := fun {k v} e => (h _ (valS_mem e)).2
  cases op with
  | get k =>
    cases e : valS m k with
    | none => rw [rg0 e]; exact one "none" (okS_lit (by decide +kernel))
    | some v => rw [rg1 e]; exact two "value" _ (okS_lit (by decide +kernel)) (vo e)
  | put k v => exact one "done" (okS_lit (by decide +kernel))
  | drop k =>
    cases e : valS m k with
    | none => rw [rd0 e]; exact one "none" (okS_lit (by decide +kernel))
    | some v => rw [rd1 e]; exact one "done" (okS_lit (by decide +kernel))
  | swap k o n =>
    cases e : valS m k with
    | none => rw [rs0 e]; exact one "none" (okS_lit (by decide +kernel))
    | some v =>
      by_cases c : v = o
      · rw [rs1 e c]; exact one "done" (okS_lit (by decide +kernel))
      · rw [rs2 e c]; exact two "other" _ (okS_lit (by decide +kernel)) (vo e)
  | page low lim =>
    show ∃ d, (∀ μ, Dw μ (pageW m low lim (oW hi)) d) ∧ _
    rw [page_oW]
    have hk : ∀ k ∈ (pageK m low).take lim.toNat, k ∈ m.map (·.1) := fun k hk => (page_mem.mp (List.mem_of_mem_take hk)).1
    obtain ⟨p1, p2⟩ := ok_pairs h hk
    have nx : okD (oD (nextO m low lim hi)) ∧ PyData.depth (oD (nextO m low lim hi)) = 0 := by
      have q : ∀ z, nextO m low lim hi = some z → okS z := fun z e => by
        unfold nextO at e
        split at e
        · rename_i c
          have e2 := Option.some.inj e
          have q2 : lim.toNat < (pageK m low).length ∨ ¬ lim.toNat < (pageK m low).length := by omega
          rcases q2 with q2 | q2
          · rw [List.getD_eq_getElem?_getD, List.getElem?_eq_getElem q2] at e2
            have hm := (page_mem.mp (e2 ▸ List.getElem_mem q2 : z ∈ pageK m low)).1
            obtain ⟨v, hv⟩ := valS_some hm
            exact (h _ (valS_mem hv)).1
          · rw [List.getD_eq_getElem?_getD, List.getElem?_eq_none (by omega)] at e2
            rw [← e2]
            exact okS_lit (by decide +kernel)
        · exact hh z e
      cases e : nextO m low lim hi with
      | none => exact ⟨by unfold oD okD; trivial, by unfold oD PyData.depth; rfl⟩
      | some z => exact ⟨by unfold oD okD; exact q z e, by unfold oD PyData.depth; rfl⟩
    have o : okD (.tuple [.str "page", .tuple (((pageK m low).take lim.toNat).map (pairD m)), oD (nextO m low lim hi)]) := by
      unfold okD okDs
      refine ⟨okS_lit (by decide +kernel), ?_⟩
      unfold okDs
      refine ⟨by unfold okD; exact p1, ?_⟩
      unfold okDs okDs
      exact ⟨nx.1, trivial⟩
    refine ⟨_, fun μ => .tup (.cons .str (.cons (.tup (dw_pairs m μ _)) (.cons dw_oW .nil))), shaped_ok (n := 4) o ?_ (by decide), PySem.SeqAt.eqv_refl _ (canLay_ok o)⟩
    have d1 : PyData.depth (.tuple (((pageK m low).take lim.toNat).map (pairD m))) ≤ 3 := by
      unfold PyData.depth
      omega
    have d0 : PyData.depth (.str "page") = 0 := by unfold PyData.depth; rfl
    show PyData.depth (.tuple [.str "page", _, _]) ≤ 4
    rw [PyData.depth, PyData.depthAll, PyData.depthAll, PyData.depthAll, PyData.depthAll, d0, nx.2]
    omega
/-- a table told from its keys -/
def tabM (m : List (Str × Str)) (ks : List Str) : List (Str × Str) := ks.map fun k => (k, (valS m k).getD "")
theorem tab_keys (m : List (Str × Str)) (ks : List Str) : (tabM m ks).map (·.1) = ks := by
  unfold tabM
  rw [List.map_map]
  exact List.map_id' ks
theorem tab_val (m : List (Str × Str)) {k : Str} : ∀ {ks : List Str}, k ∈ ks → valS (tabM m ks) k = some ((valS m k).getD "")
  | [], h => by cases h
  | a :: r, h => by
    show ((List.find? (fun p => decide (p.1 = k)) ((a, (valS m a).getD "") :: tabM m r)).map (·.2)) = _
    rw [List.find?_cons]
    by_cases e : a = k
    · subst e
      rw [show decide (((a, (valS m a).getD "") : Str × Str).1 = a) = true from decide_eq_true rfl]
      rfl
    · rw [show decide (((a, (valS m a).getD "") : Str × Str).1 = k) = false from decide_eq_false e]
      exact tab_val m ((List.mem_cons.mp h).resolve_left fun q => e q.symm)
theorem tab_put (m : List (Str × Str)) {ks : List Str} {k v : Str} (h : k ∉ ks) (hv : valS m k = some v) : putS (tabM m ks) k v = tabM m (ks ++ [k]) := by
  unfold putS
  rw [if_neg]
  · unfold tabM
    rw [List.map_append, List.map_cons, List.map_nil, hv]
    rfl
  · intro c
    rw [List.any_eq_true] at c
    obtain ⟨p, hp, e⟩ := c
    apply h
    rw [← of_decide_eq_true e]
    have : p.1 ∈ (tabM m ks).map (·.1) := List.mem_map.mpr ⟨p, hp, rfl⟩
    rwa [tab_keys] at this
theorem tab_page (m : List (Str × Str)) {ks : List Str} (hp : ks.Perm (m.map (·.1))) (low : Str) (lim : Int) (high : W) : pageW (tabM m ks) low lim high = pageW m low lim high := by
  have e1 : pageK (tabM m ks) low = pageK m low := by
    unfold pageK
    rw [tab_keys]
    exact pw_only ((sortS_perm _).trans ((List.Perm.filter _ hp).trans (sortS_perm _).symm)) (sortS_pw _) (sortS_pw _)
  unfold pageW
  rw [e1]
  have e2 : ((pageK m low).take lim.toNat).map (pairW (tabM m ks)) = ((pageK m low).take lim.toNat).map (pairW m) := by
    apply List.map_congr_left
    intro k hk
    have hm := (page_mem.mp (List.mem_of_mem_take hk)).1
    unfold pairW
    rw [tab_val m (hp.mem_iff.mpr hm)]
    rfl
  rw [e2]
theorem tab_ok {m : List (Str × Str)} (h : okM m) {ks : List Str} (hk : ∀ k ∈ ks, k ∈ m.map (·.1)) : okM (tabM m ks) := fun p hp => by
  obtain ⟨k, hk2, rfl⟩ := List.mem_map.mp hp
  obtain ⟨v, hv⟩ := valS_some (hk k hk2)
  have o := h _ (valS_mem hv)
  refine ⟨o.1, ?_⟩
  show okS ((valS m k).getD "")
  rw [hv]
  exact o.2
theorem valS_put {k v : Str} (m : List (Str × Str)) : valS (putS m k v) k = some v := by
  unfold putS
  split
  · rename_i c
    induction m with
    | nil => cases c
    | cons a r ih =>
      unfold valS
      rw [List.map_cons, List.find?_cons]
      by_cases e : a.1 = k
      · rw [if_pos e, show decide (((a.1, v) : Str × Str).1 = k) = true from decide_eq_true e]
        rfl
      · rw [if_neg e, decide_eq_false e]
        have c2 : (r.any fun p => decide (p.1 = k)) = true := by
          rw [List.any_cons, decide_eq_false e] at c
          exact c
        exact ih c2
  · rename_i c
    unfold valS
    rw [List.find?_append]
    have e : m.find? (fun p => decide (p.1 = k)) = none := by
      rw [List.find?_eq_none]
      intro p hp q
      exact c (List.any_eq_true.mpr ⟨p, hp, q⟩)
    rw [e, List.find?_cons, show decide (((k, v) : Str × Str).1 = k) = true from decide_eq_true rfl]
    rfl
theorem op_key (op : Op) : ∃ kd key rest, opW op = .tup (.str kd :: .str key :: rest) := by
  cases op <;> exact ⟨_, _, _, rfl⟩
end Pw

namespace Pw
open PySem L2 Evl
open Pd (sLt)
/-! operations and letters as data -/
abbrev at_ (ds : List PyData) (i : Nat) : PyData := ds.getD i .none
abbrev atW (ws : List W) (i : Nat) : W := ws.getD i .non
theorem dw_nth {μ : Mu} : ∀ {ws : List W} {ds : List PyData} (i : Nat), DwAll μ ws ds → Dw μ (atW ws i) (at_ ds i)
  | [], _, i, h => by
    cases h
    exact .non
  | w :: ws, _, 0, h => by
    cases h with
    | cons a b => exact a
  | w :: ws, _, i + 1, h => by
    cases h with
    | cons a b => exact dw_nth i b
theorem ok_nth : ∀ {ds : List PyData} (i : Nat), okDs ds → okD (at_ ds i)
  | [], i, _ => by
    show okD .none
    unfold okD
    trivial
  | d :: ds, 0, h => by
    unfold okDs at h
    exact h.1
  | d :: ds, i + 1, h => by
    unfold okDs at h
    exact ok_nth i h.2
theorem atW_get {ws : List W} {i : Nat} (h : i < ws.length) : ws[i]? = some (atW ws i) := by
  show ws[i]? = some (ws.getD i .non)
  rw [List.getD_eq_getElem?_getD, List.getElem?_eq_getElem h]
  rfl
section
variable {K : Frag} {ρ : Rho} {μ : Mu} {ta tb : TE}
/-- the i-th item of a tuple whose length is told -/
theorem ed_at {ws : List W} {n : Int} (i : Nat) (ha : EvD K ta ρ μ (.tup ws)) (hb : EvD K tb ρ μ (.int (i : Int))) (h : decide ((ws.length : Int) = n) = true) (hi : (i : Int) < n := by decide) : EvD K (tOp (rIxT K) ta tb) ρ μ (atW ws i) :=
  ed_ixT ha hb (Int.natCast_nonneg i) (by
    have := of_decide_eq_true h
    rw [Int.toNat_natCast]
    exact atW_get (by omega))
end
def strOf : PyData → Str
  | .str x => x
  | _ => ""
def noneD : PyData → Bool
  | .none => true
  | _ => false
theorem isNone_dw {μ : Mu} {w : W} {d : PyData} (h : Dw μ w d) : isNone w = noneD d := by
  cases h <;> rfl
def intB (lo hi : Int) : PyData → Bool
  | .int i => decide (lo ≤ i) && decide (i ≤ hi)
  | _ => false
abbrev numB (d : PyData) : Bool := intB 1 1000000000000 d
def rangeB (d e : PyData) : Bool := boundB d && (noneD e || (keyB e && sLt (strOf d) (strOf e)))
def itemsD : PyData → List PyData
  | .tuple ds => ds
  | _ => []
def keyAloneB (ds : List PyData) : Bool := decide ((ds.length : Int) = 2) && keyB (at_ ds 1)
def putB (ds : List PyData) : Bool := decide ((ds.length : Int) = 3) && (keyB (at_ ds 1) && valB (at_ ds 2))
def swapB (ds : List PyData) : Bool := decide ((ds.length : Int) = 4) && (keyB (at_ ds 1) && (valB (at_ ds 2) && valB (at_ ds 3)))
def pageOpB (ds : List PyData) : Bool := decide ((ds.length : Int) = 3) && (boundB (at_ ds 1) && intB 1 50 (at_ ds 2))
def opB (d : PyData) : Bool :=
  if kindS d = "get" ∨ kindS d = "drop" then keyAloneB (itemsD d) else if kindS d = "put" then putB (itemsD d) else if kindS d = "swap" then swapB (itemsD d) else if kindS d = "page" then pageOpB (itemsD d) else false
def clientOf (d : PyData) : Int := match at_ (itemsD d) 0 with
  | .int i => i
  | _ => 0
def rowB (d : PyData) : Bool := match d with
  | .tuple [a, b, c] => intB (-100) (-1) a && (numB b && answerB c)
  | _ => false
def rowsFrom (last : Option Int) : List PyData → Bool
  | [] => true
  | d :: r => (rowB d && (match last with
    | none => true
    | some l => decide (l < clientOf d))) && rowsFrom (some (clientOf d)) r
def rowsB (d : PyData) : Bool := match d with
  | .tuple ds => rowsFrom none ds
  | _ => false
def containsF (a : Str) (hi : Option Str) (b : Str) : Bool := (!sLt b a) && Pd.belowF (some b) hi
def optS : PyData → Option Str
  | .str x => some x
  | _ => none
def pairsInB (a : Str) (hi : Option Str) (d : PyData) : Bool := pairsB d && (itemsD d).all fun p => containsF a hi (headK p)
def shardB (n : Int) (ds : List PyData) : Bool := decide ((ds.length : Int) = n) && (rangeB (at_ ds 1) (at_ ds 2) && numB (at_ ds 3))
def askB (_ : Int) (ds : List PyData) : Bool := decide ((ds.length : Int) = 3) && (numB (at_ ds 1) && opB (at_ ds 2))
def whereB (_ : Int) (ds : List PyData) : Bool := decide ((ds.length : Int) = 2) && boundB (at_ ds 1)
def tellB (_ : Int) (ds : List PyData) : Bool := decide ((ds.length : Int) = 3) && (numB (at_ ds 1) && answerB (at_ ds 2))
def elseB (_ : Int) (ds : List PyData) : Bool := decide ((ds.length : Int) = 2) && numB (at_ ds 1)
def servB (c : Int) (ds : List PyData) : Bool := shardB 5 ds && intB 0 (c - 1) (at_ ds 4)
def splitB (_ : Int) (ds : List PyData) : Bool := shardB 5 ds && (keyB (at_ ds 4) && (sLt (strOf (at_ ds 1)) (strOf (at_ ds 4)) && Pd.belowF (some (strOf (at_ ds 4))) (optS (at_ ds 2))))
def joinB (_ : Int) (ds : List PyData) : Bool := decide ((ds.length : Int) = 6) && ((rangeB (at_ ds 1) (at_ ds 2) && rangeB (at_ ds 2) (at_ ds 4)) && (numB (at_ ds 3) && numB (at_ ds 5)))
def haveB (_ : Int) (ds : List PyData) : Bool := shardB 6 ds && (intB 0 1000000000000 (at_ ds 4) && boundB (at_ ds 5))
def contB (_ : Int) (ds : List PyData) : Bool := shardB 6 ds && (pairsInB (strOf (at_ ds 1)) (optS (at_ ds 2)) (at_ ds 4) && rowsB (at_ ds 5))
def recB (_ : Int) (ds : List PyData) : Bool := shardB 4 ds
def formsB : List (Str × (Int → List PyData → Bool)) := [("ask", askB), ("where", whereB), ("answer", tellB), ("elsewhere", elseB), ("there", servB), ("move", servB), ("split", splitB), ("join", joinB), ("have", haveB), ("content", contB), ("receipt", recB)]
def letterB (c : Int) (d : PyData) : Bool := match (formsB.find? fun p => decide (p.1 = kindS d)) with
  | some p => p.2 c (itemsD d)
  | none => false
/-- the bounds that a range holds, as values -/
theorem range_of {μ : Mu} {x y : W} {d e : PyData} (zx : Dw μ x d) (zy : Dw μ y e) (h : rangeB d e = true) : x = .str (strOf d) ∧ y = oW (optS e) ∧ d = .str (strOf d) := by
  unfold rangeB at h
  obtain ⟨h1, h2⟩ := Bool.and_eq_true_iff.mp h
  cases d with
  | str a =>
    cases zx
    refine ⟨rfl, ?_, rfl⟩
    rcases Bool.or_eq_true_iff.mp h2 with h3 | h3
    · cases e with
      | none =>
        cases zy
        rfl
      | _ => cases h3
    · obtain ⟨h4, _⟩ := Bool.and_eq_true_iff.mp h3
      cases e with
      | str b =>
        cases zy
        rfl
      | _ => cases h4
  | _ => cases h1
theorem nstr_bound {d : PyData} (h : (Pd.tyN d == "str") = false) : boundB d = false := by
  cases d <;> first | rfl | exact absurd h (show ¬ ("str" == "str") = false by decide)
theorem shard_len {μ : Mu} {n : Int} {ws : List W} {ds : List PyData} (z : DwAll μ ws ds) (h : shardB n ds = true) : decide ((ws.length : Int) = n) = true := by
  unfold shardB at h
  rw [dw_len z]
  exact (Bool.and_eq_true_iff.mp h).1
theorem shard_range {n : Int} {ds : List PyData} (h : shardB n ds = true) : rangeB (at_ ds 1) (at_ ds 2) = true := by
  unfold shardB at h
  exact (Bool.and_eq_true_iff.mp (Bool.and_eq_true_iff.mp h).2).1
def oI : Option Int → W
  | none => .non
  | some i => .int i
section
variable {K : Frag} {ρ : Rho} {μ : Mu} {te : TE} {t2 tb : TS} {N : Rho → Prop} {R : W → Prop}
/-- for x, y in a tuple of pairs -/
theorem run_forP {j k : Nat} {xs : List W} (h : EvD K te ρ μ (.tup xs)) (I : Nat → Rho → Prop) (h0 : I 0 ρ)
    (hs : ∀ (i : Nat) x ρ', xs[i]? = some x → I i ρ' → ∃ u v, x = .tup [u, v] ∧ Run K tb ((ρ'.set j (some u)).set k (some v)) μ (I (i + 1)) R) (hd : ∀ ρ', I xs.length ρ' → Run K t2 ρ' μ N R) : Run K (tSeq (tFor (iTup K te) (gTup K 2 (gCons (gName j) (gCons (gName k) gNil))) tb) t2) ρ μ N R := fun D σ H g hN hR =>
  h σ H g _ fun v H1 e1 d1 => by
    cases d1 with
    | tup hq hds =>
      rename_i a vs
      refine ⟨a, rfl, ⟨_, hq⟩, for_tup (K := K) (xs := vs) (fun i σ' H' => ∃ ρ', I i ρ' ∧ Ex H H' ∧ Ex H1 H' ∧ S K H' σ' ρ' μ) ⟨ρ, h0, e1, Ex.refl _, g.mono e1⟩ (fun i σ' H' _ w => ?_) (fun i v σ' H' hv w => ?_) fun σ' H' w => ?_⟩
      · obtain ⟨_, _, _, e, _⟩ := w
        exact tk_t (Tk.ex e) hq
      · obtain ⟨ρ', p, e2, e3, g2⟩ := w
        obtain ⟨x, hx, dx⟩ := dps_to i hds hv
        obtain ⟨u, y, rfl, r⟩ := hs i x ρ' hx p
        have dx2 := dpm e3 dx
        cases dx2 with
        | tup sq ss =>
          obtain ⟨v1, v2, rfl, r1, r2⟩ := dps2 ss
          refine ⟨_, _, rfl, sq, rfl, v1, [v2], rfl, v2, [], rfl, rfl, ?_⟩
          exact r _ _ H' ((g2.put j r1).put k r2) (fun ρ3 σ3 H3 p3 e4 g3 => ⟨ρ3, p3, e2.trans e4, e3.trans e4, g3⟩) (fun d v H3 r e4 => hR d v H3 r (e2.trans e4))
      · obtain ⟨ρ', p, e2, e3, g2⟩ := w
        rw [dps_len hds] at p
        exact hd ρ' p D σ' H' g2 (fun ρ3 σ3 H3 p3 e4 => hN ρ3 σ3 H3 p3 (e2.trans e4)) (fun d v H3 r e4 => hR d v H3 r (e2.trans e4))
theorem run_par3 {i j l : Nat} {ta : TA} {x y z : W} (h : EvS K ta ρ μ [x, y, z]) (k : Run K t2 (((ρ.set i (some x)).set j (some y)).set l (some z)) μ N R) : Run K (tSeq (tPar3 i j l ta) t2) ρ μ N R := fun D σ H g hN hR => h σ H g _ fun vs H1 e1 d1 => by
  obtain ⟨v, w, u, rfl, dv, dw, du⟩ := dps3 d1
  exact ⟨v, w, u, rfl, k D _ H1 ((((g.mono e1).put i dv).put j dw).put l du) (fun ρ' σ' H' n e2 g2 => hN ρ' σ' H' n (e1.trans e2) g2) fun d v H' r e2 dv => hR d v H' r (e1.trans e2) dv⟩
theorem dps6 {H : Hp} {vs : List V} {x1 x2 x3 x4 x5 x6 : W} (h : RwAll K H vs [x1, x2, x3, x4, x5, x6]) : ∃ v1 v2 v3 v4 v5 v6, vs = [v1, v2, v3, v4, v5, v6] ∧ Rw K H v1 x1 ∧ Rw K H v2 x2 ∧ Rw K H v3 x3 ∧ Rw K H v4 x4 ∧ Rw K H v5 x5 ∧ Rw K H v6 x6 := by
  cases h with
  | cons a b =>
    cases b with
    | cons c d =>
      obtain ⟨v3, v4, v5, v6, rfl, r3, r4, r5, r6⟩ := dps4 d
      exact ⟨_, _, _, _, _, _, rfl, a, c, r3, r4, r5, r6⟩
theorem run_six {i1 i2 i3 i4 i5 i6 : Nat} {x1 x2 x3 x4 x5 x6 : W} (h : EvD K te ρ μ (.tup [x1, x2, x3, x4, x5, x6])) (k : Run K t2 ((((((ρ.set i1 (some x1)).set i2 (some x2)).set i3 (some x3)).set i4 (some x4)).set i5 (some x5)).set i6 (some x6)) μ N R) :
    Run K (tSeq (tAsg te (gTup K 6 (gCons (gName i1) (gCons (gName i2) (gCons (gName i3) (gCons (gName i4) (gCons (gName i5) (gCons (gName i6) gNil)))))))) t2) ρ μ N R := fun D σ H g hN hR => h σ H g _ fun v H1 e1 d1 => by
  cases d1 with
  | tup hq hs =>
    obtain ⟨v1, v2, v3, v4, v5, v6, rfl, r1, r2, r3, r4, r5, r6⟩ := dps6 hs
    refine ⟨_, _, rfl, hq, rfl, v1, _, rfl, v2, _, rfl, v3, _, rfl, v4, _, rfl, v5, _, rfl, v6, [], rfl, rfl, ?_⟩
    exact k D _ H1 (((((((g.mono e1).put i1 r1).put i2 r2).put i3 r3).put i4 r4).put i5 r5).put i6 r6) (fun ρ' σ' H' n e2 => hN ρ' σ' H' n (e1.trans e2)) (fun d v H' r e2 => hR d v H' r (e1.trans e2))
end
theorem bound_law (y : Str) : (true && (decide ((y.length : Int) ≤ 8) && y.cps.toList.all inAZ)) = (keyS y || decide (y = "")) := by
  by_cases h : y = ""
  · subst h
    decide +kernel
  · rw [decide_eq_false h, Bool.or_false, Bool.true_and]
    unfold keyS
    have h1 : 1 ≤ (y.length : Int) := by
      by_cases q : y.length = 0
      · exfalso
        apply h
        obtain ⟨c⟩ := y
        have q2 : c.size = 0 := q
        rw [Array.size_eq_zero_iff.mp q2]
        decide +kernel
      · omega
    rw [decide_eq_true h1, Bool.true_and]
end Pw

namespace Pw
open PySem L2 Evl
/-! dicts with int keys -/
def sortI (ks : List Int) : List Int := ks.mergeSort fun a b => decide (a ≤ b)
theorem sortI_perm (ks : List Int) : (sortI ks).Perm ks := List.mergeSort_perm ks _
theorem sortI_pw (ks : List Int) : (sortI ks).Pairwise (· ≤ ·) := by
  have h := List.pairwise_mergeSort (le := fun a b : Int => decide (a ≤ b)) (fun a b c h1 h2 => decide_eq_true (Int.le_trans (of_decide_eq_true h1) (of_decide_eq_true h2))) (fun a b => by
    rcases Int.le_total a b with q | q
    · rw [decide_eq_true q, Bool.true_or]
    · rw [decide_eq_true q, Bool.or_true]) ks
  exact h.imp fun q => of_decide_eq_true q
theorem sortedI_only {ks ys : List Int} (hp : ys.Perm ks) (h : ys.Pairwise (· ≤ ·)) : ys = sortI ks :=
  List.Perm.eq_of_pairwise (le := (· ≤ ·)) (fun _ _ _ _ h1 h2 => Int.le_antisymm h1 h2) h (sortI_pw ks) (hp.trans (sortI_perm ks).symm)
def encI (m : List (Int × W)) : List (Key × W) := m.map fun p => (Sum.inl p.1, p.2)
def rSrtDI : List V → Hp → VK → Prop := fun xs H Q => ∃ (a : Addr) (kvs : List (Key × V)) (ks : List Int), xs = [.ref a] ∧ Rd H a (.dK kvs) ∧ kvs.map (·.1) = ks.map Sum.inl ∧ ks.length < 64 ∧
    ∀ (ys : List Int) (p : Addr), ys.Perm ks → ys.Pairwise (· ≤ ·) → H p = none → Q (.ref p) (upd H p (.lst (ys.map V.int)))
theorem cr_srtDI {X : Cx} (hc : X.calm = true) : CallR X (.builtin "sorted") rSrtDI := call_sortedDI hc
theorem dps_intsI {K : Frag} {H : Hp} : ∀ (ns : List Int), RwAll K H (ns.map V.int) (ns.map W.int)
  | [] => .nil
  | n :: r => .cons (.int n) (dps_intsI r)
section
variable {K : Frag} {E : XK} {ρ : Rho} {μ : Mu} {te tl ta tb td ty tx tv : TE} {t u : TT} {t1 t2 ts : TS} {X : Value → Mu → Prop} {N : Rho → Mu → Prop} {R : W → Mu → Prop} {P : W → Mu → Prop}
theorem el_srtDI {ta : TA} {a : Addr} {m : List (Int × W)} (ha : EvS K ta ρ μ [.ref a]) (l : μ a = some (.dk (encI m))) (h64 : m.length < 64) : EvL K (tCB rSrtDI ta) ρ μ ((sortI (m.map (·.1))).map W.int) := fun σ H g Q q =>
  ha σ H g _ fun vs H1 e1 d1 => by
    obtain ⟨v, rfl, dv⟩ := dps1 d1
    cases dv
    obtain ⟨kv, h, r⟩ := g.2.ex e1 a _ l
    have ek : (encI m).map (·.1) = (m.map (·.1)).map Sum.inl := by
      unfold encI
      rw [List.map_map, List.map_map]
      rfl
    refine ⟨a, kv, m.map (·.1), rfl, .inl h, by rw [rwp_keys r, ek], by rw [List.length_map]; exact h64, fun ys p hp hs hn => ?_⟩
    rw [sortedI_only hp hs]
    exact q p _ _ (e1.trans (Ex.new hn)) (fresh_back e1 hn) upd_same (dps_intsI _)
/-- d[k] = v, where v changes the store -/
theorem rm_dputW {P1 : W → Mu → Prop} (hv : EvW K E tv ρ μ P1 X) (kk : ∀ x μ1, P1 x μ1 → ∃ a kvs k, EvD K td ρ μ1 (.ref a) ∧ EvD K ty ρ μ1 (kW k) ∧ μ1 a = some (.dk kvs) ∧ kvs.length < 100000 ∧ N ρ (mset μ1 a (.dk (putW kvs k x)))) :
    RunM K E (sDPut td ty tv) ρ μ N R X := fun D σ H g hN hR hX =>
  hv σ H g _ (fun x μ1 v H1 p1 e1 g1 d1 => by
    obtain ⟨a, kvs, k, hd, hk, l, hl, hn⟩ := kk x μ1 p1
    refine hd σ H1 g1 _ fun u H2 e2 d2 => hk σ H2 (g1.mono e2) _ fun y H3 e3 d3 => ?_
    cases d2
    rw [kv_of d3]
    have e := e2.trans e3
    obtain ⟨kv, h, r⟩ := g1.2.ex e a _ l
    have tk := Tk.upd (o := .dK (putK kv k v)) (nt_dk h)
    have t := (Tk.ex e).trans tk
    refine ⟨a, upd H3 a (.dK (putK kv k v)), rfl, DPut.k h (sz_lt (by rw [rwp_len r]; exact hl)), ?_⟩
    exact hN ρ _ σ _ hn (e1.trans t) ⟨g1.1.tk t, (g1.2.ex e).put (nt_dk h) ⟨_, upd_same, rwp_put (rwm tk (dpm e d1)) (rwpm tk r)⟩⟩) hX
end
def valI (m : List (Int × W)) (k : Int) : Option W := (m.find? fun p => decide (p.1 = k)).map (·.2)
def putI (m : List (Int × W)) (k : Int) (v : W) : List (Int × W) := if (m.any fun p => decide (p.1 = k)) = true then m.map (fun p => if p.1 = k then (p.1, v) else p) else m ++ [(k, v)]
theorem dec_inl (a b : Int) : decide ((Sum.inl a : Key) = Sum.inl b) = decide (a = b) := by
  by_cases h : a = b
  · subst h
    simp
  · rw [decide_eq_false h, decide_eq_false fun e => h (Sum.inl.inj e)]
theorem encI_any (m : List (Int × W)) (k : Int) : ((encI m).any fun p => decide (p.1 = Sum.inl k)) = (m.any fun p => decide (p.1 = k)) := by
  induction m with
  | nil => rfl
  | cons a r ih =>
    show (decide ((Sum.inl a.1 : Key) = Sum.inl k) || (encI r).any fun p => decide (p.1 = Sum.inl k)) = (decide (a.1 = k) || r.any fun p => decide (p.1 = k))
    rw [ih, dec_inl]
theorem encI_put (m : List (Int × W)) (k : Int) (v : W) : putW (encI m) (Sum.inl k) v = encI (putI m k v) := by
  unfold putW putI
  rw [encI_any]
  split
  · unfold encI
    rw [List.map_map, List.map_map]
    apply List.map_congr_left
    intro p _
    show (if (Sum.inl p.1 : Key) = Sum.inl k then _ else _) = _
    by_cases h : p.1 = k
    · rw [if_pos (congrArg Sum.inl h)]
      show _ = ((Sum.inl (if p.1 = k then (p.1, v) else p).1 : Key), (if p.1 = k then (p.1, v) else p).2)
      rw [if_pos h]
    · rw [if_neg fun e => h (Sum.inl.inj e)]
      show _ = ((Sum.inl (if p.1 = k then (p.1, v) else p).1 : Key), (if p.1 = k then (p.1, v) else p).2)
      rw [if_neg h]
  · unfold encI
    rw [List.map_append]
    rfl
theorem encI_val (m : List (Int × W)) (k : Int) : valW (encI m) (Sum.inl k) = valI m k := by
  unfold valW valI encI
  induction m with
  | nil => rfl
  | cons a r ih =>
    rw [List.map_cons, List.find?_cons, List.find?_cons]
    have e : decide (((Sum.inl a.1 : Key), a.2).1 = Sum.inl k) = decide (a.1 = k) := dec_inl _ _
    rw [e]
    cases decide (a.1 = k) with
    | true => rfl
    | false => exact ih
theorem putI_len (m : List (Int × W)) (k : Int) (v : W) : (putI m k v).length ≤ m.length + 1 := by
  unfold putI
  split
  · rw [List.length_map]
    omega
  · rw [List.length_append]
    simp
theorem putI_all {m : List (Int × W)} {k : Int} {v : W} {C : W → Prop} (h : ∀ p ∈ m, C p.2) (hv : C v) : ∀ p ∈ putI m k v, C p.2 := by
  unfold putI
  split
  · intro p hp
    obtain ⟨q, hq, rfl⟩ := List.mem_map.mp hp
    split
    · exact hv
    · exact h q hq
  · intro p hp
    rcases List.mem_append.mp hp with e | e
    · exact h p e
    · rw [List.mem_singleton.mp e]
      exact hv
theorem valI_some {m : List (Int × W)} {k : Int} (h : k ∈ m.map (·.1)) : ∃ v, valI m k = some v ∧ (k, v) ∈ m := by
  obtain ⟨p, hp, rfl⟩ := List.mem_map.mp h
  unfold valI
  cases e : m.find? fun q => decide (q.1 = p.1) with
  | some q =>
    have h1 := List.find?_some e
    have h2 := List.mem_of_find?_eq_some e
    refine ⟨q.2, rfl, ?_⟩
    rw [← of_decide_eq_true h1]
    exact h2
  | none =>
    have := List.find?_eq_none.mp e p hp
    simp at this
/-- a row of the table -/
def rowO (m : List (Int × W)) : W → W
  | .int c => (match valI m c with
    | some (.tup [x, y]) => .tup [.int c, x, y]
    | _ => .non)
  | w => w
theorem rowO_at {m : List (Int × W)} {c : Int} {x y : W} (h : valI m c = some (.tup [x, y])) : rowO m (.int c) = .tup [.int c, x, y] := by
  unfold rowO
  show (match valI m c with | some (.tup [x, y]) => W.tup [.int c, x, y] | _ => .non) = _
  rw [h]
mutual
theorem Dw.lists {μ μ' : Mu} (g : ∀ a ws, isL μ a ws → isL μ' a ws) : ∀ {w : W} {d : PyData}, Dw μ w d → Dw μ' w d
  | _, _, .non => .non
  | _, _, .bl => .bl
  | _, _, .int => .int
  | _, _, .str => .str
  | _, _, .tup h => .tup (DwAll.lists g h)
  | _, _, .lst l h => .lst (g _ _ l) (DwAll.lists g h)
theorem DwAll.lists {μ μ' : Mu} (g : ∀ a ws, isL μ a ws → isL μ' a ws) : ∀ {ws : List W} {ds : List PyData}, DwAll μ ws ds → DwAll μ' ws ds
  | _, _, .nil => .nil
  | _, _, .cons h hs => .cons (Dw.lists g h) (DwAll.lists g hs)
end
theorem Good.dict {n : Nat} {μ : Mu} {p : Addr} {kvs : List (Key × W)} {o : O} {w : W} (h : Good n μ w) (l : μ p = some (.dk kvs)) : Good n (mset μ p o) w := by
  obtain ⟨d, z, k, q⟩ := h
  refine ⟨d, z.lists fun a ws la => ?_, k, q⟩
  have hne : a ≠ p := fun e => by
    rw [e] at la
    rcases la with la | la
    · rw [l] at la
      cases la
    · rw [l] at la
      cases la
  rcases la with la | la
  · exact .inl (by rw [mset_ne hne]; exact la)
  · exact .inr (by rw [mset_ne hne]; exact la)
theorem gnil {n : Nat} {μ : Mu} : ∀ w ∈ ([] : List W), Good n μ w := fun _ h => by cases h
theorem gcons {n : Nat} {μ : Mu} {a : W} {ws : List W} (h : Good n μ a) (hs : ∀ w ∈ ws, Good n μ w) : ∀ w ∈ a :: ws, Good n μ w := fun w hw => by
  rcases List.mem_cons.mp hw with e | e
  · rw [e]
    exact h
  · exact hs w e
theorem good_oW {n : Nat} {μ : Mu} {o : Option Str} (h : ∀ z, o = some z → okS z) : Good n μ (oW o) := by
  cases o with
  | none => exact good_non
  | some z => exact good_str (h z rfl)
theorem good_op {n : Nat} {μ : Mu} {op : Op} (h : okOp op) : Good (n + 1) μ (opW op) := by
  cases op with
  | get k => exact good_tup (gcons (good_str (okS_lit (by decide +kernel))) (gcons (good_str h) gnil))
  | put k v => exact good_tup (gcons (good_str (okS_lit (by decide +kernel))) (gcons (good_str h.1) (gcons (good_str h.2) gnil)))
  | drop k => exact good_tup (gcons (good_str (okS_lit (by decide +kernel))) (gcons (good_str h) gnil))
  | swap k o n => exact good_tup (gcons (good_str (okS_lit (by decide +kernel))) (gcons (good_str h.1) (gcons (good_str h.2.1) (gcons (good_str h.2.2) gnil))))
  | page low lim => exact good_tup (gcons (good_str (okS_lit (by decide +kernel))) (gcons (good_str h.1) (gcons good_int gnil)))
theorem okS_bound (r : Int) : okS (Pd.boundF r) := by
  unfold Pd.boundF
  split
  · exact okS_lit (by decide +kernel)
  · exact okS_key _
theorem rangeF_ok (r : Int) : okS (Pd.rangeF r).1 ∧ (Pd.rangeF r).1.length ≤ 8 ∧ ∀ z, (Pd.rangeF r).2 = some z → okS z := by
  have lb : ∀ r, (Pd.boundF r).length ≤ 8 := fun r => by
    unfold Pd.boundF
    split
    · decide +kernel
    · unfold Pd.keyF
      split
      · rw [List.getD_eq_getElem?_getD]
        cases e : Pd.keys8[(r / 6 / 4 % 8).toNat]? with
        | none => decide +kernel
        | some x => exact (show ∀ x ∈ Pd.keys8, x.length ≤ 8 by decide +kernel) x (List.mem_of_getElem? e)
      · unfold Pd.word
        rw [Pd.wst_len]
        have := Int.emod_lt_of_pos (r / 6 / 4) (show (0 : Int) < 8 by decide)
        omega
  unfold Pd.rangeF
  split
  · exact ⟨okS_bound _, lb _, fun z e => by cases e⟩
  · refine ⟨?_, ?_, fun z e => ?_⟩
    · show okS (Pd.sMin _ _)
      unfold Pd.sMin
      split <;> exact okS_bound _
    · show (Pd.sMin _ _).length ≤ 8
      unfold Pd.sMin
      split <;> exact lb _
    · cases e
      show okS (Pd.sMax _ _)
      unfold Pd.sMax
      split <;> exact okS_bound _
end Pw

namespace Pw
open PySem L2 Evl
open Pd (sLt)
/-! what the letters' law needs -/
theorem hu65 {k : Nat} {A : Around} (r : Room k A) : A.units + 65 < cLine := by
  have := r.un
  omega
section
variable {K : Frag} {E : XK} {ρ : Rho} {μ : Mu} {te tl ta tb td ty tx tv : TE} {t u : TT} {t1 t2 ts : TS} {X : Value → Mu → Prop} {N : Rho → Mu → Prop} {R : W → Mu → Prop}
theorem ed_notInD {x : W} {a : Addr} {ws : List W} {d : PyData} {ds : List PyData} (ha : EvD K ta ρ μ x) (hb : EvD K tb ρ μ (.ref a)) (zx : Dw μ x d) (l : isL μ a ws) (zs : DwAll μ ws ds) (hx : SeqAt.shaped d = true) (hy : SeqAt.shaped (.list ds) = true) :
    EvD K (tOp (rNotInD K) ta tb) ρ μ (.bl (!ds.any fun z => PyData.eqv z d)) :=
  ed_twom ha hb fun H v w Q m dv dw k => ⟨d, ds, dp_of m zx dv, dp_of m (.lst l zs) dw, hx, hy, k _ H (Ex.refl H) (.bl _)⟩
theorem EvW.imp {P P2 : W → Mu → Prop} (h : EvW K E te ρ μ P X) (q : ∀ w μ', P w μ' → P2 w μ') : EvW K E te ρ μ P2 X := fun σ H g Q k hX => h σ H g Q (fun w μ' v H' p => k w μ' v H' (q w μ' p)) hX
/-- a list of the store + a new list -/
theorem ew_catN {a : Addr} {xs ys : List W} (ha : EvD K ta ρ μ (.ref a)) (l : μ a = some (.ls xs)) (hb : EvL K tb ρ μ ys) (hl : xs.length + ys.length ≤ 100000) :
    EvW K E (tOp rCat ta tb) ρ μ (fun w μ' => ∃ p, w = .ref p ∧ Grow μ μ' ∧ μ' p = some (.ls (xs ++ ys))) X := by
  refine ew_cat (P1 := fun w μ' => w = .ref a ∧ μ' = μ) (P2 := fun x y μ' => x = .ref a ∧ ∃ p2, μ p2 = none ∧ y = .ref p2 ∧ μ' = mset μ p2 (.ls ys)) (ew_pure ha ⟨rfl, rfl⟩) (fun x μ1 hx => ?_) (fun x y μ2 hx => ?_)
  · obtain ⟨rfl, rfl⟩ := hx
    refine (ew_ofL hb).imp fun w μ' hp => ?_
    obtain ⟨p, h1, h2, h3⟩ := hp
    exact ⟨rfl, p, h1, h2, h3⟩
  · obtain ⟨rfl, p2, h2, rfl, rfl⟩ := hx
    have ne : a ≠ p2 := fun e => by
      rw [← e, l] at h2
      cases h2
    exact ⟨a, p2, xs, ys, rfl, rfl, by rw [mset_ne ne]; exact l, mset_same, hl, fun p hp => ⟨p, rfl, (Grow.new h2).trans (Grow.new hp), mset_same⟩⟩
theorem ecw_val {P : Bool → Mu → Prop} (h : EvW K E te ρ μ (fun w μ' => ∃ b, w = .bl b ∧ P b μ') X) : EcW K E (tB te) ρ μ P X := fun σ H g Q q hX => h σ H g _ (fun w μ' v H' p e g' dv => by
  obtain ⟨b, rfl, hp⟩ := p
  cases dv
  exact ⟨b, rfl, q b μ' H' hp e g'⟩) hX
theorem ecw_not {P : Bool → Mu → Prop} (h : EcW K E t ρ μ (fun b μ' => P (!b) μ') X) : EcW K E (tNot t) ρ μ P X := fun σ H g Q q hX => h σ H g _ (fun b μ' H' p e g' => q (!b) μ' H' p e g') hX
theorem rm_ifW {P : Bool → Mu → Prop} (h : EcW K E t ρ μ P X) (h1 : ∀ μ', P true μ' → RunM K E t1 ρ μ' N R X) (h2 : ∀ μ', P false μ' → RunM K E t2 ρ μ' N R X) : RunM K E (tIfS t t1 t2) ρ μ N R X := fun D σ H g hN hR hX => h σ H g _ (fun b μ1 H1 p1 a1 g1 => by
  cases b with
  | true => exact iteT (h1 μ1 p1 D σ H1 g1 (fun ρ' μ' σ' H' n e2 => hN ρ' μ' σ' H' n (a1.trans e2)) (fun d μ' v H' r e2 => hR d μ' v H' r (a1.trans e2)) fun c μ' H' x e2 => hX c μ' H' x (a1.trans e2))
  | false => exact iteF (h2 μ1 p1 D σ H1 g1 (fun ρ' μ' σ' H' n e2 => hN ρ' μ' σ' H' n (a1.trans e2)) (fun d μ' v H' r e2 => hR d μ' v H' r (a1.trans e2)) fun c μ' H' x e2 => hX c μ' H' x (a1.trans e2))) hX
theorem ew_neB {P1 : W → Mu → Prop} {P2 : W → W → Mu → Prop} {P : W → Mu → Prop} (ha : EvW K E ta ρ μ P1 X) (hb : ∀ x μ1, P1 x μ1 → EvW K E tb ρ μ1 (P2 x) X)
    (hp : ∀ x y μ2, P2 x y μ2 → ∃ i j, x = .bl i ∧ y = .bl j ∧ P (.bl (!decide (i = j))) μ2) : EvW K E (tOp rNe ta tb) ρ μ P X :=
  ew_two ha hb fun x y μ2 p2 σ H v w Q g dv dw k => by
    obtain ⟨i, j, rfl, rfl, hP⟩ := hp x y μ2 p2
    cases dv
    cases dw
    refine ⟨rfl, ?_⟩
    rw [show decide (V.bl i = V.bl j) = decide (i = j) by simp]
    exact k _ μ2 _ H hP (Tk.refl H) g (.bl _)
end
/-! the eleven kinds with their lengths -/
abbrev sizes1 : List (Str × Nat) := [("ask", 3), ("where", 2), ("answer", 3), ("elsewhere", 2), ("there", 5), ("move", 5), ("split", 5)]
abbrev sizes2 : List (Str × Nat) := [("join", 6), ("have", 6), ("content", 6), ("receipt", 4)]
def szW (p : Str × Nat) : W := .tup [.str p.1, .int (p.2 : Int)]
def szD (p : Str × Nat) : PyData := .tuple [.str p.1, .int (p.2 : Int)]
theorem sz_dw (μ : Mu) : ∀ ps : List (Str × Nat), DwAll μ (ps.map szW) (ps.map szD)
  | [] => .nil
  | p :: r => .cons (.tup (.cons .str (.cons .int .nil))) (sz_dw μ r)
theorem sz_any (ps : List (Str × Nat)) (kd : Str) (n : Nat) : ((ps.map szD).any fun z => PyData.eqv z (.tuple [.str kd, .int (n : Int)])) = decide ((kd, n) ∈ ps) := by
  induction ps with
  | nil => rfl
  | cons p r ih =>
    rw [List.map_cons, List.any_cons, ih]
    have e : PyData.eqv (szD p) (.tuple [.str kd, .int (n : Int)]) = decide ((kd, n) = p) := by
      obtain ⟨a, m⟩ := p
      show (decide (a = kd) && (decide ((m : Int) = (n : Int)) && true)) = _
      by_cases h1 : a = kd
      · by_cases h2 : m = n
        · subst h1
          subst h2
          simp
        · rw [decide_eq_false (show ¬ ((m : Int) = (n : Int)) from fun q => h2 (Int.ofNat.inj q)), decide_eq_false fun q => h2 (Prod.mk.inj q).2.symm]
          simp
      · rw [decide_eq_false h1, decide_eq_false fun q => h1 (Prod.mk.inj q).1.symm]
        rfl
    rw [e]
    by_cases h : (kd, n) = p
    · rw [decide_eq_true h, Bool.true_or, decide_eq_true (by rw [h]; exact List.mem_cons_self)]
    · rw [decide_eq_false h, Bool.false_or]
      by_cases q : (kd, n) ∈ r
      · rw [decide_eq_true q, decide_eq_true (List.mem_cons_of_mem _ q)]
      · rw [decide_eq_false q, decide_eq_false fun e => (List.mem_cons.mp e).elim h q]
theorem letter_size {c : Int} {ds : List PyData} (h : letterB c (.tuple ds) = true) : (kindS (.tuple ds), ds.length) ∈ sizes1 ++ sizes2 := by
  have hs : ∀ {n : Int}, shardB n ds = true → (ds.length : Int) = n := fun q => by
    unfold shardB at q
    exact of_decide_eq_true (Bool.and_eq_true_iff.mp q).1
  unfold letterB at h
  cases e : formsB.find? fun p => decide (p.1 = kindS (.tuple ds)) with
  | none =>
    rw [e] at h
    cases h
  | some p =>
    rw [e] at h
    have h0 := List.find?_some e
    have h1 : p.1 = kindS (.tuple ds) := of_decide_eq_true h0
    have h2 := List.mem_of_find?_eq_some e
    have h3 : p.2 c ds = true := h
    rw [← h1]
    have go : ∀ {n : Nat}, (ds.length : Int) = (n : Int) → ds.length = n := fun q => Int.ofNat.inj q
    unfold formsB at h2
    simp only [List.mem_cons, List.not_mem_nil, or_false] at h2
    rcases h2 with rfl | rfl | rfl | rfl | rfl | rfl | rfl | rfl | rfl | rfl | rfl
    all_goals have h4 := (Bool.and_eq_true_iff.mp h3).1
    · rw [go (n := 3) (of_decide_eq_true h4)]
      decide +kernel
    · rw [go (n := 2) (of_decide_eq_true h4)]
      decide +kernel
    · rw [go (n := 3) (of_decide_eq_true h4)]
      decide +kernel
    · rw [go (n := 2) (of_decide_eq_true h4)]
      decide +kernel
    · rw [go (n := 5) (hs h4)]
      decide +kernel
    · rw [go (n := 5) (hs h4)]
      decide +kernel
    · rw [go (n := 5) (hs h4)]
      decide +kernel
    · rw [go (n := 6) (of_decide_eq_true h4)]
      decide +kernel
    · rw [go (n := 6) (hs h4)]
      decide +kernel
    · rw [go (n := 6) (hs h4)]
      decide +kernel
    · rw [go (n := 4) (of_decide_eq_true h4)]
      decide +kernel
theorem ntup_letter {c : Int} {d : PyData} (h : (Pd.tyN d == "tuple") = false) : letterB c d = false := by
  unfold letterB
  rw [ntup_kind h]
  rfl
end Pw

namespace Pw
open PySem L2 Evl
open Pd (sLt)
/-! exceptions of the program's own classes, tables of tuples, dicts that are displayed -/
section
variable {P : Program} {w : World} {K : Frag} {mg : Str → Option Value} {base : Heap}
/-- a def that may raise -/
structure DefX (P : Program) (w : World) (K : Frag) (mg : Str → Option Value) (base : Heap) (k : Nat) (x : Str) (ps : List Str) (sp : Sp) : Prop where
  ex : ∃ (f : Addr) (fd : FuncData), FnOk P w K mg base (L2.CX P w) k f fd ps sp ∧ mg x = some (.ref f) ∧ PySem.W.keepIn K (.ref f) = true ∧ Binds K fd ps []
theorem defX_mk {k : Nat} {x : Str} {st : Stmt} {f : Addr} {fd : FuncData} {ps : List Str} {sp : Sp} (F : FnP K x st f fd) (g : mg x = some (.ref f)) (b : Binds K fd ps []) (h : FnOk P w K mg base (L2.CX P w) k f fd ps sp) : DefX P w K mg base k x ps sp := ⟨f, fd, h, g, F.kp, b⟩
theorem fn_mutX {x : Str} {st : Stmt} {f : Addr} {fd : FuncData} {N ps : List Str} {k : Nat} {Wf : List W → Mu → (W → Mu → Prop) → (Value → Mu → Prop) → Prop} (F : FnP K x st f fd) (S : FnScope N ps (defScope st)) (len : ∀ ds μ Pq X, Wf ds μ Pq X → ds.length = ps.length)
    (body : ∀ ds μ Pq X, Wf ds μ Pq X → ∀ (cdv : Value) (A : Around) (outer : List PySem.Env) (s : Shared) (H : Hp) (E : XK), Room k (A.deeper (PyProof.Rows.envOfC x (defScope st) s.heap.objs.size f cdv)) →
      ∃ t, PSs (cxOf (L2.CX P w) P w K mg base N x (defScope st) f cdv A outer s H E) (defBody st) t ∧ RunM K E t (rho0 N.length ds) μ (fun _ μ' => Pq .non μ') Pq X) : FnOk P w K mg base (L2.CX P w) (k + 1) f fd ps (spM K Wf) := by
  refine L2.FunD.ok F S (fun vs H Q E h => ?_) (fun cdv A outer s H vs Q E hr h => ?_)
  · obtain ⟨ds, μ, Pq, X, h1, _, h2, _⟩ := h
    rw [dps_len h1]
    exact len ds μ Pq X h2
  · obtain ⟨ds, μ, Pq, X, h1, hm, h2, q, qx⟩ := h
    obtain ⟨t, ht, hrun⟩ := body ds μ Pq X h2 cdv A outer s H E hr
    exact ⟨t, ht, hrun _ _ H ⟨dps_start h1, hm⟩ (fun ρ' μ' σ' H' e e1 g => q .non μ' .non H' e e1 g.2 .non) (fun e μ' v H' q1 e1 m dv => q e μ' v H' q1 e1 m dv) fun c μ' H' x e1 m => qx c μ' H' x e1 m⟩
end
/-- an own exception class -/
structure ExcOf (K : Frag) (mg : Str → Option Value) (x : Str) (C : Addr) : Prop where
  gC : mg x = some (.ref C)
  q : PySem.W.excIn K C He.veBase "ValueError.__new__" = true
  kC : PySem.W.keepIn K (.ref C) = true
  sub : PySem.W.subIn K (.ref C) (.type "BaseException") = some true
  ty : PySem.W.typeIn K (.ref C) = some (.type "type")
theorem exc_of {K : Frag} {h : Heap} {mg : Str → Option Value} {x : Str} (g : mg x = some (.ref (He.ga K x))) (c : (He.Fa.exc x).ok K = true) : ExcOf K mg x (He.ga K x) := by
  obtain ⟨h1, h2⟩ := Bool.and_eq_true_iff.mp c
  obtain ⟨h3, h4⟩ := Bool.and_eq_true_iff.mp h2
  obtain ⟨h5, h6⟩ := Bool.and_eq_true_iff.mp h4
  exact ⟨g, h1, h3, of_decide_eq_true h5, of_decide_eq_true h6⟩
/-- raise X('..') -/
theorem ps_own {X : Cx} {E : XK} {C : Addr} {x m : Str} {j : Nat} {p p2 pos pos' : Pos} (e : ExcOf X.K X.mg x C) (hc : X.calm = true) (tk : Takes X (fun cls d _ H => E cls d H)) (hg : Gl X x) (hdb : (x == ("__debug__" : Str)) = false := by decide) :
    PS X (.Raise (some (.Call (.Name x p) [.Constant (.str m) j p2] [] pos)) none pos') (fun _ _ H => E (.ref C) none H) :=
  ps_raise hc tk (pmk_own PySem.F.excBase_ValueError e.q e.gC e.kC (raises_own e.sub e.ty) hg hdb)
section
variable {K : Frag} {E : XK} {ρ : Rho} {μ : Mu} {te tl ta tb tc td ty tx tv : TE} {t u : TT} {t1 t2 ts : TS} {X : Value → Mu → Prop} {N : Rho → Mu → Prop} {R : W → Mu → Prop}
theorem rm_raise {c : Value} (h : X c μ) : RunM K E (fun _ _ H => E c none H) ρ μ N R X := fun D σ H g _ _ hX => hX c μ H h (Tk.refl H) g.2
theorem rm_raiseS {c : Value} (h : X c μ) : RunM K E (tSeq (fun _ _ H => E c none H) t2) ρ μ N R X := fun D σ H g _ _ hX => hX c μ H h (Tk.refl H) g.2
end
/-! tables of tuples of texts -/
structure TabT (K : Frag) (w : World) (mg : Str → Option Value) (x : Str) (kvs : List (Str × List Str)) : Prop where
  ex : ∃ a : Addr, mg x = some (.ref a) ∧ (∃ es n, KDict K w a es n) ∧ ∀ p ∈ kvs, ∃ t : Addr, PySem.W.nsIn K a p.1 = some (some (.ref t)) ∧ ∀ H : Hp, SqT K H t (p.2.map V.str)
theorem tupB_ok {K : Frag} {a : Addr} {ws : List Str} (h : tupB K a ws = true) : ∀ H : Hp, SqT K H a (ws.map V.str) := by
  intro H
  refine .inr ?_
  unfold tupB at h
  cases q : K.lookup a with
  | none =>
    rw [q] at h
    cases h
  | some o =>
    obtain ⟨oc, od, dt, osl⟩ := o
    rw [q] at h
    cases oc with
    | type c =>
      cases dt with
      | seq its n =>
        obtain ⟨h1, h2⟩ := Bool.and_eq_true_iff.mp (show (decide (c = "tuple") && (decide (its.size ≤ 100) && eqStrs its.toList ws)) = true from h)
        obtain ⟨h3, h4⟩ := Bool.and_eq_true_iff.mp h2
        have e : c = "tuple" := of_decide_eq_true h1
        have e2 : its.size ≤ 100 := of_decide_eq_true h3
        subst e
        exact ⟨_, its, n, rfl, rfl, rfl, sz_of (by omega), eqStrs_ok h4⟩
      | _ => cases h
    | _ => cases dt <;> cases h
def tabTB (K : Frag) (a : Addr) (kvs : List (Str × List Str)) : Bool := kvs.all fun p => match PySem.W.nsIn K a p.1 with
  | some (some (.ref t)) => tupB K t p.2
  | _ => false
theorem tabT_of {K : Frag} {w : World} {mg : Str → Option Value} {x : Str} (kvs : List (Str × List Str)) (G : mg x = some (.ref (He.ga K x)))
    (hd : He.dicW K (He.ga K x) = some (He.keysIn w.params (kvs.map (·.1)))) (hv : tabTB K (He.ga K x) kvs = true) : TabT K w mg x kvs := by
  refine ⟨He.ga K x, G, He.dicW_ok hd, fun p hp => ?_⟩
  have h := List.all_eq_true.mp hv p hp
  cases e : PySem.W.nsIn K (He.ga K x) p.1 with
  | none =>
    rw [e] at h
    cases h
  | some o =>
    rw [e] at h
    cases o with
    | none => cases h
    | some v =>
      cases v with
      | ref t => exact ⟨t, rfl, tupB_ok h⟩
      | _ => cases h
theorem ed_tabT {K : Frag} {ρ : Rho} {μ : Mu} {tb : TE} {w : World} {mg : Str → Option Value} {x : Str} {kvs : List (Str × List Str)} {z : Str} {ws : List Str} (T : TabT K w mg x kvs) (hk : EvD K tb ρ μ (.str z)) (hz : (z, ws) ∈ kvs) :
    EvD K (tOp (rIxD K w) (tC (.ref T.ex.choose)) tb) ρ μ (.tup (ws.map W.str)) := fun σ H g Q q =>
  hk σ H g _ fun v H1 e1 d1 => by
    cases d1
    obtain ⟨_, ⟨es, n, KD⟩, hall⟩ := T.ex.choose_spec
    obtain ⟨t, ht, sq⟩ := hall _ hz
    exact ⟨_, z, .ref t, rfl, rfl, ⟨es, n, _, KD.at_, KD.lit, ht, rfl⟩, q _ H1 e1 (.tup (sq H1) (rw_strs ws))⟩
section
variable {K : Frag} {E : XK} {ρ : Rho} {μ : Mu} {te tl ta tb tc td ty tx tv : TE} {t u : TT} {t1 t2 ts : TS}
/-! {'c': a, 's': b, 'd': c}[z] -/
def csd (a b c : Int) (z : Str) : Option Int := if z = "c" then some a else if z = "s" then some b else if z = "d" then some c else none
theorem csd_val (a b c : Int) (z : Str) (x : Int) (h : csd a b c z = some x) : valV (mergeK [] [((Sum.inr "c" : Key), V.int a), (Sum.inr "s", V.int b), (Sum.inr "d", V.int c)]) (Sum.inr z) = some (V.int x) := by
  unfold csd at h
  split at h
  · rename_i e
    subst e
    cases h
    rfl
  · split at h
    · rename_i e
      subst e
      cases h
      rfl
    · split at h
      · rename_i e
        subst e
        cases h
        rfl
      · cases h
theorem ed_csd {a b c x : Int} {z : Str} (ha : EvD K ta ρ μ (.int a)) (hb : EvD K tb ρ μ (.int b)) (hc : EvD K tc ρ μ (.int c)) (hk : EvD K ty ρ μ (.str z)) (hx : csd a b c z = some x) :
    EvD K (tDGet (tDisp [(tC (.str "c"), ta), (tC (.str "s"), tb), (tC (.str "d"), tc)]) ty) ρ μ (.int x) := fun σ H g Q q => fun p hp => by
  refine ha σ _ (g.mono (Ex.new hp)) _ fun v1 H1 e1 d1 => ?_
  refine hb σ H1 (g.mono ((Ex.new hp).trans e1)) _ fun v2 H2 e2 d2 => ?_
  refine hc σ H2 (g.mono (((Ex.new hp).trans e1).trans e2)) _ fun v3 H3 e3 d3 => ?_
  cases d1
  cases d2
  cases d3
  have e := (e1.trans e2).trans e3
  have h3 : H3 p = some (.dK []) := e _ _ upd_same
  refine ⟨h3, [((Sum.inr "c" : Key), V.int a), (Sum.inr "s", V.int b), (Sum.inr "d", V.int c)], rfl, Nat.le_of_ble_eq_true rfl, ?_⟩
  have ex : Ex H (upd H3 p (.dK (mergeK [] [((Sum.inr "c" : Key), V.int a), (Sum.inr "s", V.int b), (Sum.inr "d", V.int c)]))) := fun b o ho => by
    have ne : b ≠ p := fun q => by
      rw [q, hp] at ho
      cases ho
    have := ((Ex.new hp).trans e) b o ho
    rw [upd_ne ne]
    exact this
  refine hk σ _ (g.mono ex) _ fun y H4 e4 d4 => ?_
  cases d4
  have h4 := e4 _ _ upd_same
  refine ⟨p, V.int x, rfl, ?_, q _ H4 (ex.trans e4) (.int x)⟩
  have := DGet.k (k := Sum.inr z) h4
  rw [csd_val a b c z x hx] at this
  exact this
/-- `is not True` of a bool -/
theorem ed_notB {a b : Bool} (ha : EvD K ta ρ μ (.bl a)) (hb : EvD K tb ρ μ (.bl b)) : EvD K (tOp L2.rNotB ta tb) ρ μ (.bl (!decide (a = b))) := ed_two ha hb fun H v w Q dv dw k => by
  cases dv
  cases dw
  exact ⟨a, b, rfl, rfl, k _ H (Ex.refl H) (.bl _)⟩
/-- for x, y in a list of the store -/
theorem run_forLP {j k : Nat} {a : Addr} {xs : List W} {N : Rho → Prop} {R : W → Prop} (h : EvD K te ρ μ (.ref a)) (l : isL μ a xs) (I : Nat → Rho → Prop) (h0 : I 0 ρ)
    (hs : ∀ (i : Nat) x ρ', xs[i]? = some x → I i ρ' → ∃ u v, x = .tup [u, v] ∧ Run K ts ((ρ'.set j (some u)).set k (some v)) μ (I (i + 1)) R) (hd : ∀ ρ', I xs.length ρ' → Run K t2 ρ' μ N R) : Run K (tSeq (tFor (iList K te) (gTup K 2 (gCons (gName j) (gCons (gName k) gNil))) ts) t2) ρ μ N R := fun D σ H g hN hR =>
  h σ H g _ fun v H1 e1 d1 => by
    cases d1
    obtain ⟨vs, hq, hds⟩ := l.sq (g.2.ex e1)
    · refine ⟨_, rfl, ⟨_, hq⟩, for_list (K := K) (fun i σ' H' => ∃ ρ', I i ρ' ∧ Ex H1 H' ∧ S K H' σ' ρ' μ) ⟨ρ, h0, Ex.refl _, g.mono e1⟩ (fun i σ' H' _ w => ex_l w.choose_spec.2.1 hq) (fun i v σ' H' hv w => ?_) fun σ' H' w => ?_⟩
      · obtain ⟨ρ', p, e2, g2⟩ := w
        obtain ⟨x, hx, dx⟩ := dps_to i hds hv
        obtain ⟨u, y, rfl, r⟩ := hs i x ρ' hx p
        have dx2 := dpm e2 dx
        cases dx2 with
        | tup sq ss =>
          obtain ⟨v1, v2, rfl, r1, r2⟩ := dps2 ss
          refine ⟨_, _, rfl, sq, rfl, v1, [v2], rfl, v2, [], rfl, rfl, ?_⟩
          exact r _ _ H' ((g2.put j r1).put k r2) (fun ρ3 σ3 H3 p3 e3 g3 => ⟨ρ3, p3, e2.trans e3, g3⟩) fun d v H3 r e3 dv => hR d v H3 r ((e1.trans e2).trans e3) dv
      · obtain ⟨ρ', p, e2, g2⟩ := w
        rw [dps_len hds] at p
        exact hd ρ' p D σ' H' g2 (fun ρ3 σ3 H3 p3 e3 g3 => hN ρ3 σ3 H3 p3 ((e1.trans e2).trans e3) g3) fun d v H3 r e3 dv => hR d v H3 r ((e1.trans e2).trans e3) dv
/-- for x in a new list, nothing behind it -/
theorem run_forN1 {j : Nat} {xs : List W} {R : W → Prop} (h : EvL K te ρ μ xs) (I : Nat → Rho → Prop) (h0 : I 0 ρ)
    (hs : ∀ (i : Nat) x ρ', xs[i]? = some x → I i ρ' → Run K ts (ρ'.set j (some x)) μ (I (i + 1)) R) : Run K (tFor (iList K te) (gName j) ts) ρ μ (I xs.length) R := fun D σ H g hN hR =>
  h σ H g _ fun p vs H1 e1 hp h1 hds => by
    refine ⟨_, rfl, ⟨_, SqL.of h1⟩, for_list (K := K) (xs := vs) (fun i σ' H' => ∃ ρ', I i ρ' ∧ Ex H1 H' ∧ S K H' σ' ρ' μ) ⟨ρ, h0, Ex.refl _, g.mono e1⟩ (fun i σ' H' _ w => ex_l w.choose_spec.2.1 (SqL.of h1)) (fun i v σ' H' hv w => ?_) fun σ' H' w => ?_⟩
    · obtain ⟨ρ', p, e2, g2⟩ := w
      obtain ⟨x, hx, dx⟩ := dps_to i hds hv
      exact hs i x ρ' hx p _ _ H' (g2.put j (dpm e2 dx)) (fun ρ3 σ3 H3 p3 e3 g3 => ⟨ρ3, p3, e2.trans e3, g3⟩) fun d v H3 r e3 dv => hR d v H3 r ((e1.trans e2).trans e3) dv
    · obtain ⟨ρ', p, e2, g2⟩ := w
      rw [dps_len hds] at p
      exact hN ρ' σ' H' p (e1.trans e2) g2
end
/-! try: return f(..) except T as e: return isinstance(e, C) -/
theorem pss_iteN {X : Cx} {sts : List Stmt} {t : TS} {p : Prop} [Decidable p] (h : p → PSs X sts t) : PSs X sts (if p then t else tNever) := by
  split
  · exact h ‹_›
  · exact pss_never
abbrev tIsE (K : Frag) (C a : Addr) (i : Nat) : TS := tRet (tCB (rIsE K C a) (tCons (tVar i) (tCons (tC (.ref C)) tNil)))
theorem rm_tryIs {K : Frag} {E : XK} {ρ : Rho} {μ : Mu} {N : Rho → Mu → Prop} {R : W → Mu → Prop} {X Xc : Value → Mu → Prop} {ta : TA} {xs : List W} {i : Nat} {C : Addr} {T : Value} {Wf : List W → Mu → (W → Mu → Prop) → (Value → Mu → Prop) → Prop} {Wout : WX}
    (h : EvS K ta ρ μ xs) (hw : Wf xs μ R Xc) (hi : i < ρ.length) (hx : ∀ c μ', Xc c μ' → c = .ref C ∧ R (.bl true) μ') (he : PySem.W.exmOne K (.ref C) T = some true) :
    RunM K E (fun D σ H => tRet (tCallS (spM K Wf) (WE (wAs K T i (fun a cls d => if cls = .ref C ∧ d = none then tIsE K C a i else tNever) Wout D)) ta) D σ H) ρ μ N R X := fun D σ H g hN hR hX =>
  h σ H g _ fun vs H1 e1 d1 => by
    refine ⟨xs, μ, R, Xc, d1, g.2.ex e1, hw, fun w μ' v H2 p e2 m2 d2 => hR w μ' v H2 p ((Tk.ex e1).trans e2) m2 d2, fun c μ' H2 x e2 m2 => ?_⟩
    obtain ⟨rfl, hr⟩ := hx c μ' x
    refine ⟨true, he, fun _ a ha => ?_, fun q => Bool.noConfusion q⟩
    show (if Value.ref C = Value.ref C ∧ (none : Option Addr) = none then tIsE K C a i else tNever) _ _ _
    rw [if_pos ⟨rfl, rfl⟩]
    refine ⟨.ref a, ?_, ?_⟩
    · rw [List.getElem?_set, if_pos rfl, if_pos (by rw [g.1.1]; exact hi)]
    · refine ⟨.ref C, .ref C, true, rfl, fun u hu => hu, ?_, hR _ μ' _ H2 hr ((Tk.ex e1).trans e2) m2 (.bl true)⟩
      unfold PySem.W.kitOne
      rw [if_pos (beq_self_eq_true _)]
/-- what the top says of such a class -/
def excCB (K : Frag) (D : Addr) : Bool := He.eqO (PySem.W.findIn K (.ref D) "__getattribute__") (some (some (.builtin "BaseException.__getattribute__"))) && (He.eqO (PySem.W.findIn K (.ref D) "__getattr__") (some none) &&
  (decide (PySem.W.subIn K (.ref D) (.type "BaseException") = some true) && (PySem.W.hasDictIn K D && (He.eqO (PySem.W.findIn K (.ref D) "__class__") (some (some (.builtin "object.__class__"))) &&
  (He.eqO (PySem.W.specialIn K (.builtin "object.__class__") "__get__") (some (some (.builtin "getset_descriptor.__get__"))) && (decide (PySem.W.takesIn K (.builtin "object.__class__") = some true) && decide (PySem.W.mroIn K D (.type "object") = some true)))))))
theorem excC_of {K : Frag} {D : Addr} (h : excCB K D = true) : L2.ExcC K D := by
  obtain ⟨h1, h⟩ := Bool.and_eq_true_iff.mp h
  obtain ⟨h2, h⟩ := Bool.and_eq_true_iff.mp h
  obtain ⟨h3, h⟩ := Bool.and_eq_true_iff.mp h
  obtain ⟨h4, h⟩ := Bool.and_eq_true_iff.mp h
  obtain ⟨h5, h⟩ := Bool.and_eq_true_iff.mp h
  obtain ⟨h6, h⟩ := Bool.and_eq_true_iff.mp h
  obtain ⟨h7, h8⟩ := Bool.and_eq_true_iff.mp h
  exact ⟨He.eqO_ok h1, He.eqO_ok h2, of_decide_eq_true h3, h4, He.eqO_ok h5, He.eqO_ok h6, of_decide_eq_true h7, of_decide_eq_true h8⟩
end Pw

namespace K11
open PySem L2 Evl Pw
def top (i : Nat) : Stmt := PySem.Challenge.pw_boundstone_k11_ways_of_letters.main.body.getD i (.Pass ⟨0, 0, 0, 0⟩)
abbrev s_is_key : Stmt := top 10
abbrev s_is_bound : Stmt := top 11
abbrev s_is_range : Stmt := top 12
abbrev s_below : Stmt := top 13
abbrev s_contains : Stmt := top 14
abbrev s_is_printable : Stmt := top 17
abbrev s_is_integer : Stmt := top 18
abbrev s_kind_of : Stmt := top 20
abbrev s_is_value : Stmt := top 21
abbrev s_are_pairs : Stmt := top 22
abbrev s__is_pair : Stmt := top 23
abbrev s__is_key_alone : Stmt := top 24
abbrev s__is_put : Stmt := top 25
abbrev s__is_swap : Stmt := top 26
abbrev s__is_page : Stmt := top 27
abbrev s_is_operation : Stmt := top 29
abbrev s__is_word_alone : Stmt := top 30
abbrev s__is_value_told : Stmt := top 31
abbrev s__is_page_told : Stmt := top 32
abbrev s_is_answer : Stmt := top 34
abbrev s_is_server : Stmt := top 36
abbrev s_is_client : Stmt := top 37
abbrev s_is_pairs : Stmt := top 38
abbrev s_is_rows : Stmt := top 39
abbrev s__is_row : Stmt := top 40
abbrev s_is_number : Stmt := top 41
abbrev s__is_ask : Stmt := top 42
abbrev s__is_where : Stmt := top 43
abbrev s__is_told : Stmt := top 44
abbrev s__is_elsewhere : Stmt := top 45
abbrev s_names_shard : Stmt := top 46
abbrev s__names_server : Stmt := top 47
abbrev s__is_split : Stmt := top 48
abbrev s__is_join : Stmt := top 49
abbrev s__is_have : Stmt := top 50
abbrev s__is_content : Stmt := top 51
abbrev s__is_receipt : Stmt := top 52
abbrev s_is_letter : Stmt := top 55
abbrev s__is_party : Stmt := top 56
abbrev s_check_letter : Stmt := top 57
abbrev s__law_cell : Stmt := top 59
abbrev s__law_rich : Stmt := top 60
abbrev s__law_word : Stmt := top 61
abbrev s__law_key : Stmt := top 62
abbrev s__law_bound : Stmt := top 63
abbrev s__law_value : Stmt := top 64
abbrev s__law_range : Stmt := top 65
abbrev s__law_operation : Stmt := top 66
abbrev s__law_answer : Stmt := top 67
abbrev s__law_rows : Stmt := top 68
abbrev s__law_pairs : Stmt := top 69
abbrev s__law_letter : Stmt := top 70
abbrev s__law_place : Stmt := top 71
abbrev s__law_is_int : Stmt := top 72
abbrev s__law_at : Stmt := top 73
abbrev s__law_way : Stmt := top 74
abbrev s__law_outcome : Stmt := top 75
abbrev s_law : Stmt := top 76

inductive W_is_key : List W → Mu → W → Prop
  | mk {μ : Mu} {x : W} {d : PyData} (z : Dw μ x d) (k : okD d) : W_is_key [x] μ (.bl (keyB d))
inductive W_below : List W → Mu → W → Prop
  | mk {μ : Mu} {a b : Option Str} : W_below [oW a, oW b] μ (.bl (Pd.belowF a b))
inductive W_is_printable : List W → Mu → W → Prop
  | mk {μ : Mu} {x : W} {d : PyData} (z : Dw μ x d) (k : okD d) : W_is_printable [x] μ (.bl (prB d))
inductive W_kind_of : List W → Mu → W → Prop
  | mk {μ : Mu} {x : W} {d : PyData} (z : Dw μ x d) (k : okD d) : W_kind_of [x] μ (.str (kindS d))
inductive W_is_value : List W → Mu → W → Prop
  | mk {μ : Mu} {x : W} {d : PyData} (z : Dw μ x d) (k : okD d) : W_is_value [x] μ (.bl (valB d))
inductive W__is_pair : List W → Mu → W → Prop
  | mk {μ : Mu} {x : W} {d : PyData} (z : Dw μ x d) (k : okD d) : W__is_pair [x] μ (.bl (pairB d))
inductive W_are_pairs : List W → Mu → W → Prop
  | mk {μ : Mu} {x : W} {d : PyData} (z : Dw μ x d) (k : okD d) : W_are_pairs [x] μ (.bl (pairsB d))
inductive W__is_word_alone : List W → Mu → W → Prop
  | mk {μ : Mu} {ws : List W} : W__is_word_alone [.tup ws] μ (.bl (decide ((ws.length : Int) = 1)))
inductive W__is_value_told : List W → Mu → W → Prop
  | mk {μ : Mu} {ws : List W} {ds : List PyData} (z : DwAll μ ws ds) (k : okDs ds) : W__is_value_told [.tup ws] μ (.bl (toldB ds))
inductive W__is_page_told : List W → Mu → W → Prop
  | mk {μ : Mu} {ws : List W} {ds : List PyData} (z : DwAll μ ws ds) (k : okDs ds) : W__is_page_told [.tup ws] μ (.bl (pageB ds))
inductive W_is_answer : List W → Mu → W → Prop
  | mk {μ : Mu} {x : W} {d : PyData} (z : Dw μ x d) (k : okD d) : W_is_answer [x] μ (.bl (answerB d))
inductive W_is_bound : List W → Mu → W → Prop
  | mk {μ : Mu} {x : W} {d : PyData} (z : Dw μ x d) (k : okD d) : W_is_bound [x] μ (.bl (boundB d))
inductive W_is_range : List W → Mu → W → Prop
  | mk {μ : Mu} {x y : W} {d e : PyData} (z : Dw μ x d) (k : okD d) (z2 : Dw μ y e) (k2 : okD e) : W_is_range [x, y] μ (.bl (rangeB d e))
inductive W_contains : List W → Mu → W → Prop
  | mk {μ : Mu} {a b : Str} {hi : Option Str} : W_contains [.str a, oW hi, .str b] μ (.bl (containsF a hi b))
inductive W_is_integer : List W → Mu → W → Prop
  | mk {μ : Mu} {x : W} {d : PyData} {lo hi : Int} (z : Dw μ x d) : W_is_integer [x, .int lo, .int hi] μ (.bl (intB lo hi d))
inductive W__is_key_alone : List W → Mu → W → Prop
  | mk {μ : Mu} {ws : List W} {ds : List PyData} (z : DwAll μ ws ds) (k : okDs ds) : W__is_key_alone [.tup ws] μ (.bl (keyAloneB ds))
inductive W__is_put : List W → Mu → W → Prop
  | mk {μ : Mu} {ws : List W} {ds : List PyData} (z : DwAll μ ws ds) (k : okDs ds) : W__is_put [.tup ws] μ (.bl (putB ds))
inductive W__is_swap : List W → Mu → W → Prop
  | mk {μ : Mu} {ws : List W} {ds : List PyData} (z : DwAll μ ws ds) (k : okDs ds) : W__is_swap [.tup ws] μ (.bl (swapB ds))
inductive W__is_page : List W → Mu → W → Prop
  | mk {μ : Mu} {ws : List W} {ds : List PyData} (z : DwAll μ ws ds) (k : okDs ds) : W__is_page [.tup ws] μ (.bl (pageOpB ds))
inductive W_is_operation : List W → Mu → W → Prop
  | mk {μ : Mu} {x : W} {d : PyData} (z : Dw μ x d) (k : okD d) : W_is_operation [x] μ (.bl (opB d))
inductive W_is_server : List W → Mu → W → Prop
  | mk {μ : Mu} {x : W} {d : PyData} {c : Int} (z : Dw μ x d) : W_is_server [.int c, x] μ (.bl (intB 0 (c - 1) d))
inductive W_is_client : List W → Mu → W → Prop
  | mk {μ : Mu} {x : W} {d : PyData} (z : Dw μ x d) : W_is_client [x] μ (.bl (intB (-100) (-1) d))
inductive W_is_pairs : List W → Mu → W → Prop
  | mk {μ : Mu} {a : Str} {hi : Option Str} {x : W} {d : PyData} (z : Dw μ x d) (k : okD d) : W_is_pairs [.str a, oW hi, x] μ (.bl (pairsInB a hi d))
inductive W_is_number : List W → Mu → W → Prop
  | mk {μ : Mu} {x : W} {d : PyData} (z : Dw μ x d) : W_is_number [x] μ (.bl (numB d))
inductive W__is_row : List W → Mu → W → Prop
  | mk {μ : Mu} {x : W} {d : PyData} (z : Dw μ x d) (k : okD d) : W__is_row [x] μ (.bl (rowB d))
inductive W_is_rows : List W → Mu → W → Prop
  | mk {μ : Mu} {x : W} {d : PyData} (z : Dw μ x d) (k : okD d) : W_is_rows [x] μ (.bl (rowsB d))
inductive W__is_ask : List W → Mu → W → Prop
  | mk {μ : Mu} {c : Int} {ws : List W} {ds : List PyData} (z : DwAll μ ws ds) (k : okDs ds) : W__is_ask [.int c, .tup ws] μ (.bl (askB c ds))
inductive W__is_where : List W → Mu → W → Prop
  | mk {μ : Mu} {c : Int} {ws : List W} {ds : List PyData} (z : DwAll μ ws ds) (k : okDs ds) : W__is_where [.int c, .tup ws] μ (.bl (whereB c ds))
inductive W__is_told : List W → Mu → W → Prop
  | mk {μ : Mu} {c : Int} {ws : List W} {ds : List PyData} (z : DwAll μ ws ds) (k : okDs ds) : W__is_told [.int c, .tup ws] μ (.bl (tellB c ds))
inductive W__is_elsewhere : List W → Mu → W → Prop
  | mk {μ : Mu} {c : Int} {ws : List W} {ds : List PyData} (z : DwAll μ ws ds) (k : okDs ds) : W__is_elsewhere [.int c, .tup ws] μ (.bl (elseB c ds))
inductive W_names_shard : List W → Mu → W → Prop
  | mk {μ : Mu} {n : Int} {ws : List W} {ds : List PyData} (hn : 4 ≤ n) (z : DwAll μ ws ds) (k : okDs ds) : W_names_shard [.tup ws, .int n] μ (.bl (shardB n ds))
inductive W__names_server : List W → Mu → W → Prop
  | mk {μ : Mu} {c : Int} {ws : List W} {ds : List PyData} (z : DwAll μ ws ds) (k : okDs ds) : W__names_server [.int c, .tup ws] μ (.bl (servB c ds))
inductive W__is_split : List W → Mu → W → Prop
  | mk {μ : Mu} {c : Int} {ws : List W} {ds : List PyData} (z : DwAll μ ws ds) (k : okDs ds) : W__is_split [.int c, .tup ws] μ (.bl (splitB c ds))
inductive W__is_join : List W → Mu → W → Prop
  | mk {μ : Mu} {c : Int} {ws : List W} {ds : List PyData} (z : DwAll μ ws ds) (k : okDs ds) : W__is_join [.int c, .tup ws] μ (.bl (joinB c ds))
inductive W__is_have : List W → Mu → W → Prop
  | mk {μ : Mu} {c : Int} {ws : List W} {ds : List PyData} (z : DwAll μ ws ds) (k : okDs ds) : W__is_have [.int c, .tup ws] μ (.bl (haveB c ds))
inductive W__is_content : List W → Mu → W → Prop
  | mk {μ : Mu} {c : Int} {ws : List W} {ds : List PyData} (z : DwAll μ ws ds) (k : okDs ds) : W__is_content [.int c, .tup ws] μ (.bl (contB c ds))
inductive W__is_receipt : List W → Mu → W → Prop
  | mk {μ : Mu} {c : Int} {ws : List W} {ds : List PyData} (z : DwAll μ ws ds) (k : okDs ds) : W__is_receipt [.int c, .tup ws] μ (.bl (recB c ds))
inductive W_is_letter : List W → Mu → W → Prop
  | mk {μ : Mu} {c : Int} {x : W} {d : PyData} (z : Dw μ x d) (k : okD d) : W_is_letter [.int c, x] μ (.bl (letterB c d))
inductive W__law_bound : List W → Mu → W → Prop
  | mk {μ : Mu} {r : Int} : W__law_bound [.int r] μ (.str (Pd.boundF r))
inductive W__law_cell : List W → Mu → W → Prop
  | mk {μ : Mu} {a : Addr} {ns : List Int} {k : Int} (l : μ a = some (scr ns)) (h : 0 ≤ k) : W__law_cell [.ref a, .int k] μ (.int (Pd.cell ns k))
inductive W__law_key : List W → Mu → W → Prop
  | mk {μ : Mu} {r : Int} : W__law_key [.int r] μ (.str (Pd.keyF r))
inductive W__law_operation : List W → Mu → (W → Mu → Prop) → (Value → Mu → Prop) → Prop
  | mk {μ : Mu} {r : Int} {P : W → Mu → Prop} {X : Value → Mu → Prop} (h : ∀ op, okOp op → P (opW op) μ) : W__law_operation [.int r] μ P X
inductive W__law_rich : List W → Mu → W → Prop
  | mk {μ : Mu} {c k : Int} : W__law_rich [.int c, .int k] μ (.int (Pd.rich c k))
inductive W__law_value : List W → Mu → W → Prop
  | mk {μ : Mu} {r : Int} : W__law_value [.int r] μ (.str (valueF r))
inductive W__law_word : List W → Mu → W → Prop
  | mk {μ : Mu} {n : Int} {ch : Str} {seed : Int} (h : 0 ≤ n ∧ n ≤ 1000 ∧ 0 < ch.length ∧ ch.length ≤ 1000) : W__law_word [.int n, .str ch, .int seed] μ (.str (Pd.word n ch seed))
inductive W__law_range : List W → Mu → W → Prop
  | mk {μ : Mu} {r : Int} : W__law_range [.int r] μ (.tup [.str (Pd.rangeF r).1, oW (Pd.rangeF r).2])
inductive W__law_answer : List W → Mu → (W → Mu → Prop) → (Value → Mu → Prop) → Prop
  | mk {μ : Mu} {r : Int} {P : W → Mu → Prop} {X : Value → Mu → Prop} (h : ∀ ws μ', Grow μ μ' → ws ≠ [] → ws.length ≤ 3 → (∀ w ∈ ws, Good 8 μ' w) → P (.tup ws) μ') : W__law_answer [.int r] μ P X
inductive W__law_pairs : List W → Mu → (W → Mu → Prop) → (Value → Mu → Prop) → Prop
  | mk {μ : Mu} {a : Str} {hi : Option Str} {r : Int} {P : W → Mu → Prop} {X : Value → Mu → Prop} (h : ∀ ws μ', Grow μ μ' → ws.length ≤ 10 → (∀ w ∈ ws, Good 1 μ' w) → P (.tup ws) μ') : W__law_pairs [.str a, oW hi, .int r] μ P X
inductive W__law_is_int : List W → Mu → W → Prop
  | mk {μ : Mu} {x : W} {d : PyData} {lo hi : Int} (z : Dw μ x d) : W__law_is_int [x, .int lo, .int hi] μ (.bl (intB lo hi d))
inductive W__law_rows : List W → Mu → (W → Mu → Prop) → (Value → Mu → Prop) → Prop
  | mk {μ : Mu} {r : Int} {P : W → Mu → Prop} {X : Value → Mu → Prop} (h : ∀ ws μ', Grow μ μ' → ws.length ≤ 10 → (∀ w ∈ ws, Good 10 μ' w) → P (.tup ws) μ') : W__law_rows [.int r] μ P X
inductive W__law_letter : List W → Mu → (W → Mu → Prop) → (Value → Mu → Prop) → Prop
  | mk {μ : Mu} {r : Int} {P : W → Mu → Prop} {X : Value → Mu → Prop} (h : ∀ kd ws μ', Grow μ μ' → ws.length ≤ 6 → (∀ w ∈ ws, Good 12 μ' w) → okS kd → P (.tup (.str kd :: ws)) μ') : W__law_letter [.int r] μ P X
section
variable {P : Program} {w : World} {K : Frag} {mg : Str → Option Value} {base : Heap}
theorem sc_is_key : FnScope ["value", "character"] ["value"] (defScope s_is_key) := ⟨rfl, rfl, rfl, by decide +kernel, rfl, by decide +kernel, by decide +kernel⟩
theorem ok_is_key {f : Addr} {fd : FuncData} (F : FnP K "is_key" s_is_key f fd) (g : mg "is_key" = some (.ref f))
    (z_len : mg "len" = none) (c_MOST_KEY : ∃ t, mg "MOST_KEY" = some (.int 8 t)) (z_isinstance : mg "isinstance" = none) (z_str : mg "str" = none) : Def P w K mg base 1 "is_key" ["value"] (spP K W_is_key) := by
  refine def_mk F g (F.bindsN fun _ _ _ _ _ _ us hl => match us, hl with | [_], _ => rfl) (fn_pure F sc_is_key ?_ ?_)
  · rintro _ _ _ ⟨⟩
    rfl
  · intro ds μ d W
    cases W
    rename_i x d k z
    intro cdv A outer s H E hr
    refine ⟨_, pss_cons (ps_if (PW.pt (pw_or (pt_not (pt_val (pe_callB call_isi (by rfl) z_isinstance (by decide +kernel) (pa_cons (pv 0) (pa_cons (pe_bltn (v := V.ty "str") (by rfl) z_str (by decide +kernel) rfl) pa_nil))))) (pw_or1 (pt_not (pt_chain op_le op_le pe_int (pe_callB cr_len (by rfl) z_len (by decide +kernel) (pa_cons (pv 0) pa_nil)) (pe_glob (v := V.int 8) rfl c_MOST_KEY.choose_spec ⟨_, rfl⟩)))))) (pss_one (ps_ret pe_bl)) pss_nil)
      (pss_cons (ps_for PassesOwn.never rfl (pi_str (pv 0)) (pg_name (i := 1) sc_is_key.nd rfl (Or.inl rfl)) (pss_one (ps_if (pt_not (pt_chain op_leS op_leS pe_str (pv 1) pe_str)) (pss_one (ps_ret pe_bl)) pss_nil)))
      (pss_one (ps_ret pe_bl))), ?_⟩
    by_cases hs : (Pd.tyN d == "str") = true
    · obtain ⟨y, rfl⟩ := is_str hs
      cases z
      have hk := okD_str k
      refine run_ifs (ec_or (ec_not (ec_val (ed_isStr (ed_var rfl) .str))) fun _ => (ec_not (ec_test (ed_chain ed_int (ed_lenS (es_cons (ed_var rfl) es_nil) (okS_sz hk)) ed_int ch_le ch_le)))) (fun c => ?_) (fun c => ?_)
      · refine run_ret ed_bl ?_
        have c2 : (!(decide ((1 : Int) ≤ (y.length : Int)) && decide ((y.length : Int) ≤ 8))) = true := c
        show W.bl false = W.bl (keyS y)
        unfold keyS
        rw [nt c2]
        rfl
      · have c2 : (!(decide ((1 : Int) ≤ (y.length : Int)) && decide ((y.length : Int) ≤ 8))) = false := c
        refine run_nexts (run_allS inAZ (ed_var rfl) (fun ch => ec_not (ec_test (ed_chain ed_str (ed_var rfl) ed_str ch_leS ch_leS))) (fun q => ?_) fun q ρ' _ => run_ret ed_bl ?_)
        · show W.bl false = W.bl (keyS y)
          unfold keyS
          rw [q, Bool.and_false]
        · show W.bl true = W.bl (keyS y)
          unfold keyS
          rw [q, nn c2]
          rfl
    · have hs' := Bool.eq_false_iff.mpr hs
      refine run_ifs (ec_or (b := true) (ec_not (ec_val (ed_isStr (ed_var rfl) z))) fun h => ?_) (fun c => ?_) (fun c => ?_)
      · rw [hs'] at h
        cases h
      · refine run_ret ed_bl ?_
        rw [nstr_key hs']
      · rw [Bool.or_true] at c
        cases c

theorem sc_below : FnScope ["one", "other"] ["one", "other"] (defScope s_below) := ⟨rfl, rfl, rfl, by decide +kernel, rfl, by decide +kernel, by decide +kernel⟩
theorem ok_below {f : Addr} {fd : FuncData} (F : FnP K "below" s_below f fd) (g : mg "below" = some (.ref f))
     : Def P w K mg base 1 "below" ["one", "other"] (spP K W_below) := by
  refine def_mk F g (F.bindsN fun _ _ _ _ _ _ us hl => match us, hl with | [_, _], _ => rfl) (fn_pure F sc_below ?_ ?_)
  · rintro _ _ _ ⟨⟩
    rfl
  · intro ds μ d W
    cases W
    rename_i a b
    intro cdv A outer s H E hr
    refine ⟨_, pss_cons (ps_if (pt_cmpR op_isNo (pv 0) pe_non (nomark _)) (pss_one (ps_ret pe_bl)) pss_nil)
      (pss_one (ps_ret (pe_or (pe_cmpR op_isNo (pv 1) pe_non (nomark _)) (pe_one (pe_cmpR op_ltS (pv 0) (pv 1) (nomark _)))))), ?_⟩
    refine run_ifs (ec_test (ed_isN (ed_var rfl))) (fun c => ?_) (fun c => ?_)
    · refine run_ret ed_bl ?_
      cases a with
      | none => rfl
      | some x => cases c
    · refine run_nexts ?_
      cases a with
      | none => cases c
      | some x =>
        cases b with
        | none => exact run_ret (ed_or (b := false) (ed_isN (ed_var rfl)) fun h => by cases h) rfl
        | some y => exact run_ret (ed_or (ed_isN (ed_var rfl)) fun _ => ed_ltS (ed_var rfl) (ed_var rfl)) rfl

theorem sc_is_printable : FnScope ["value", "character"] ["value"] (defScope s_is_printable) := ⟨rfl, rfl, rfl, by decide +kernel, rfl, by decide +kernel, by decide +kernel⟩
theorem ok_is_printable {f : Addr} {fd : FuncData} (F : FnP K "is_printable" s_is_printable f fd) (g : mg "is_printable" = some (.ref f))
    (z_isinstance : mg "isinstance" = none) (z_str : mg "str" = none) (z_ord : mg "ord" = none) (c_BARRED : ∃ t, mg "BARRED" = some (.int 37 t)) : Def P w K mg base 1 "is_printable" ["value"] (spP K W_is_printable) := by
  refine def_mk F g (F.bindsN fun _ _ _ _ _ _ us hl => match us, hl with | [_], _ => rfl) (fn_pure F sc_is_printable ?_ ?_)
  · rintro _ _ _ ⟨⟩
    rfl
  · intro ds μ d W
    cases W
    rename_i x d k z
    intro cdv A outer s H E hr
    refine ⟨_, pss_cons (ps_if (pt_not (pt_val (pe_callB call_isi (by rfl) z_isinstance (by decide +kernel) (pa_cons (pv 0) (pa_cons (pe_bltn (v := V.ty "str") (by rfl) z_str (by decide +kernel) rfl) pa_nil))))) (pss_one (ps_ret pe_bl)) pss_nil)
      (pss_cons (ps_for PassesOwn.never rfl (pi_str (pv 0)) (pg_name (i := 1) sc_is_printable.nd rfl (Or.inl rfl)) (pss_one (ps_if (PW.pt (pw_or (pt_not (pt_chain op_leS op_leS pe_str (pv 1) pe_str)) (pw_or1 (pt_cmpR op_eq (pe_callB cr_ord (by rfl) z_ord (by decide +kernel) (pa_cons (pv 1) pa_nil)) (pe_glob (v := V.int 37) rfl c_BARRED.choose_spec ⟨_, rfl⟩) (nomark _))))) (pss_one (ps_ret pe_bl)) pss_nil)))
      (pss_one (ps_ret pe_bl))), ?_⟩
    by_cases hs : (Pd.tyN d == "str") = true
    · obtain ⟨y, rfl⟩ := is_str hs
      cases z
      refine run_ifs (ec_not (ec_val (ed_isStr (ed_var rfl) .str))) (fun c => by cases c) (fun c => ?_)
      refine run_nexts (run_allS inPr (ed_var rfl) (fun ch => ?_) (fun q => ?_) fun q ρ' _ => run_ret ed_bl ?_)
      · refine (ec_or (ec_not (ec_test (ed_chain ed_str (ed_var rfl) ed_str ch_leS ch_leS))) fun _ => (ec_test (ed_eqI (ed_ord (es_cons (ed_var rfl) es_nil)) ed_int))).is ?_
        show (!(!Pd.sLt (one ch) " " && !Pd.sLt "~" (one ch)) || decide ((ch : Int) = 37)) = !inPr ch
        unfold inPr
        exact (show ∀ a b : Bool, (!a || b) = !(a && !b) by decide) _ _
      · show W.bl false = W.bl (y.cps.toList.all inPr)
        rw [q]
      · show W.bl true = W.bl (y.cps.toList.all inPr)
        rw [q]
    · have hs' := Bool.eq_false_iff.mpr hs
      refine run_ifs (ec_not (ec_val (ed_isStr (ed_var rfl) z))) (fun c => ?_) (fun c => ?_)
      · refine run_ret ed_bl ?_
        rw [nstr_pr hs']
      · rw [hs'] at c
        cases c

theorem sc_kind_of : FnScope ["value"] ["value"] (defScope s_kind_of) := ⟨rfl, rfl, rfl, by decide +kernel, rfl, by decide +kernel, by decide +kernel⟩
theorem ok_kind_of {f : Addr} {fd : FuncData} (F : FnP K "kind_of" s_kind_of f fd) (g : mg "kind_of" = some (.ref f))
    (z_isinstance : mg "isinstance" = none) (z_str : mg "str" = none) (z_len : mg "len" = none) (z_tuple : mg "tuple" = none) : Def P w K mg base 1 "kind_of" ["value"] (spP K W_kind_of) := by
  refine def_mk F g (F.bindsN fun _ _ _ _ _ _ us hl => match us, hl with | [_], _ => rfl) (fn_pure F sc_kind_of ?_ ?_)
  · rintro _ _ _ ⟨⟩
    rfl
  · intro ds μ d W
    cases W
    rename_i x d k z
    intro cdv A outer s H E hr
    refine ⟨_, pss_cons (ps_if (PW.pt (pw_and (pt_val (pe_callB call_isi (by rfl) z_isinstance (by decide +kernel) (pa_cons (pv 0) (pa_cons (pe_bltn (v := V.ty "tuple") (by rfl) z_tuple (by decide +kernel) rfl) pa_nil)))) (pw_and (pt_cmpR op_gt (pe_callB cr_len (by rfl) z_len (by decide +kernel) (pa_cons (pv 0) pa_nil)) pe_int (nomark _)) (pw_and1 (pt_val (pe_callB call_isi (by rfl) z_isinstance (by decide +kernel) (pa_cons (pe_ix ix_tup (pv 0) pe_int (fun _ _ => rfl)) (pa_cons (pe_bltn (v := V.ty "str") (by rfl) z_str (by decide +kernel) rfl) pa_nil)))))))) (pss_one (ps_ret (pe_ix ix_tup (pv 0) pe_int (fun _ _ => rfl)))) pss_nil)
      (pss_one (ps_ret pe_str)), ?_⟩
    by_cases hs : (Pd.tyN d == "tuple") = true
    · obtain ⟨ds, rfl⟩ := is_tuple hs
      cases z with
      | @tup ws _ zs =>
      cases zs with
      | nil =>
        refine run_ifs (ec_and (ec_val (ed_isTuple (ed_var rfl) (.tup .nil))) fun _ => (ec_and (b := false) (ec_test (ed_gt (ed_lenT (es_cons (ed_var rfl) es_nil)) ed_int)) fun h => by cases h)) (fun c => by cases c) (fun c => run_nexts (run_ret ed_str rfl))
      | @cons w0 wr d0 dr z0 zr =>
        refine run_ifs (ec_and (ec_val (ed_isTuple (ed_var rfl) (.tup (.cons z0 zr)))) fun _ => (ec_and (ec_test (ed_gt (ed_lenT (es_cons (ed_var rfl) es_nil)) ed_int)) fun _ => (ec_val (ed_isStr (ed_ixT (ed_var rfl) ed_int (by decide) rfl) z0)))) (fun c => ?_) (fun c => ?_)
        · have c2 := (Bool.and_eq_true_iff.mp (Bool.and_eq_true_iff.mp c).2).2
          obtain ⟨y, rfl⟩ := is_str c2
          cases z0
          exact run_ret (ed_ixT (ed_var rfl) ed_int (by decide) rfl) rfl
        · refine run_nexts (run_ret ed_str ?_)
          cases d0 with
          | str y =>
            have q : (decide ((0 : Int) < ((w0 :: wr).length : Int))) = true := decide_eq_true (by rw [List.length_cons]; omega)
            rw [q] at c
            cases c
          | _ => rfl
    · have hs' := Bool.eq_false_iff.mpr hs
      refine run_ifs (ec_and (b := false) (ec_val (ed_isTuple (ed_var rfl) z)) fun h => ?_) (fun c => ?_) (fun c => ?_)
      · rw [hs'] at h
        cases h
      · rw [Bool.and_false] at c
        cases c
      · refine run_nexts (run_ret ed_str ?_)
        rw [ntup_kind hs']

theorem sc_is_value : FnScope ["value"] ["value"] (defScope s_is_value) := ⟨rfl, rfl, rfl, by decide +kernel, rfl, by decide +kernel, by decide +kernel⟩
theorem ok_is_value {f : Addr} {fd : FuncData} (F : FnP K "is_value" s_is_value f fd) (g : mg "is_value" = some (.ref f))
    (z_len : mg "len" = none) (c_MOST_VALUE : ∃ t, mg "MOST_VALUE" = some (.int 40 t)) (D_is_printable : Def P w K mg base 1 "is_printable" ["value"] (spP K W_is_printable)) : Def P w K mg base 2 "is_value" ["value"] (spP K W_is_value) := by
  refine def_mk F g (F.bindsN fun _ _ _ _ _ _ us hl => match us, hl with | [_], _ => rfl) (fn_pure F sc_is_value ?_ ?_)
  · rintro _ _ _ ⟨⟩
    rfl
  · intro ds μ d W
    cases W
    rename_i x d k z
    intro cdv A outer s H E hr
    refine ⟨_, pss_one (ps_ret (pe_and (pe_callD D_is_printable (hr.mono (by decide)) rfl (pa_cons (pv 0) pa_nil)) (pe_one (pe_cmpR op_le (pe_callB cr_len (by rfl) z_len (by decide +kernel) (pa_cons (pv 0) pa_nil)) (pe_glob (v := V.int 40) rfl c_MOST_VALUE.choose_spec ⟨_, rfl⟩) (nomark _))))), ?_⟩
    by_cases hs : (Pd.tyN d == "str") = true
    · obtain ⟨y, rfl⟩ := is_str hs
      cases z
      exact run_ret (ed_and (ed_call (es_cons (ed_var rfl) es_nil) (W_is_printable.mk .str k)) fun _ => (ed_le (ed_lenS (es_cons (ed_var rfl) es_nil) (okS_sz (okD_str k))) ed_int)) rfl
    · have hs' := Bool.eq_false_iff.mpr hs
      refine run_ret (ed_and (b := false) (ed_call (es_cons (ed_var rfl) es_nil) (W_is_printable.mk z k)) fun h => ?_) ?_
      · rw [nstr_pr hs'] at h
        cases h
      · rw [nstr_val hs', Bool.and_false]

theorem sc__is_pair : FnScope ["value"] ["value"] (defScope s__is_pair) := ⟨rfl, rfl, rfl, by decide +kernel, rfl, by decide +kernel, by decide +kernel⟩
theorem ok__is_pair {f : Addr} {fd : FuncData} (F : FnP K "_is_pair" s__is_pair f fd) (g : mg "_is_pair" = some (.ref f))
    (D_is_value : Def P w K mg base 2 "is_value" ["value"] (spP K W_is_value)) (D_is_key : Def P w K mg base 1 "is_key" ["value"] (spP K W_is_key)) (z_len : mg "len" = none) (z_isinstance : mg "isinstance" = none) (z_tuple : mg "tuple" = none) : Def P w K mg base 3 "_is_pair" ["value"] (spP K W__is_pair) := by
  refine def_mk F g (F.bindsN fun _ _ _ _ _ _ us hl => match us, hl with | [_], _ => rfl) (fn_pure F sc__is_pair ?_ ?_)
  · rintro _ _ _ ⟨⟩
    rfl
  · intro ds μ d W
    cases W
    rename_i x d k z
    intro cdv A outer s H E hr
    refine ⟨_, pss_one (ps_ret (pe_and (pe_callB call_isi (by rfl) z_isinstance (by decide +kernel) (pa_cons (pv 0) (pa_cons (pe_bltn (v := V.ty "tuple") (by rfl) z_tuple (by decide +kernel) rfl) pa_nil))) (pe_and (pe_cmpR op_eq (pe_callB cr_len (by rfl) z_len (by decide +kernel) (pa_cons (pv 0) pa_nil)) pe_int (nomark _)) (pe_and (pe_callD D_is_key (hr.mono (by decide)) rfl (pa_cons (pe_ix ix_tup (pv 0) pe_int (fun _ _ => rfl)) pa_nil)) (pe_one (pe_callD D_is_value (hr.mono (by decide)) rfl (pa_cons (pe_ix ix_tup (pv 0) pe_int (fun _ _ => rfl)) pa_nil))))))), ?_⟩
    by_cases hs : (Pd.tyN d == "tuple") = true
    · obtain ⟨ds, rfl⟩ := is_tuple hs
      have kd := okD_tup k
      cases z with
      | @tup ws _ zs =>
      have hl := dw_len zs
      by_cases h2 : (ws.length : Int) = 2
      · match ws, ds, zs, kd, hl, h2 with
        | [w1, w2], [d1, d2], .cons z1 (.cons z2 .nil), kd, _, _ =>
          have k1 : okD d1 := okDs_at (i := 0) kd rfl
          have k2 : okD d2 := okDs_at (i := 1) kd rfl
          exact run_ret (ed_and (ed_isTuple (ed_var rfl) (.tup (.cons z1 (.cons z2 .nil)))) fun _ => (ed_and (ed_eqI (ed_lenT (es_cons (ed_var rfl) es_nil)) ed_int) fun _ => (ed_and (ed_call (es_cons (ed_ixT (ed_var rfl) ed_int (by decide) rfl) es_nil) (W_is_key.mk z1 k1)) fun _ => (ed_call (es_cons (ed_ixT (ed_var rfl) ed_int (by decide) rfl) es_nil) (W_is_value.mk z2 k2))))) rfl
        | [], _, _, _, _, q => exact absurd q (by decide)
        | [_], _, _, _, _, q => exact absurd q (by simp)
        | _ :: _ :: _ :: r, _, _, _, _, q => simp at q; omega
      · refine run_ret (ed_and (ed_isTuple (ed_var rfl) (.tup zs)) fun _ => (ed_and (b := false) (ed_eqI (ed_lenT (es_cons (ed_var rfl) es_nil)) ed_int) fun h => absurd (of_decide_eq_true h) h2)) ?_
        have q : pairB (.tuple ds) = false := by
          unfold pairB
          split
          · rename_i e
            cases e
            rw [hl] at h2
            exact absurd rfl h2
          · rfl
        rw [q, Bool.and_false, Bool.and_false]
    · have hs' := Bool.eq_false_iff.mpr hs
      refine run_ret (ed_and (b := false) (ed_isTuple (ed_var rfl) z) fun h => ?_) ?_
      · rw [hs'] at h
        cases h
      · rw [ntup_pair hs', Bool.and_false]

theorem sc_are_pairs : FnScope ["value", "last", "pair"] ["value"] (defScope s_are_pairs) := ⟨rfl, rfl, rfl, by decide +kernel, rfl, by decide +kernel, by decide +kernel⟩
theorem ok_are_pairs {f : Addr} {fd : FuncData} (F : FnP K "are_pairs" s_are_pairs f fd) (g : mg "are_pairs" = some (.ref f))
    (z_isinstance : mg "isinstance" = none) (z_tuple : mg "tuple" = none) (D__is_pair : Def P w K mg base 3 "_is_pair" ["value"] (spP K W__is_pair)) : Def P w K mg base 4 "are_pairs" ["value"] (spP K W_are_pairs) := by
  refine def_mk F g (F.bindsN fun _ _ _ _ _ _ us hl => match us, hl with | [_], _ => rfl) (fn_pure F sc_are_pairs ?_ ?_)
  · rintro _ _ _ ⟨⟩
    rfl
  · intro ds μ d W
    cases W
    rename_i x d k z
    intro cdv A outer s H E hr
    refine ⟨_, pss_cons (ps_if (pt_not (pt_val (pe_callB call_isi (by rfl) z_isinstance (by decide +kernel) (pa_cons (pv 0) (pa_cons (pe_bltn (v := V.ty "tuple") (by rfl) z_tuple (by decide +kernel) rfl) pa_nil))))) (pss_one (ps_ret pe_bl)) pss_nil)
      (pss_cons (ps_set (i := 1) sc_are_pairs.nd rfl (Or.inl rfl) pe_str)
      (pss_cons (ps_for PassesOwn.never rfl (pi_tup (pv 0)) (pg_name (i := 2) sc_are_pairs.nd rfl (Or.inl rfl)) (pss_cons (ps_if (PW.pt (pw_or (pt_not (pt_val (pe_callD D__is_pair (hr.mono (by decide)) rfl (pa_cons (pv 2) pa_nil)))) (pw_or1 (pt_cmpR op_leS (pe_ix ix_tup (pv 2) pe_int (fun _ _ => rfl)) (pv 1) (nomark _))))) (pss_one (ps_ret pe_bl)) pss_nil)
      (pss_one (ps_set (i := 1) sc_are_pairs.nd rfl (Or.inl rfl) (pe_ix ix_tup (pv 2) pe_int (fun _ _ => rfl))))))
      (pss_one (ps_ret pe_bl)))), ?_⟩
    by_cases hs : (Pd.tyN d == "tuple") = true
    · obtain ⟨ds, rfl⟩ := is_tuple hs
      have kd := okD_tup k
      cases z with
      | @tup ws _ zs =>
      have hl := dw_len zs
      refine run_ifs (ec_not (ec_val (ed_isTuple (ed_var rfl) (.tup zs)))) (fun c => by cases c) (fun c => run_nexts ?_)
      refine run_set ed_str ?_
      refine run_forT (ed_var rfl) (fun i ρ => ∃ (last : Str) (x : Option W), ρ = [some (.tup ws), some (.str last), x] ∧ pairsFrom last (ds.drop i) = pairsFrom "" ds) ⟨"", none, rfl, rfl⟩ (fun i x ρ hi hI => ?_) (fun ρ hI => ?_)
      · obtain ⟨last, x0, rfl, hp⟩ := hI
        obtain ⟨di, hd, zi⟩ := dw_to i zs hi
        have ki := okDs_at kd hd
        have hdrop : ds.drop i = di :: ds.drop (i + 1) := by
          obtain ⟨h1, h2⟩ := List.getElem?_eq_some_iff.mp hd
          rw [List.drop_eq_getElem_cons h1, h2]
        rw [hdrop] at hp
        have hp2 : (pairB di && (Pd.sLt last (headK di) && pairsFrom (headK di) (ds.drop (i + 1)))) = pairsFrom "" ds := hp
        by_cases hb : pairB di = true
        · obtain ⟨kk, v, rfl, _, _⟩ := pairB_iff.mp hb
          cases zi with
          | tup zz =>
          cases zz with
          | cons za zb =>
          cases za
          refine run_ifs (ec_or (ec_not (ec_val (ed_call (es_cons (ed_var rfl) es_nil) (W__is_pair.mk (.tup (.cons .str zb)) ki)))) fun _ => (ec_test (ed_leS (ed_ixT (ed_var rfl) ed_int (by decide) rfl) (ed_var rfl)))) (fun c => ?_) (fun c => run_nexts ?_)
          · rw [hb] at c
            have c2 : (!Pd.sLt last kk) = true := c
            refine run_ret ed_bl ?_
            show W.bl false = W.bl (pairsFrom "" ds)
            rw [← hp2]
            show _ = W.bl (_ && (Pd.sLt last kk && _))
            rw [nt c2, Bool.false_and, Bool.and_false]
          · rw [hb] at c
            have c2 : (!Pd.sLt last kk) = false := c
            refine run_asg (ed_ixT (ed_var rfl) ed_int (by decide) rfl) ⟨kk, _, rfl, ?_⟩
            rw [← hp2, hb]
            show _ = (true && (Pd.sLt last kk && _))
            rw [nn c2]
            rfl
        · have hb' := Bool.eq_false_iff.mpr hb
          refine run_ifs (ec_or (b := true) (ec_not (ec_val (ed_call (es_cons (ed_var rfl) es_nil) (W__is_pair.mk zi ki)))) fun h => ?_) (fun c => ?_) (fun c => ?_)
          · rw [hb'] at h
            cases h
          · refine run_ret ed_bl ?_
            show W.bl false = W.bl (pairsFrom "" ds)
            rw [← hp2, hb']
            rfl
          · rw [Bool.or_true] at c
            cases c
      · obtain ⟨last, x0, rfl, hp⟩ := hI
        refine run_ret ed_bl ?_
        show W.bl true = W.bl (pairsFrom "" ds)
        rw [← hp, hl, List.drop_length]
        rfl
    · have hs' := Bool.eq_false_iff.mpr hs
      refine run_ifs (ec_not (ec_val (ed_isTuple (ed_var rfl) z))) (fun c => ?_) (fun c => ?_)
      · refine run_ret ed_bl ?_
        rw [ntup_pairs hs']
      · rw [hs'] at c
        cases c

theorem sc__is_word_alone : FnScope ["answer"] ["answer"] (defScope s__is_word_alone) := ⟨rfl, rfl, rfl, by decide +kernel, rfl, by decide +kernel, by decide +kernel⟩
theorem ok__is_word_alone {f : Addr} {fd : FuncData} (F : FnP K "_is_word_alone" s__is_word_alone f fd) (g : mg "_is_word_alone" = some (.ref f))
    (z_len : mg "len" = none) : Def P w K mg base 1 "_is_word_alone" ["answer"] (spP K W__is_word_alone) := by
  refine def_mk F g (F.bindsN fun _ _ _ _ _ _ us hl => match us, hl with | [_], _ => rfl) (fn_pure F sc__is_word_alone ?_ ?_)
  · rintro _ _ _ ⟨⟩
    rfl
  · intro ds μ d W
    cases W
    rename_i ws
    intro cdv A outer s H E hr
    refine ⟨_, pss_one (ps_ret (pe_cmpR op_eq (pe_callB cr_len (by rfl) z_len (by decide +kernel) (pa_cons (pv 0) pa_nil)) pe_int (nomark _))), ?_⟩
    exact run_ret (ed_eqI (ed_lenT (es_cons (ed_var rfl) es_nil)) ed_int) rfl

theorem sc__is_value_told : FnScope ["answer"] ["answer"] (defScope s__is_value_told) := ⟨rfl, rfl, rfl, by decide +kernel, rfl, by decide +kernel, by decide +kernel⟩
theorem ok__is_value_told {f : Addr} {fd : FuncData} (F : FnP K "_is_value_told" s__is_value_told f fd) (g : mg "_is_value_told" = some (.ref f))
    (D_is_value : Def P w K mg base 2 "is_value" ["value"] (spP K W_is_value)) (z_len : mg "len" = none) : Def P w K mg base 3 "_is_value_told" ["answer"] (spP K W__is_value_told) := by
  refine def_mk F g (F.bindsN fun _ _ _ _ _ _ us hl => match us, hl with | [_], _ => rfl) (fn_pure F sc__is_value_told ?_ ?_)
  · rintro _ _ _ ⟨⟩
    rfl
  · intro ds μ d W
    cases W
    rename_i ws ds k z
    intro cdv A outer s H E hr
    refine ⟨_, pss_one (ps_ret (pe_and (pe_cmpR op_eq (pe_callB cr_len (by rfl) z_len (by decide +kernel) (pa_cons (pv 0) pa_nil)) pe_int (nomark _)) (pe_one (pe_callD D_is_value (hr.mono (by decide)) rfl (pa_cons (pe_ix ix_tup (pv 0) pe_int (fun _ _ => rfl)) pa_nil))))), ?_⟩
    have hl := dw_len z
    by_cases h2 : (ws.length : Int) = 2
    · match ws, ds, z, k, hl, h2 with
      | [w1, w2], [d1, d2], .cons z1 (.cons z2 .nil), k, _, _ =>
        have k2 : okD d2 := okDs_at (i := 1) k rfl
        exact run_ret (ed_and (ed_eqI (ed_lenT (es_cons (ed_var rfl) es_nil)) ed_int) fun _ => (ed_call (es_cons (ed_ixT (ed_var rfl) ed_int (by decide) rfl) es_nil) (W_is_value.mk z2 k2))) rfl
      | [], _, _, _, _, q => exact absurd q (by decide)
      | [_], _, _, _, _, q => exact absurd q (by simp)
      | _ :: _ :: _ :: r, _, _, _, _, q => simp at q; omega
    · refine run_ret (ed_and (b := false) (ed_eqI (ed_lenT (es_cons (ed_var rfl) es_nil)) ed_int) fun h => absurd (of_decide_eq_true h) h2) ?_
      have q : toldB ds = false := by
        unfold toldB
        split
        · rw [hl] at h2
          exact absurd rfl h2
        · rfl
      rw [q, Bool.and_false]

theorem sc__is_page_told : FnScope ["answer", "_", "pairs", "following"] ["answer"] (defScope s__is_page_told) := ⟨rfl, rfl, rfl, by decide +kernel, rfl, by decide +kernel, by decide +kernel⟩
theorem ok__is_page_told {f : Addr} {fd : FuncData} (F : FnP K "_is_page_told" s__is_page_told f fd) (g : mg "_is_page_told" = some (.ref f))
    (z_len : mg "len" = none) (c_MOST_PAGE : ∃ t, mg "MOST_PAGE" = some (.int 50 t)) (D_are_pairs : Def P w K mg base 4 "are_pairs" ["value"] (spP K W_are_pairs)) (D_is_key : Def P w K mg base 1 "is_key" ["value"] (spP K W_is_key)) (D_below : Def P w K mg base 1 "below" ["one", "other"] (spP K W_below)) : Def P w K mg base 5 "_is_page_told" ["answer"] (spP K W__is_page_told) := by
  refine def_mk F g (F.bindsN fun _ _ _ _ _ _ us hl => match us, hl with | [_], _ => rfl) (fn_pure F sc__is_page_told ?_ ?_)
  · rintro _ _ _ ⟨⟩
    rfl
  · intro ds μ d W
    cases W
    rename_i ws ds k z
    intro cdv A outer s H E hr
    refine ⟨_, pss_cons (ps_if (pt_cmpR op_ne (pe_callB cr_len (by rfl) z_len (by decide +kernel) (pa_cons (pv 0) pa_nil)) pe_int (nomark _)) (pss_one (ps_ret pe_bl)) pss_nil)
      (pss_cons (ps_asg (pv 0) (pg_tup (by rfl) (pgs_cons (pg_name (i := 1) sc__is_page_told.nd rfl (Or.inl rfl)) (pgs_cons (pg_name (i := 2) sc__is_page_told.nd rfl (Or.inl rfl)) (pgs_cons (pg_name (i := 3) sc__is_page_told.nd rfl (Or.inl rfl)) pgs_nil)))))
      (pss_cons (ps_if (PW.pt (pw_or (pt_not (pt_val (pe_callD D_are_pairs (hr.mono (by decide)) rfl (pa_cons (pv 2) pa_nil)))) (pw_or1 (pt_cmpR op_gt (pe_callB cr_len (by rfl) z_len (by decide +kernel) (pa_cons (pv 2) pa_nil)) (pe_glob (v := V.int 50) rfl c_MOST_PAGE.choose_spec ⟨_, rfl⟩) (nomark _))))) (pss_one (ps_ret pe_bl)) pss_nil)
      (pss_cons (ps_if (PW.pt (pw_and (pt_cmpR op_notNo (pv 3) pe_non (nomark _)) (pw_and1 (pt_not (pt_val (pe_callD D_is_key (hr.mono (by decide)) rfl (pa_cons (pv 3) pa_nil))))))) (pss_one (ps_ret pe_bl)) pss_nil)
      (pss_one (ps_ret (pe_or (pe_cmpR op_eq (pe_callB cr_len (by rfl) z_len (by decide +kernel) (pa_cons (pv 2) pa_nil)) pe_int (nomark _)) (pe_one (pe_callD D_below (hr.mono (by decide)) rfl (pa_cons (pe_ix ix_tup (pe_ix ix_tup (pv 2) (pe_un un_neg pe_int) (fun _ _ => rfl)) pe_int (fun _ _ => rfl)) (pa_cons (pv 3) pa_nil)))))))))), ?_⟩
    have hl := dw_len z
    refine run_ifs (ec_test (ed_neI (ed_lenT (es_cons (ed_var rfl) es_nil)) ed_int)) (fun c => ?_) (fun c => run_nexts ?_)
    · refine run_ret ed_bl ?_
      have q : pageB ds = false := by
        unfold pageB
        split
        · rw [hl] at c
          cases c
        · rfl
      rw [q]
    · have h3 : (ws.length : Int) = 3 := of_decide_eq_true (nn c)
      match ws, ds, z, k, hl, h3 with
      | [w0, w1, w2], [d0, d1, d2], .cons z0 (.cons z1 (.cons z2 .nil)), k, _, _ =>
        have k1 : okD d1 := okDs_at (i := 1) k rfl
        have k2 : okD d2 := okDs_at (i := 2) k rfl
        refine run_triple (ed_var rfl) ?_
        by_cases hb : pairsB d1 = true
        · have ht : (Pd.tyN d1 == "tuple") = true := by
            cases e : (Pd.tyN d1 == "tuple") with
            | true => rfl
            | false =>
              rw [ntup_pairs e] at hb
              cases hb
          obtain ⟨ps, rfl⟩ := is_tuple ht
          cases z1 with
          | @tup wps _ zp =>
          have hlp := dw_len zp
          refine run_ifs (ec_or (ec_not (ec_val (ed_call (es_cons (ed_var rfl) es_nil) (W_are_pairs.mk (.tup zp) k1)))) fun _ => (ec_test (ed_gt (ed_lenT (es_cons (ed_var rfl) es_nil)) ed_int))) (fun c => ?_) (fun c => run_nexts ?_)
          · rw [hb] at c
            have c2 : decide ((50 : Int) < (wps.length : Int)) = true := c
            refine run_ret ed_bl ?_
            have h50 : decide ((ps.length : Int) ≤ 50) = false := decide_eq_false (by have := of_decide_eq_true c2; rw [hlp] at this; omega)
            show W.bl false = W.bl (pageB [d0, .tuple ps, d2])
            unfold pageB
            simp only []
            rw [h50, Bool.and_false, Bool.false_and]
          · rw [hb] at c
            have c2 : decide ((50 : Int) < (wps.length : Int)) = false := c
            have h50 : decide ((ps.length : Int) ≤ 50) = true := decide_eq_true (by have := of_decide_eq_false c2; rw [hlp] at this; omega)
            have hp0 : pairsFrom "" ps = true := hb
            have page : pageB [d0, .tuple ps, d2] = (match d2 with
                | .none => true
                | .str y => keyS y && Pd.sLt (lastKey "" ps) y
                | _ => false) := by
              unfold pageB
              cases d2 <;> simp only [hp0, h50, Bool.and_true, Bool.true_and]
            by_cases hn : d2 = .none
            · subst hn
              cases z2
              refine run_ifs (ec_and (b := false) (ec_test (ed_notN (ed_var rfl))) fun h => by cases h) (fun c => by cases c) (fun c => run_nexts ?_)
              rw [page]
              rcases List.eq_nil_or_concat ps with e | ⟨L, lst, e⟩
              · subst e
                cases zp
                exact run_ret (ed_or (b := true) (ed_eqI (ed_lenT (es_cons (ed_var rfl) es_nil)) ed_int) fun h => by cases h) rfl
              · have hpos : ps ≠ [] := by rw [e]; simp
                obtain ⟨wl, dl, kk, hg, e2, hkk⟩ := last_pair zp hp0 hpos
                refine run_ret (ed_or (b := true) (ed_eqI (ed_lenT (es_cons (ed_var rfl) es_nil)) ed_int) fun _ => (ed_call (es_cons (ed_ixT (ed_lastT (ed_var rfl) (ed_neg ed_int) hg) ed_int (by decide) e2) (es_cons (ed_var rfl) es_nil)) (W_below.mk (a := some kk) (b := none)))) ?_
                rw [Bool.or_true]
            · have hn2 : isNone w2 = false := by
                cases z2 with
                | non => exact absurd rfl hn
                | _ => rfl
              refine run_ifs (ec_and (ec_test (ed_notN (ed_var rfl))) fun _ => (ec_not (ec_val (ed_call (es_cons (ed_var rfl) es_nil) (W_is_key.mk z2 k2))))) (fun c => ?_) (fun c => run_nexts ?_)
              · rw [hn2] at c
                have c2 : (!keyB d2) = true := c
                refine run_ret ed_bl ?_
                rw [page]
                cases d2 with
                | str y =>
                  have c3 : keyS y = false := nt c2
                  show _ = W.bl (keyS y && _)
                  rw [c3]
                  rfl
                | none => exact absurd rfl hn
                | _ => rfl
              · rw [hn2] at c
                have c2 : (!keyB d2) = false := c
                cases d2 with
                | str y =>
                  have c3 : keyS y = true := nn c2
                  cases z2
                  rw [page]
                  show Run _ _ _ _ _ (fun e => e = W.bl (keyS y && Pd.sLt (lastKey "" ps) y))
                  rw [c3, Bool.true_and]
                  rcases List.eq_nil_or_concat ps with e | ⟨L, lst, e⟩
                  · subst e
                    cases zp
                    refine run_ret (ed_or (b := true) (ed_eqI (ed_lenT (es_cons (ed_var rfl) es_nil)) ed_int) fun h => by cases h) ?_
                    show W.bl true = W.bl (Pd.sLt "" y)
                    rw [keyS_pos c3]
                  · have hpos : ps ≠ [] := by rw [e]; simp
                    obtain ⟨wl, dl, kk, hg, e2, hkk⟩ := last_pair zp hp0 hpos
                    have hz : (decide ((wps.length : Int) = 0)) = false := decide_eq_false (by
                      rw [hlp]
                      have := List.length_pos_iff.mpr hpos
                      omega)
                    refine run_ret (ed_or (ed_eqI (ed_lenT (es_cons (ed_var rfl) es_nil)) ed_int) fun _ => (ed_call (es_cons (ed_ixT (ed_lastT (ed_var rfl) (ed_neg ed_int) hg) ed_int (by decide) e2) (es_cons (ed_var rfl) es_nil)) (W_below.mk (a := some kk) (b := some y)))) ?_
                    rw [hz, hkk]
                    rfl
                | none => exact absurd rfl hn
                | _ => cases c2
        · have hb' := Bool.eq_false_iff.mpr hb
          refine run_ifs (ec_or (b := true) (ec_not (ec_val (ed_call (es_cons (ed_var rfl) es_nil) (W_are_pairs.mk z1 k1)))) fun h => ?_) (fun c => ?_) (fun c => ?_)
          · rw [hb'] at h
            cases h
          · refine run_ret ed_bl ?_
            have q : pageB [d0, d1, d2] = false := by
              unfold pageB
              split
              · rename_i e
                cases e
                have hb2 : pairsFrom "" _ = false := hb'
                rw [hb2]
                rfl
              · rfl
            rw [q]
          · rw [Bool.or_true] at c
            cases c
      | [], _, _, _, _, q => exact absurd q (by decide)
      | [_], _, _, _, _, q => exact absurd q (by simp)
      | [_, _], _, _, _, _, q => exact absurd q (by simp)
      | _ :: _ :: _ :: _ :: r, _, _, _, _, q => simp at q; omega

theorem sc_is_bound : FnScope ["value"] ["value"] (defScope s_is_bound) := ⟨rfl, rfl, rfl, by decide +kernel, rfl, by decide +kernel, by decide +kernel⟩
theorem ok_is_bound {f : Addr} {fd : FuncData} (F : FnP K "is_bound" s_is_bound f fd) (g : mg "is_bound" = some (.ref f))
    (z_isinstance : mg "isinstance" = none) (z_str : mg "str" = none) (D_is_key : Def P w K mg base 1 "is_key" ["value"] (spP K W_is_key)) : Def P w K mg base 2 "is_bound" ["value"] (spP K W_is_bound) := by
  refine def_mk F g (F.bindsN fun _ _ _ _ _ _ us hl => match us, hl with | [_], _ => rfl) (fn_pure F sc_is_bound ?_ ?_)
  · rintro _ _ _ ⟨⟩
    rfl
  · intro ds μ d W
    cases W
    rename_i x d k z
    intro cdv A outer s H E hr
    refine ⟨_, pss_one (ps_ret (pe_or (pe_callD D_is_key (hr.mono (by decide)) rfl (pa_cons (pv 0) pa_nil)) (pe_one (pe_and (pe_callB call_isi (by rfl) z_isinstance (by decide +kernel) (pa_cons (pv 0) (pa_cons (pe_bltn (v := V.ty "str") (by rfl) z_str (by decide +kernel) rfl) pa_nil))) (pe_one (pe_cmpR op_eq (pv 0) pe_str (nomark _))))))), ?_⟩
    by_cases hs : (Pd.tyN d == "str") = true
    · obtain ⟨y, rfl⟩ := is_str hs
      cases z
      exact run_ret (ed_or (ed_call (es_cons (ed_var rfl) es_nil) (W_is_key.mk .str k)) fun _ => ed_and (ed_isStr (ed_var rfl) .str) fun _ => ed_eqS (ed_var rfl) ed_str) rfl
    · have hs' := Bool.eq_false_iff.mpr hs
      refine run_ret (ed_or (ed_call (es_cons (ed_var rfl) es_nil) (W_is_key.mk z k)) fun _ => ed_and (b := false) (ed_isStr (ed_var rfl) z) fun h => absurd (hs'.symm.trans h) Bool.false_ne_true) ?_
      rw [hs', nstr_key hs', nstr_bound hs']
      rfl

theorem sc_is_range : FnScope ["low", "high"] ["low", "high"] (defScope s_is_range) := ⟨rfl, rfl, rfl, by decide +kernel, rfl, by decide +kernel, by decide +kernel⟩
theorem ok_is_range {f : Addr} {fd : FuncData} (F : FnP K "is_range" s_is_range f fd) (g : mg "is_range" = some (.ref f))
    (D_is_bound : Def P w K mg base 2 "is_bound" ["value"] (spP K W_is_bound)) (D_is_key : Def P w K mg base 1 "is_key" ["value"] (spP K W_is_key)) : Def P w K mg base 3 "is_range" ["low", "high"] (spP K W_is_range) := by
  refine def_mk F g (F.bindsN fun _ _ _ _ _ _ us hl => match us, hl with | [_, _], _ => rfl) (fn_pure F sc_is_range ?_ ?_)
  · rintro _ _ _ ⟨⟩
    rfl
  · intro ds μ d W
    cases W
    rename_i x y d e k k2 z z2
    intro cdv A outer s H E hr
    refine ⟨_, pss_cons (ps_if (pt_not (pt_val (pe_callD D_is_bound (hr.mono (by decide)) rfl (pa_cons (pv 0) pa_nil)))) (pss_one (ps_ret pe_bl)) pss_nil)
      (pss_one (ps_ret (pe_or (pe_cmpR op_isNo (pv 1) pe_non (nomark _)) (pe_one (pe_and (pe_callD D_is_key (hr.mono (by decide)) rfl (pa_cons (pv 1) pa_nil)) (pe_one (pe_cmpR op_ltS (pv 0) (pv 1) (nomark _)))))))), ?_⟩
    refine run_ifs (ec_not (ec_val (ed_call (es_cons (ed_var rfl) es_nil) (W_is_bound.mk z k)))) (fun c => ?_) (fun c => run_nexts ?_)
    · refine run_retS ed_bl ?_
      unfold rangeB
      rw [nt c]
      rfl
    · have hb : boundB d = true := nn c
      cases d with
      | str a =>
        cases z
        by_cases hk : keyB e = true
        · cases e with
          | str b =>
            cases z2
            refine run_ret (ed_or (ed_isN (ed_var rfl)) fun _ => ed_and (ed_call (es_cons (ed_var rfl) es_nil) (W_is_key.mk .str k2)) fun _ => ed_ltS (ed_var rfl) (ed_var rfl)) ?_
            unfold rangeB
            rw [hb]
            rfl
          | _ => cases hk
        · have hk' := Bool.eq_false_iff.mpr hk
          refine run_ret (ed_or (ed_isN (ed_var rfl)) fun _ => ed_and (b := false) (ed_call (es_cons (ed_var rfl) es_nil) (W_is_key.mk z2 k2)) fun h => absurd h hk) ?_
          unfold rangeB
          rw [hb, hk', isNone_dw z2]
          rfl
      | _ => cases hb

theorem sc_contains : FnScope ["low", "high", "bound"] ["low", "high", "bound"] (defScope s_contains) := ⟨rfl, rfl, rfl, by decide +kernel, rfl, by decide +kernel, by decide +kernel⟩
theorem ok_contains {f : Addr} {fd : FuncData} (F : FnP K "contains" s_contains f fd) (g : mg "contains" = some (.ref f))
    (D_below : Def P w K mg base 1 "below" ["one", "other"] (spP K W_below)) : Def P w K mg base 2 "contains" ["low", "high", "bound"] (spP K W_contains) := by
  refine def_mk F g (F.bindsN fun _ _ _ _ _ _ us hl => match us, hl with | [_, _, _], _ => rfl) (fn_pure F sc_contains ?_ ?_)
  · rintro _ _ _ ⟨⟩
    rfl
  · intro ds μ d W
    cases W
    rename_i a b hi
    intro cdv A outer s H E hr
    refine ⟨_, pss_one (ps_ret (pe_and (pe_cmpR op_leS (pv 0) (pv 2) (nomark _)) (pe_one (pe_callD D_below (hr.mono (by decide)) rfl (pa_cons (pv 2) (pa_cons (pv 1) pa_nil)))))), ?_⟩
    exact run_ret (ed_and (ed_leS (ed_var rfl) (ed_var rfl)) fun _ => ed_call (es_cons (ed_var rfl) (es_cons (ed_var rfl) es_nil)) (W_below.mk (a := some b))) rfl

theorem sc_is_integer : FnScope ["value", "least", "greatest"] ["value", "least", "greatest"] (defScope s_is_integer) := ⟨rfl, rfl, rfl, by decide +kernel, rfl, by decide +kernel, by decide +kernel⟩
theorem ok_is_integer {f : Addr} {fd : FuncData} (F : FnP K "is_integer" s_is_integer f fd) (g : mg "is_integer" = some (.ref f))
    (z_isinstance : mg "isinstance" = none) (z_bool : mg "bool" = none) (z_int : mg "int" = none) : Def P w K mg base 1 "is_integer" ["value", "least", "greatest"] (spP K W_is_integer) := by
  refine def_mk F g (F.bindsN fun _ _ _ _ _ _ us hl => match us, hl with | [_, _, _], _ => rfl) (fn_pure F sc_is_integer ?_ ?_)
  · rintro _ _ _ ⟨⟩
    rfl
  · intro ds μ d W
    cases W
    rename_i x d lo hi z
    intro cdv A outer s H E hr
    refine ⟨_, pss_cons (ps_if (PW.pt (pw_or (pt_not (pt_val (pe_callB call_isi (by rfl) z_isinstance (by decide +kernel) (pa_cons (pv 0) (pa_cons (pe_bltn (v := V.ty "int") (by rfl) z_int (by decide +kernel) rfl) pa_nil))))) (pw_or1 (pt_val (pe_callB call_isi (by rfl) z_isinstance (by decide +kernel) (pa_cons (pv 0) (pa_cons (pe_bltn (v := V.ty "bool") (by rfl) z_bool (by decide +kernel) rfl) pa_nil))))))) (pss_one (ps_ret pe_bl)) pss_nil)
      (pss_one (ps_ret (pe_chain op_le op_le (pv 1) (pv 0) (pv 2)))), ?_⟩
    cases d with
    | int i =>
      cases z
      exact run_ifs (ec_or (ec_not (ec_val (ed_isInt (ed_var rfl) .int))) fun _ => ec_val (ed_isBool (ed_var rfl) .int)) (fun c => absurd (show (!("int" == "int" || "int" == "bool") || ("int" == "bool")) = true from c) (by decide +kernel)) (fun _ => run_nexts (run_ret (ed_chain (ed_var rfl) (ed_var rfl) (ed_var rfl) ch_le ch_le) rfl))
    | none => exact run_ifs (ec_or (ec_not (ec_val (ed_isInt (ed_var rfl) z))) fun _ => ec_val (ed_isBool (ed_var rfl) z)) (fun c => run_retS ed_bl rfl) (fun c => absurd (show (!("NoneType" == "int" || "NoneType" == "bool") || ("NoneType" == "bool")) = false from c) (by decide +kernel))
    | bool b => exact run_ifs (ec_or (ec_not (ec_val (ed_isInt (ed_var rfl) z))) fun _ => ec_val (ed_isBool (ed_var rfl) z)) (fun c => run_retS ed_bl rfl) (fun c => absurd (show (!("bool" == "int" || "bool" == "bool") || ("bool" == "bool")) = false from c) (by decide +kernel))
    | str y => exact run_ifs (ec_or (ec_not (ec_val (ed_isInt (ed_var rfl) z))) fun _ => ec_val (ed_isBool (ed_var rfl) z)) (fun c => run_retS ed_bl rfl) (fun c => absurd (show (!("str" == "int" || "str" == "bool") || ("str" == "bool")) = false from c) (by decide +kernel))
    | list y => exact run_ifs (ec_or (ec_not (ec_val (ed_isInt (ed_var rfl) z))) fun _ => ec_val (ed_isBool (ed_var rfl) z)) (fun c => run_retS ed_bl rfl) (fun c => absurd (show (!("list" == "int" || "list" == "bool") || ("list" == "bool")) = false from c) (by decide +kernel))
    | tuple y => exact run_ifs (ec_or (ec_not (ec_val (ed_isInt (ed_var rfl) z))) fun _ => ec_val (ed_isBool (ed_var rfl) z)) (fun c => run_retS ed_bl rfl) (fun c => absurd (show (!("tuple" == "int" || "tuple" == "bool") || ("tuple" == "bool")) = false from c) (by decide +kernel))
    | dict y => exact absurd (dw_notD z) (fun h => h)

theorem sc__is_key_alone : FnScope ["op"] ["op"] (defScope s__is_key_alone) := ⟨rfl, rfl, rfl, by decide +kernel, rfl, by decide +kernel, by decide +kernel⟩
theorem ok__is_key_alone {f : Addr} {fd : FuncData} (F : FnP K "_is_key_alone" s__is_key_alone f fd) (g : mg "_is_key_alone" = some (.ref f))
    (D_is_key : Def P w K mg base 1 "is_key" ["value"] (spP K W_is_key)) (z_len : mg "len" = none) : Def P w K mg base 2 "_is_key_alone" ["op"] (spP K W__is_key_alone) := by
  refine def_mk F g (F.bindsN fun _ _ _ _ _ _ us hl => match us, hl with | [_], _ => rfl) (fn_pure F sc__is_key_alone ?_ ?_)
  · rintro _ _ _ ⟨⟩
    rfl
  · intro ds μ d W
    cases W
    rename_i ws ds k z
    intro cdv A outer s H E hr
    refine ⟨_, pss_one (ps_ret (pe_and (pe_cmpR op_eq (pe_callB cr_len (by rfl) z_len (by decide +kernel) (pa_cons (pv 0) pa_nil)) pe_int (nomark _)) (pe_one (pe_callD D_is_key (hr.mono (by decide)) rfl (pa_cons (pe_ix ix_tup (pv 0) pe_int (fun _ _ => rfl)) pa_nil))))), ?_⟩
    refine run_ret (ed_and (ed_eqI (ed_lenT (es_cons (ed_var rfl) es_nil)) ed_int) fun h => (ed_call (es_cons (ed_at 1 (ed_var rfl) ed_int h) es_nil) (W_is_key.mk (dw_nth 1 z) (ok_nth 1 k)))) ?_
    unfold keyAloneB
    rw [dw_len z]

theorem sc__is_put : FnScope ["op"] ["op"] (defScope s__is_put) := ⟨rfl, rfl, rfl, by decide +kernel, rfl, by decide +kernel, by decide +kernel⟩
theorem ok__is_put {f : Addr} {fd : FuncData} (F : FnP K "_is_put" s__is_put f fd) (g : mg "_is_put" = some (.ref f))
    (D_is_value : Def P w K mg base 2 "is_value" ["value"] (spP K W_is_value)) (D_is_key : Def P w K mg base 1 "is_key" ["value"] (spP K W_is_key)) (z_len : mg "len" = none) : Def P w K mg base 3 "_is_put" ["op"] (spP K W__is_put) := by
  refine def_mk F g (F.bindsN fun _ _ _ _ _ _ us hl => match us, hl with | [_], _ => rfl) (fn_pure F sc__is_put ?_ ?_)
  · rintro _ _ _ ⟨⟩
    rfl
  · intro ds μ d W
    cases W
    rename_i ws ds k z
    intro cdv A outer s H E hr
    refine ⟨_, pss_one (ps_ret (pe_and (pe_cmpR op_eq (pe_callB cr_len (by rfl) z_len (by decide +kernel) (pa_cons (pv 0) pa_nil)) pe_int (nomark _)) (pe_and (pe_callD D_is_key (hr.mono (by decide)) rfl (pa_cons (pe_ix ix_tup (pv 0) pe_int (fun _ _ => rfl)) pa_nil)) (pe_one (pe_callD D_is_value (hr.mono (by decide)) rfl (pa_cons (pe_ix ix_tup (pv 0) pe_int (fun _ _ => rfl)) pa_nil)))))), ?_⟩
    refine run_ret (ed_and (ed_eqI (ed_lenT (es_cons (ed_var rfl) es_nil)) ed_int) fun h => (ed_and (ed_call (es_cons (ed_at 1 (ed_var rfl) ed_int h) es_nil) (W_is_key.mk (dw_nth 1 z) (ok_nth 1 k))) fun _ => (ed_call (es_cons (ed_at 2 (ed_var rfl) ed_int h) es_nil) (W_is_value.mk (dw_nth 2 z) (ok_nth 2 k))))) ?_
    unfold putB
    rw [dw_len z]

theorem sc__is_swap : FnScope ["op"] ["op"] (defScope s__is_swap) := ⟨rfl, rfl, rfl, by decide +kernel, rfl, by decide +kernel, by decide +kernel⟩
theorem ok__is_swap {f : Addr} {fd : FuncData} (F : FnP K "_is_swap" s__is_swap f fd) (g : mg "_is_swap" = some (.ref f))
    (D_is_value : Def P w K mg base 2 "is_value" ["value"] (spP K W_is_value)) (D_is_key : Def P w K mg base 1 "is_key" ["value"] (spP K W_is_key)) (z_len : mg "len" = none) : Def P w K mg base 3 "_is_swap" ["op"] (spP K W__is_swap) := by
  refine def_mk F g (F.bindsN fun _ _ _ _ _ _ us hl => match us, hl with | [_], _ => rfl) (fn_pure F sc__is_swap ?_ ?_)
  · rintro _ _ _ ⟨⟩
    rfl
  · intro ds μ d W
    cases W
    rename_i ws ds k z
    intro cdv A outer s H E hr
    refine ⟨_, pss_one (ps_ret (pe_and (pe_cmpR op_eq (pe_callB cr_len (by rfl) z_len (by decide +kernel) (pa_cons (pv 0) pa_nil)) pe_int (nomark _)) (pe_and (pe_callD D_is_key (hr.mono (by decide)) rfl (pa_cons (pe_ix ix_tup (pv 0) pe_int (fun _ _ => rfl)) pa_nil)) (pe_and (pe_callD D_is_value (hr.mono (by decide)) rfl (pa_cons (pe_ix ix_tup (pv 0) pe_int (fun _ _ => rfl)) pa_nil)) (pe_one (pe_callD D_is_value (hr.mono (by decide)) rfl (pa_cons (pe_ix ix_tup (pv 0) pe_int (fun _ _ => rfl)) pa_nil))))))), ?_⟩
    refine run_ret (ed_and (ed_eqI (ed_lenT (es_cons (ed_var rfl) es_nil)) ed_int) fun h => (ed_and (ed_call (es_cons (ed_at 1 (ed_var rfl) ed_int h) es_nil) (W_is_key.mk (dw_nth 1 z) (ok_nth 1 k))) fun _ => (ed_and (ed_call (es_cons (ed_at 2 (ed_var rfl) ed_int h) es_nil) (W_is_value.mk (dw_nth 2 z) (ok_nth 2 k))) fun _ => (ed_call (es_cons (ed_at 3 (ed_var rfl) ed_int h) es_nil) (W_is_value.mk (dw_nth 3 z) (ok_nth 3 k)))))) ?_
    unfold swapB
    rw [dw_len z]

theorem sc__is_page : FnScope ["op"] ["op"] (defScope s__is_page) := ⟨rfl, rfl, rfl, by decide +kernel, rfl, by decide +kernel, by decide +kernel⟩
theorem ok__is_page {f : Addr} {fd : FuncData} (F : FnP K "_is_page" s__is_page f fd) (g : mg "_is_page" = some (.ref f))
    (D_is_integer : Def P w K mg base 1 "is_integer" ["value", "least", "greatest"] (spP K W_is_integer)) (c_MOST_PAGE : ∃ t, mg "MOST_PAGE" = some (.int 50 t)) (D_is_bound : Def P w K mg base 2 "is_bound" ["value"] (spP K W_is_bound)) (z_len : mg "len" = none) : Def P w K mg base 3 "_is_page" ["op"] (spP K W__is_page) := by
  refine def_mk F g (F.bindsN fun _ _ _ _ _ _ us hl => match us, hl with | [_], _ => rfl) (fn_pure F sc__is_page ?_ ?_)
  · rintro _ _ _ ⟨⟩
    rfl
  · intro ds μ d W
    cases W
    rename_i ws ds k z
    intro cdv A outer s H E hr
    refine ⟨_, pss_one (ps_ret (pe_and (pe_cmpR op_eq (pe_callB cr_len (by rfl) z_len (by decide +kernel) (pa_cons (pv 0) pa_nil)) pe_int (nomark _)) (pe_and (pe_callD D_is_bound (hr.mono (by decide)) rfl (pa_cons (pe_ix ix_tup (pv 0) pe_int (fun _ _ => rfl)) pa_nil)) (pe_one (pe_callD D_is_integer (hr.mono (by decide)) rfl (pa_cons (pe_ix ix_tup (pv 0) pe_int (fun _ _ => rfl)) (pa_cons pe_int (pa_cons (pe_glob (v := V.int 50) rfl c_MOST_PAGE.choose_spec ⟨_, rfl⟩) pa_nil)))))))), ?_⟩
    refine run_ret (ed_and (ed_eqI (ed_lenT (es_cons (ed_var rfl) es_nil)) ed_int) fun h => (ed_and (ed_call (es_cons (ed_at 1 (ed_var rfl) ed_int h) es_nil) (W_is_bound.mk (dw_nth 1 z) (ok_nth 1 k))) fun _ => (ed_call (es_cons (ed_at 2 (ed_var rfl) ed_int h) (es_cons ed_int (es_cons ed_int es_nil))) (W_is_integer.mk (dw_nth 2 z))))) ?_
    unfold pageOpB
    rw [dw_len z]

theorem W__is_value_told.is {ws : List W} {μ : Mu} {a b : W} (h : W__is_value_told ws μ a) (e : a = b) : W__is_value_told ws μ b := e ▸ h
theorem W__is_word_alone.is {ws : List W} {μ : Mu} {a b : W} (h : W__is_word_alone ws μ a) (e : a = b) : W__is_word_alone ws μ b := e ▸ h
theorem W__is_page_told.is {ws : List W} {μ : Mu} {a b : W} (h : W__is_page_told ws μ a) (e : a = b) : W__is_page_told ws μ b := e ▸ h
theorem sc_is_answer : FnScope ["value", "kind", "check"] ["value"] (defScope s_is_answer) := ⟨rfl, rfl, rfl, by decide +kernel, rfl, by decide +kernel, by decide +kernel⟩
theorem ok_is_answer {f : Addr} {fd : FuncData} (F : FnP K "is_answer" s_is_answer f fd) (g : mg "is_answer" = some (.ref f))
    (t_ANSWERS : TabOf K w mg "ANSWERS" [("value", "_is_value_told"), ("none", "_is_word_alone"), ("done", "_is_word_alone"), ("other", "_is_value_told"), ("page", "_is_page_told")]) (D_kind_of : Def P w K mg base 1 "kind_of" ["value"] (spP K W_kind_of)) (D__is_word_alone : Def P w K mg base 1 "_is_word_alone" ["answer"] (spP K W__is_word_alone)) (D__is_value_told : Def P w K mg base 3 "_is_value_told" ["answer"] (spP K W__is_value_told)) (D__is_page_told : Def P w K mg base 5 "_is_page_told" ["answer"] (spP K W__is_page_told)) : Def P w K mg base 6 "is_answer" ["value"] (spP K W_is_answer) := by
  refine def_mk F g (F.bindsN fun _ _ _ _ _ _ us hl => match us, hl with | [_], _ => rfl) (fn_pure F sc_is_answer ?_ ?_)
  · rintro _ _ _ ⟨⟩
    rfl
  · intro ds μ d W
    cases W
    rename_i x d k z
    intro cdv A outer s H E hr
    obtain ⟨aA, kvs, gA, T, hkeys, hvals⟩ := t_ANSWERS.ex
    have keyIs : kvs.map (·.1) = (["value", "none", "done", "other", "page"] : List Str) := hkeys
    by_cases hin : kindS d ∈ (["value", "none", "done", "other", "page"] : List Str)
    · have go : ∀ (n : Nat) (y : Str) (Wf : List W → Mu → W → Prop), n ≤ 5 → Def P w K mg base n y ["answer"] (spP K Wf) → (kindS d, y) ∈ ([("value", "_is_value_told"), ("none", "_is_word_alone"), ("done", "_is_word_alone"), ("other", "_is_value_told"), ("page", "_is_page_told")] : List (Str × Str)) → Wf [x] μ (.bl (answerB d)) →
          ∃ t, PSs (cxOf CX0 P w K mg base ["value", "kind", "check"] "is_answer" (defScope s_is_answer) f cdv A outer s H E).nox (defBody s_is_answer) t ∧ Run K t (rho0 3 [x]) μ (fun _ => W.bl (answerB d) = .non) (fun e => e = W.bl (answerB d)) := by
        intro n y Wf hn D hp hw
        obtain ⟨f1, fd1, h1, g1, kp1, b1⟩ := D.ex
        obtain ⟨f2, g2, hkv⟩ := hvals _ hp
        have ef : f1 = f2 := by
          have q := g1.symm.trans g2
          cases q
          rfl
        subst ef
        refine ⟨_, pss_cons (ps_set (i := 1) sc_is_answer.nd rfl (Or.inl rfl) (pe_callD D_kind_of (hr.mono (by decide)) rfl (pa_cons (pv 0) pa_nil)))
          (pss_cons (ps_if (pt_cmpR (op_notInK T) (pv 1) (pe_glob (v := V.ref aA) rfl gA rfl) (by rfl)) (pss_one (ps_ret pe_bl)) pss_nil)
          (pss_cons (ps_set (i := 2) sc_is_answer.nd rfl (Or.inl rfl) (pe_ix ix_kdict (pe_glob (v := V.ref aA) rfl gA rfl) (pv 1) (fun _ _ => rfl)))
          (pss_one (ps_ret (pe_callL (i := 2) (E := E0) h1 (hr.mono hn) rfl (Or.inl rfl) kp1 b1 .nil pass0 (pa_cons (pv 0) pa_nil)))))), ?_⟩
        refine run_set (ed_call (es_cons (ed_var rfl) es_nil) (W_kind_of.mk z k)) ?_
        refine run_ifs (ec_test (ed_notInK T (ed_var rfl))) (fun c => ?_) (fun c => run_nexts ?_)
        · rw [keyIs, decide_eq_true hin] at c
          cases c
        · exact run_disp T hkv (ed_var rfl) (Nat.lt_of_lt_of_le (by decide : 2 < 3) (Nat.le_of_eq rfl)) (es_cons (ed_var rfl) es_nil) hw rfl
      have hin2 := hin
      simp only [List.mem_cons, List.not_mem_nil, or_false] at hin2
      rcases hin2 with hk | hk | hk | hk | hk
      · obtain ⟨r, rfl⟩ := kind_tup hk (by decide +kernel)
        cases z with
        | tup zs => exact go 3 "_is_value_told" W__is_value_told (by decide) D__is_value_told (by rw [hk]; simp) ((W__is_value_told.mk zs (okD_tup k)).is (by rw [ans_cons, if_pos (.inl rfl)]))
      · obtain ⟨r, rfl⟩ := kind_tup hk (by decide +kernel)
        cases z with
        | tup zs =>
          have hl := dw_len zs
          refine go 1 "_is_word_alone" W__is_word_alone (by decide) D__is_word_alone (by rw [hk]; simp) (W__is_word_alone.mk.is ?_)
          rw [ans_cons, if_neg (by decide +kernel), if_pos (.inl rfl), hl, List.length_cons]
          exact congrArg W.bl (decide_eq_decide.mpr (by omega))
      · obtain ⟨r, rfl⟩ := kind_tup hk (by decide +kernel)
        cases z with
        | tup zs =>
          have hl := dw_len zs
          refine go 1 "_is_word_alone" W__is_word_alone (by decide) D__is_word_alone (by rw [hk]; simp) (W__is_word_alone.mk.is ?_)
          rw [ans_cons, if_neg (by decide +kernel), if_pos (.inr rfl), hl, List.length_cons]
          exact congrArg W.bl (decide_eq_decide.mpr (by omega))
      · obtain ⟨r, rfl⟩ := kind_tup hk (by decide +kernel)
        cases z with
        | tup zs => exact go 3 "_is_value_told" W__is_value_told (by decide) D__is_value_told (by rw [hk]; simp) ((W__is_value_told.mk zs (okD_tup k)).is (by rw [ans_cons, if_pos (.inr rfl)]))
      · obtain ⟨r, rfl⟩ := kind_tup hk (by decide +kernel)
        cases z with
        | tup zs => exact go 5 "_is_page_told" W__is_page_told (by decide) D__is_page_told (by rw [hk]; simp) ((W__is_page_told.mk zs (okD_tup k)).is (by rw [ans_cons, if_neg (by decide +kernel), if_neg (by decide +kernel), if_pos rfl]))
    · refine ⟨_, pss_cons (ps_set (i := 1) sc_is_answer.nd rfl (Or.inl rfl) (pe_callD D_kind_of (hr.mono (by decide)) rfl (pa_cons (pv 0) pa_nil)))
        (pss_cons (ps_if (pt_cmpR (op_notInK T) (pv 1) (pe_glob (v := V.ref aA) rfl gA rfl) (by rfl)) (pss_one (ps_ret pe_bl)) pss_nil) pss_never), ?_⟩
      refine run_set (ed_call (es_cons (ed_var rfl) es_nil) (W_kind_of.mk z k)) ?_
      refine run_ifs (ec_test (ed_notInK T (ed_var rfl))) (fun c => ?_) (fun c => ?_)
      · refine run_ret ed_bl ?_
        rw [ans_kind hin]
      · rw [keyIs, decide_eq_false hin] at c
        cases c

theorem sc_is_operation : FnScope ["value", "kind", "check"] ["value"] (defScope s_is_operation) := ⟨rfl, rfl, rfl, by decide +kernel, rfl, by decide +kernel, by decide +kernel⟩
theorem ok_is_operation {f : Addr} {fd : FuncData} (F : FnP K "is_operation" s_is_operation f fd) (g : mg "is_operation" = some (.ref f))
    (t_OPERATIONS : TabOf K w mg "OPERATIONS" [("get", "_is_key_alone"), ("put", "_is_put"), ("drop", "_is_key_alone"), ("swap", "_is_swap"), ("page", "_is_page")]) (D_kind_of : Def P w K mg base 1 "kind_of" ["value"] (spP K W_kind_of)) (D__is_key_alone : Def P w K mg base 2 "_is_key_alone" ["op"] (spP K W__is_key_alone)) (D__is_put : Def P w K mg base 3 "_is_put" ["op"] (spP K W__is_put)) (D__is_swap : Def P w K mg base 3 "_is_swap" ["op"] (spP K W__is_swap)) (D__is_page : Def P w K mg base 3 "_is_page" ["op"] (spP K W__is_page)) : Def P w K mg base 4 "is_operation" ["value"] (spP K W_is_operation) := by
  refine def_mk F g (F.bindsN fun _ _ _ _ _ _ us hl => match us, hl with | [_], _ => rfl) (fn_pure F sc_is_operation ?_ ?_)
  · rintro _ _ _ ⟨⟩
    rfl
  · intro ds μ d W
    cases W
    rename_i x d k z
    intro cdv A outer s H E hr
    obtain ⟨aA, kvs, gA, T, hkeys, hvals⟩ := t_OPERATIONS.ex
    have keyIs : kvs.map (·.1) = (["get", "put", "drop", "swap", "page"] : List Str) := hkeys
    by_cases hin : kindS d ∈ (["get", "put", "drop", "swap", "page"] : List Str)
    · have go : ∀ (n : Nat) (y : Str) (Wf : List W → Mu → W → Prop), n ≤ 3 → Def P w K mg base n y ["op"] (spP K Wf) → (kindS d, y) ∈ ([("get", "_is_key_alone"), ("put", "_is_put"), ("drop", "_is_key_alone"), ("swap", "_is_swap"), ("page", "_is_page")] : List (Str × Str)) → Wf [x] μ (.bl (opB d)) →
          ∃ t, PSs (cxOf CX0 P w K mg base ["value", "kind", "check"] "is_operation" (defScope s_is_operation) f cdv A outer s H E).nox (defBody s_is_operation) t ∧ Run K t (rho0 3 [x]) μ (fun _ => W.bl (opB d) = .non) (fun e => e = W.bl (opB d)) := by
        intro n y Wf hn D hp hw
        obtain ⟨f1, fd1, h1, g1, kp1, b1⟩ := D.ex
        obtain ⟨f2, g2, hkv⟩ := hvals _ hp
        have ef : f1 = f2 := by
          have q := g1.symm.trans g2
          cases q
          rfl
        subst ef
        refine ⟨_, pss_cons (ps_set (i := 1) sc_is_operation.nd rfl (Or.inl rfl) (pe_callD D_kind_of (hr.mono (by decide)) rfl (pa_cons (pv 0) pa_nil)))
          (pss_cons (ps_if (pt_cmpR (op_notInK T) (pv 1) (pe_glob (v := V.ref aA) rfl gA rfl) (by rfl)) (pss_one (ps_ret pe_bl)) pss_nil)
          (pss_cons (ps_set (i := 2) sc_is_operation.nd rfl (Or.inl rfl) (pe_ix ix_kdict (pe_glob (v := V.ref aA) rfl gA rfl) (pv 1) (fun _ _ => rfl)))
          (pss_one (ps_ret (pe_callL (i := 2) (E := E0) h1 (hr.mono hn) rfl (Or.inl rfl) kp1 b1 .nil pass0 (pa_cons (pv 0) pa_nil)))))), ?_⟩
        refine run_set (ed_call (es_cons (ed_var rfl) es_nil) (W_kind_of.mk z k)) ?_
        refine run_ifs (ec_test (ed_notInK T (ed_var rfl))) (fun cc => ?_) (fun cc => run_nexts ?_)
        · rw [keyIs, decide_eq_true hin] at cc
          cases cc
        · exact run_disp T hkv (ed_var rfl) (Nat.lt_of_lt_of_le (by decide : 2 < 3) (Nat.le_of_eq rfl)) (es_cons (ed_var rfl) es_nil) hw rfl
      have hin2 := hin
      simp only [List.mem_cons, List.not_mem_nil, or_false] at hin2
      rcases hin2 with hk | hk | hk | hk | hk
      · obtain ⟨r, rfl⟩ := kind_tup hk (by decide +kernel)
        cases z with
        | tup zs =>
          have q := W__is_key_alone.mk zs (okD_tup k)
          have e : keyAloneB (.str "get" :: r) = opB (.tuple (.str "get" :: r)) := by
            unfold opB
            rw [hk]
            rfl
          rw [e] at q
          exact go 2 "_is_key_alone" W__is_key_alone (by decide) D__is_key_alone (by rw [hk]; simp) q
      · obtain ⟨r, rfl⟩ := kind_tup hk (by decide +kernel)
        cases z with
        | tup zs =>
          have q := W__is_put.mk zs (okD_tup k)
          have e : putB (.str "put" :: r) = opB (.tuple (.str "put" :: r)) := by
            unfold opB
            rw [hk]
            rfl
          rw [e] at q
          exact go 3 "_is_put" W__is_put (by decide) D__is_put (by rw [hk]; simp) q
      · obtain ⟨r, rfl⟩ := kind_tup hk (by decide +kernel)
        cases z with
        | tup zs =>
          have q := W__is_key_alone.mk zs (okD_tup k)
          have e : keyAloneB (.str "drop" :: r) = opB (.tuple (.str "drop" :: r)) := by
            unfold opB
            rw [hk]
            rfl
          rw [e] at q
          exact go 2 "_is_key_alone" W__is_key_alone (by decide) D__is_key_alone (by rw [hk]; simp) q
      · obtain ⟨r, rfl⟩ := kind_tup hk (by decide +kernel)
        cases z with
        | tup zs =>
          have q := W__is_swap.mk zs (okD_tup k)
          have e : swapB (.str "swap" :: r) = opB (.tuple (.str "swap" :: r)) := by
            unfold opB
            rw [hk]
            rfl
          rw [e] at q
          exact go 3 "_is_swap" W__is_swap (by decide) D__is_swap (by rw [hk]; simp) q
      · obtain ⟨r, rfl⟩ := kind_tup hk (by decide +kernel)
        cases z with
        | tup zs =>
          have q := W__is_page.mk zs (okD_tup k)
          have e : pageOpB (.str "page" :: r) = opB (.tuple (.str "page" :: r)) := by
            unfold opB
            rw [hk]
            rfl
          rw [e] at q
          exact go 3 "_is_page" W__is_page (by decide) D__is_page (by rw [hk]; simp) q
    · refine ⟨_, pss_cons (ps_set (i := 1) sc_is_operation.nd rfl (Or.inl rfl) (pe_callD D_kind_of (hr.mono (by decide)) rfl (pa_cons (pv 0) pa_nil)))
        (pss_cons (ps_if (pt_cmpR (op_notInK T) (pv 1) (pe_glob (v := V.ref aA) rfl gA rfl) (by rfl)) (pss_one (ps_ret pe_bl)) pss_nil) pss_never), ?_⟩
      refine run_set (ed_call (es_cons (ed_var rfl) es_nil) (W_kind_of.mk z k)) ?_
      refine run_ifs (ec_test (ed_notInK T (ed_var rfl))) (fun cc => ?_) (fun cc => ?_)
      · refine run_ret ed_bl ?_
        have e : opB d = false := by
          simp only [List.mem_cons, List.not_mem_nil, or_false, not_or] at hin
          obtain ⟨h1, h2, h3, h4, h5⟩ := hin
          unfold opB
          rw [if_neg (fun q => q.elim h1 h3), if_neg h2, if_neg h4, if_neg h5]
        rw [e]
      · rw [keyIs, decide_eq_false hin] at cc
        cases cc

theorem sc_is_server : FnScope ["count", "value"] ["count", "value"] (defScope s_is_server) := ⟨rfl, rfl, rfl, by decide +kernel, rfl, by decide +kernel, by decide +kernel⟩
theorem ok_is_server {f : Addr} {fd : FuncData} (F : FnP K "is_server" s_is_server f fd) (g : mg "is_server" = some (.ref f))
    (D_is_integer : Def P w K mg base 1 "is_integer" ["value", "least", "greatest"] (spP K W_is_integer)) : Def P w K mg base 2 "is_server" ["count", "value"] (spP K W_is_server) := by
  refine def_mk F g (F.bindsN fun _ _ _ _ _ _ us hl => match us, hl with | [_, _], _ => rfl) (fn_pure F sc_is_server ?_ ?_)
  · rintro _ _ _ ⟨⟩
    rfl
  · intro ds μ d W
    cases W
    rename_i x d c z
    intro cdv A outer s H E hr
    refine ⟨_, pss_one (ps_ret (pe_callD D_is_integer (hr.mono (by decide)) rfl (pa_cons (pv 1) (pa_cons pe_int (pa_cons (pe_op op_sub (pv 0) pe_int) pa_nil))))), ?_⟩
    exact run_ret (ed_call (es_cons (ed_var rfl) (es_cons ed_int (es_cons (ed_sub (ed_var rfl) ed_int) es_nil))) (W_is_integer.mk z)) rfl

theorem sc_is_client : FnScope ["value"] ["value"] (defScope s_is_client) := ⟨rfl, rfl, rfl, by decide +kernel, rfl, by decide +kernel, by decide +kernel⟩
theorem ok_is_client {f : Addr} {fd : FuncData} (F : FnP K "is_client" s_is_client f fd) (g : mg "is_client" = some (.ref f))
    (D_is_integer : Def P w K mg base 1 "is_integer" ["value", "least", "greatest"] (spP K W_is_integer)) (c_MOST_CLIENTS : ∃ t, mg "MOST_CLIENTS" = some (.int 100 t)) : Def P w K mg base 2 "is_client" ["value"] (spP K W_is_client) := by
  refine def_mk F g (F.bindsN fun _ _ _ _ _ _ us hl => match us, hl with | [_], _ => rfl) (fn_pure F sc_is_client ?_ ?_)
  · rintro _ _ _ ⟨⟩
    rfl
  · intro ds μ d W
    cases W
    rename_i x d z
    intro cdv A outer s H E hr
    refine ⟨_, pss_one (ps_ret (pe_callD D_is_integer (hr.mono (by decide)) rfl (pa_cons (pv 0) (pa_cons (pe_un un_neg (pe_glob (v := V.int 100) rfl c_MOST_CLIENTS.choose_spec ⟨_, rfl⟩)) (pa_cons (pe_un un_neg pe_int) pa_nil))))), ?_⟩
    exact run_ret (ed_call (es_cons (ed_var rfl) (es_cons (ed_neg ed_int) (es_cons (ed_neg ed_int) es_nil))) (W_is_integer.mk z)) rfl

theorem sc_is_pairs : FnScope ["low", "high", "value", "key", "_"] ["low", "high", "value"] (defScope s_is_pairs) := ⟨rfl, rfl, rfl, by decide +kernel, rfl, by decide +kernel, by decide +kernel⟩
theorem ok_is_pairs {f : Addr} {fd : FuncData} (F : FnP K "is_pairs" s_is_pairs f fd) (g : mg "is_pairs" = some (.ref f))
    (D_are_pairs : Def P w K mg base 4 "are_pairs" ["value"] (spP K W_are_pairs)) (D_contains : Def P w K mg base 2 "contains" ["low", "high", "bound"] (spP K W_contains)) : Def P w K mg base 5 "is_pairs" ["low", "high", "value"] (spP K W_is_pairs) := by
  refine def_mk F g (F.bindsN fun _ _ _ _ _ _ us hl => match us, hl with | [_, _, _], _ => rfl) (fn_pure F sc_is_pairs ?_ ?_)
  · rintro _ _ _ ⟨⟩
    rfl
  · intro ds μ d W
    cases W
    rename_i a hi x d k z
    intro cdv A outer s H E hr
    refine ⟨_, pss_cons (ps_if (pt_not (pt_val (pe_callD D_are_pairs (hr.mono (by decide)) rfl (pa_cons (pv 2) pa_nil)))) (pss_one (ps_ret pe_bl)) pss_nil)
      (pss_cons (ps_for PassesOwn.never rfl (pi_tup (pv 2)) (pg_tup (by rfl) (pgs_cons (pg_name (i := 3) sc_is_pairs.nd rfl (Or.inl rfl)) (pgs_cons (pg_name (i := 4) sc_is_pairs.nd rfl (Or.inl rfl)) pgs_nil))) (pss_one (ps_if (pt_not (pt_val (pe_callD D_contains (hr.mono (by decide)) rfl (pa_cons (pv 0) (pa_cons (pv 1) (pa_cons (pv 3) pa_nil)))))) (pss_one (ps_ret pe_bl)) pss_nil)))
      (pss_one (ps_ret pe_bl))), ?_⟩
    refine run_ifs (ec_not (ec_val (ed_call (es_cons (ed_var rfl) es_nil) (W_are_pairs.mk z k)))) (fun c => ?_) (fun c => run_nexts ?_)
    · refine run_retS ed_bl ?_
      unfold pairsInB
      rw [nt c]
      rfl
    · have hp : pairsB d = true := nn c
      cases d with
      | tuple ds =>
        cases z with
        | @tup ws _ zs =>
        have hl := dw_len zs
        have hall : ∀ (ds : List PyData) (last : Str), pairsFrom last ds = true → ∀ p ∈ ds, pairB p = true := by
          intro ds
          induction ds with
          | nil => intro _ _ p hp; cases hp
          | cons e r ih =>
            intro last h p hp
            have h' : (pairB e && (Pd.sLt last (headK e) && pairsFrom (headK e) r)) = true := h
            obtain ⟨h1, h2⟩ := Bool.and_eq_true_iff.mp h'
            rcases List.mem_cons.mp hp with q | q
            · rw [q]
              exact h1
            · exact ih _ (Bool.and_eq_true_iff.mp h2).2 p q
        have hpp := hall ds "" hp
        have hin : pairsInB a hi (.tuple ds) = ds.all fun p => containsF a hi (headK p) := by
          unfold pairsInB
          rw [hp]
          rfl
        refine run_forP (ed_var rfl) (fun i ρ => ∃ x1 x2, ρ = [some (.str a), some (oW hi), some (.tup ws), x1, x2] ∧ (ds.drop i).all (fun p => containsF a hi (headK p)) = ds.all fun p => containsF a hi (headK p)) ⟨none, none, rfl, rfl⟩ (fun i x ρ hi2 hI => ?_) (fun ρ hI => ?_)
        · obtain ⟨x1, x2, rfl, hd⟩ := hI
          obtain ⟨di, hdi, zi⟩ := dw_to i zs hi2
          have hdrop : ds.drop i = di :: ds.drop (i + 1) := by
            obtain ⟨h1, h2⟩ := List.getElem?_eq_some_iff.mp hdi
            rw [List.drop_eq_getElem_cons h1, h2]
          obtain ⟨kk, v, rfl, _, _⟩ := pairB_iff.mp (hpp di (List.mem_of_getElem? hdi))
          cases zi with
          | tup zz =>
          cases zz with
          | cons za zb =>
          cases za
          cases zb with
          | cons zc zd =>
          cases zd
          rw [hdrop, List.all_cons] at hd
          refine ⟨_, _, rfl, ?_⟩
          refine run_if (ec_not (ec_val (ed_call (es_cons (ed_var rfl) (es_cons (ed_var rfl) (es_cons (ed_var rfl) es_nil))) W_contains.mk))) (fun c => ?_) (fun c => run_next ⟨_, _, rfl, ?_⟩)
          · refine run_ret ed_bl ?_
            rw [hin, ← hd]
            show W.bl false = W.bl (containsF a hi kk && _)
            rw [nt c]
            rfl
          · rw [← hd]
            show _ = (containsF a hi kk && _)
            rw [nn c]
            rfl
        · obtain ⟨x1, x2, rfl, hd⟩ := hI
          refine run_ret ed_bl ?_
          rw [hin, ← hd, hl, List.drop_length]
          rfl
      | _ => cases hp

theorem sc_is_number : FnScope ["value"] ["value"] (defScope s_is_number) := ⟨rfl, rfl, rfl, by decide +kernel, rfl, by decide +kernel, by decide +kernel⟩
theorem ok_is_number {f : Addr} {fd : FuncData} (F : FnP K "is_number" s_is_number f fd) (g : mg "is_number" = some (.ref f))
    (D_is_integer : Def P w K mg base 1 "is_integer" ["value", "least", "greatest"] (spP K W_is_integer)) (c_MOST_NUMBER : ∃ t, mg "MOST_NUMBER" = some (.int 1000000000000 t)) : Def P w K mg base 2 "is_number" ["value"] (spP K W_is_number) := by
  refine def_mk F g (F.bindsN fun _ _ _ _ _ _ us hl => match us, hl with | [_], _ => rfl) (fn_pure F sc_is_number ?_ ?_)
  · rintro _ _ _ ⟨⟩
    rfl
  · intro ds μ d W
    cases W
    rename_i x d z
    intro cdv A outer s H E hr
    refine ⟨_, pss_one (ps_ret (pe_callD D_is_integer (hr.mono (by decide)) rfl (pa_cons (pv 0) (pa_cons pe_int (pa_cons (pe_glob (v := V.int 1000000000000) rfl c_MOST_NUMBER.choose_spec ⟨_, rfl⟩) pa_nil))))), ?_⟩
    exact run_ret (ed_call (es_cons (ed_var rfl) (es_cons ed_int (es_cons ed_int es_nil))) (W_is_integer.mk z)) rfl

theorem sc__is_row : FnScope ["value", "client", "number", "answer"] ["value"] (defScope s__is_row) := ⟨rfl, rfl, rfl, by decide +kernel, rfl, by decide +kernel, by decide +kernel⟩
theorem ok__is_row {f : Addr} {fd : FuncData} (F : FnP K "_is_row" s__is_row f fd) (g : mg "_is_row" = some (.ref f))
    (z_len : mg "len" = none) (z_isinstance : mg "isinstance" = none) (z_tuple : mg "tuple" = none) (D_is_answer : Def P w K mg base 6 "is_answer" ["value"] (spP K W_is_answer)) (D_is_number : Def P w K mg base 2 "is_number" ["value"] (spP K W_is_number)) (D_is_client : Def P w K mg base 2 "is_client" ["value"] (spP K W_is_client)) : Def P w K mg base 7 "_is_row" ["value"] (spP K W__is_row) := by
  refine def_mk F g (F.bindsN fun _ _ _ _ _ _ us hl => match us, hl with | [_], _ => rfl) (fn_pure F sc__is_row ?_ ?_)
  · rintro _ _ _ ⟨⟩
    rfl
  · intro ds μ d W
    cases W
    rename_i x d k z
    intro cdv A outer s H E hr
    refine ⟨_, pss_cons (ps_if (PW.pt (pw_or (pt_not (pt_val (pe_callB call_isi (by rfl) z_isinstance (by decide +kernel) (pa_cons (pv 0) (pa_cons (pe_bltn (v := V.ty "tuple") (by rfl) z_tuple (by decide +kernel) rfl) pa_nil))))) (pw_or1 (pt_cmpR op_ne (pe_callB cr_len (by rfl) z_len (by decide +kernel) (pa_cons (pv 0) pa_nil)) pe_int (nomark _))))) (pss_one (ps_ret pe_bl)) pss_nil)
      (pss_cons (ps_asg (pv 0) (pg_tup (by rfl) (pgs_cons (pg_name (i := 1) sc__is_row.nd rfl (Or.inl rfl)) (pgs_cons (pg_name (i := 2) sc__is_row.nd rfl (Or.inl rfl)) (pgs_cons (pg_name (i := 3) sc__is_row.nd rfl (Or.inl rfl)) pgs_nil)))))
      (pss_one (ps_ret (pe_and (pe_callD D_is_client (hr.mono (by decide)) rfl (pa_cons (pv 1) pa_nil)) (pe_and (pe_callD D_is_number (hr.mono (by decide)) rfl (pa_cons (pv 2) pa_nil)) (pe_one (pe_callD D_is_answer (hr.mono (by decide)) rfl (pa_cons (pv 3) pa_nil)))))))), ?_⟩
    by_cases hs : (Pd.tyN d == "tuple") = true
    · obtain ⟨ds, rfl⟩ := is_tuple hs
      have kd := okD_tup k
      cases z with
      | @tup ws _ zs =>
      have hl := dw_len zs
      refine run_ifs (ec_or (ec_not (ec_val (ed_isTuple (ed_var rfl) (.tup zs)))) fun _ => ec_test (ed_neI (ed_lenT (es_cons (ed_var rfl) es_nil)) ed_int)) (fun c => ?_) (fun c => run_nexts ?_)
      · refine run_retS ed_bl ?_
        have c2 : (!decide ((ws.length : Int) = 3)) = true := c
        have n3 : ¬ (ws.length : Int) = 3 := of_decide_eq_false (nt c2)
        have q : rowB (.tuple ds) = false := by
          unfold rowB
          split
          · rename_i e
            cases e
            rw [hl] at n3
            exact absurd rfl n3
          · rfl
        rw [q]
      · have c2 : (!decide ((ws.length : Int) = 3)) = false := c
        have h3 : (ws.length : Int) = 3 := of_decide_eq_true (nn c2)
        match ws, ds, zs, kd, hl, h3 with
        | [w1, w2, w3], [d1, d2, d3], .cons z1 (.cons z2 (.cons z3 .nil)), kd, _, _ =>
          have k3 : okD d3 := okDs_at (i := 2) kd rfl
          refine run_triple (ed_var rfl) ?_
          exact run_ret (ed_and (ed_call (es_cons (ed_var rfl) es_nil) (W_is_client.mk z1)) fun _ => ed_and (ed_call (es_cons (ed_var rfl) es_nil) (W_is_number.mk z2)) fun _ => ed_call (es_cons (ed_var rfl) es_nil) (W_is_answer.mk z3 k3)) rfl
        | [], _, _, _, _, q => exact absurd q (by decide)
        | [_], _, _, _, _, q => exact absurd q (by simp)
        | [_, _], _, _, _, _, q => exact absurd q (by simp)
        | _ :: _ :: _ :: _ :: r, _, _, _, _, q => simp at q; omega
    · have hs' := Bool.eq_false_iff.mpr hs
      refine run_ifs (ec_or (b := true) (ec_not (ec_val (ed_isTuple (ed_var rfl) z))) fun h => ?_) (fun c => ?_) (fun c => ?_)
      · rw [hs'] at h
        cases h
      · refine run_retS ed_bl ?_
        cases d <;> first | rfl | exact absurd hs' (show ¬ ("tuple" == "tuple") = false by decide)
      · rw [Bool.or_true] at c
        cases c

theorem sc_is_rows : FnScope ["value", "last", "row"] ["value"] (defScope s_is_rows) := ⟨rfl, rfl, rfl, by decide +kernel, rfl, by decide +kernel, by decide +kernel⟩
theorem ok_is_rows {f : Addr} {fd : FuncData} (F : FnP K "is_rows" s_is_rows f fd) (g : mg "is_rows" = some (.ref f))
    (z_isinstance : mg "isinstance" = none) (z_tuple : mg "tuple" = none) (D__is_row : Def P w K mg base 7 "_is_row" ["value"] (spP K W__is_row)) : Def P w K mg base 8 "is_rows" ["value"] (spP K W_is_rows) := by
  refine def_mk F g (F.bindsN fun _ _ _ _ _ _ us hl => match us, hl with | [_], _ => rfl) (fn_pure F sc_is_rows ?_ ?_)
  · rintro _ _ _ ⟨⟩
    rfl
  · intro ds μ d W
    cases W
    rename_i x d k z
    intro cdv A outer s H E hr
    refine ⟨_, pss_cons (ps_if (pt_not (pt_val (pe_callB call_isi (by rfl) z_isinstance (by decide +kernel) (pa_cons (pv 0) (pa_cons (pe_bltn (v := V.ty "tuple") (by rfl) z_tuple (by decide +kernel) rfl) pa_nil))))) (pss_one (ps_ret pe_bl)) pss_nil)
      (pss_cons (ps_set (i := 1) sc_is_rows.nd rfl (Or.inl rfl) pe_non)
      (pss_cons (ps_for PassesOwn.never rfl (pi_tup (pv 0)) (pg_name (i := 2) sc_is_rows.nd rfl (Or.inl rfl)) (pss_cons (ps_if (PW.pt (pw_or (pt_not (pt_val (pe_callD D__is_row (hr.mono (by decide)) rfl (pa_cons (pv 2) pa_nil)))) (pw_or1 (PW.pt (pw_and (pt_cmpR op_notNo (pv 1) pe_non (nomark _)) (pw_and1 (pt_cmpR op_le (pe_ix ix_tup (pv 2) pe_int (fun _ _ => rfl)) (pv 1) (nomark _)))))))) (pss_one (ps_ret pe_bl)) pss_nil)
      (pss_one (ps_set (i := 1) sc_is_rows.nd rfl (Or.inl rfl) (pe_ix ix_tup (pv 2) pe_int (fun _ _ => rfl))))))
      (pss_one (ps_ret pe_bl)))), ?_⟩
    by_cases hs : (Pd.tyN d == "tuple") = true
    · obtain ⟨ds, rfl⟩ := is_tuple hs
      have kd := okD_tup k
      cases z with
      | @tup ws _ zs =>
      have hl := dw_len zs
      refine run_ifs (ec_not (ec_val (ed_isTuple (ed_var rfl) (.tup zs)))) (fun c => by cases c) (fun c => run_nexts ?_)
      refine run_set ed_non ?_
      refine run_forT (ed_var rfl) (fun i ρ => ∃ (last : Option Int) (x : Option W), ρ = [some (.tup ws), some (oI last), x] ∧ rowsFrom last (ds.drop i) = rowsFrom none ds) ⟨none, none, rfl, rfl⟩ (fun i x ρ hi hI => ?_) (fun ρ hI => ?_)
      · obtain ⟨last, x0, rfl, hp⟩ := hI
        obtain ⟨di, hd, zi⟩ := dw_to i zs hi
        have ki := okDs_at kd hd
        have hdrop : ds.drop i = di :: ds.drop (i + 1) := by
          obtain ⟨h1, h2⟩ := List.getElem?_eq_some_iff.mp hd
          rw [List.drop_eq_getElem_cons h1, h2]
        rw [hdrop] at hp
        by_cases hb : rowB di = true
        · obtain ⟨cl, b, e, rfl⟩ : ∃ cl b e, di = .tuple [.int cl, b, e] := by
            unfold rowB at hb
            split at hb
            · rename_i a b e
              cases a with
              | int cl => exact ⟨cl, b, e, rfl⟩
              | _ => cases hb
            · cases hb
          have zi0 := zi
          cases zi with
          | tup zz =>
          cases zz with
          | cons za zb =>
          cases za
          cases last with
          | none =>
            have hp2 : ((rowB (.tuple [.int cl, b, e]) && true) && rowsFrom (some cl) (ds.drop (i + 1))) = rowsFrom none ds := hp
            refine run_ifs (ec_or (b := false) (ec_not (ec_val (ed_call (es_cons (ed_var rfl) es_nil) (W__is_row.mk zi0 ki)))) fun _ => ec_and (b := false) (ec_test (ed_notN (x := W.non) (ed_var rfl))) fun h => absurd (show false = true from h) Bool.false_ne_true) (fun c => ?_) (fun c => run_nexts ?_)
            · rw [hb] at c
              cases c
            · refine run_asg (ed_ixT (ed_var rfl) ed_int (by decide) rfl) ⟨some cl, _, rfl, ?_⟩
              rw [← hp2, hb]
              rfl
          | some l =>
            have hp2 : ((rowB (.tuple [.int cl, b, e]) && decide (l < cl)) && rowsFrom (some cl) (ds.drop (i + 1))) = rowsFrom none ds := hp
            refine run_ifs (ec_or (ec_not (ec_val (ed_call (es_cons (ed_var rfl) es_nil) (W__is_row.mk zi0 ki)))) fun _ => ec_and (ec_test (ed_notN (ed_var rfl))) fun _ => ec_test (ed_le (ed_ixT (ed_var rfl) ed_int (by decide) rfl) (ed_var rfl))) (fun c => ?_) (fun c => run_nexts ?_)
            · rw [hb] at c
              have c2 : decide (cl ≤ l) = true := c
              have c3 := of_decide_eq_true c2
              refine run_ret ed_bl ?_
              show W.bl false = W.bl (rowsFrom none ds)
              rw [← hp2, hb, decide_eq_false (show ¬ l < cl by omega)]
              rfl
            · rw [hb] at c
              have c2 : decide (cl ≤ l) = false := c
              have c3 := of_decide_eq_false c2
              refine run_asg (ed_ixT (ed_var rfl) ed_int (by decide) rfl) ⟨some cl, _, rfl, ?_⟩
              rw [← hp2, hb, decide_eq_true (show l < cl by omega)]
              rfl
        · have hb' := Bool.eq_false_iff.mpr hb
          have hf : rowsFrom none ds = false := by
            rw [← hp]
            show ((rowB di && _) && _) = false
            rw [hb']
            rfl
          cases last with
          | none =>
            refine run_ifs (ec_or (b := false) (ec_not (ec_val (ed_call (es_cons (ed_var rfl) es_nil) (W__is_row.mk zi ki)))) fun h => absurd (show (!rowB di) = false from h) (by rw [hb']; decide)) (fun c => ?_) (fun c => ?_)
            · refine run_ret ed_bl ?_
              show W.bl false = W.bl (rowsFrom none ds)
              rw [hf]
            · rw [hb'] at c
              cases c
          | some l =>
            refine run_ifs (ec_or (b := false) (ec_not (ec_val (ed_call (es_cons (ed_var rfl) es_nil) (W__is_row.mk zi ki)))) fun h => absurd (show (!rowB di) = false from h) (by rw [hb']; decide)) (fun c => ?_) (fun c => ?_)
            · refine run_ret ed_bl ?_
              show W.bl false = W.bl (rowsFrom none ds)
              rw [hf]
            · rw [hb'] at c
              cases c
      · obtain ⟨last, x0, rfl, hp⟩ := hI
        refine run_ret ed_bl ?_
        show W.bl true = W.bl (rowsFrom none ds)
        rw [← hp, hl, List.drop_length]
        rfl
    · have hs' := Bool.eq_false_iff.mpr hs
      refine run_ifs (ec_not (ec_val (ed_isTuple (ed_var rfl) z))) (fun c => ?_) (fun c => ?_)
      · refine run_ret ed_bl ?_
        cases d <;> first | rfl | exact absurd hs' (show ¬ ("tuple" == "tuple") = false by decide)
      · rw [hs'] at c
        cases c

theorem sc__is_ask : FnScope ["count", "letter"] ["count", "letter"] (defScope s__is_ask) := ⟨rfl, rfl, rfl, by decide +kernel, rfl, by decide +kernel, by decide +kernel⟩
theorem ok__is_ask {f : Addr} {fd : FuncData} (F : FnP K "_is_ask" s__is_ask f fd) (g : mg "_is_ask" = some (.ref f))
    (D_is_operation : Def P w K mg base 4 "is_operation" ["value"] (spP K W_is_operation)) (D_is_number : Def P w K mg base 2 "is_number" ["value"] (spP K W_is_number)) (z_len : mg "len" = none) : Def P w K mg base 5 "_is_ask" ["count", "letter"] (spP K W__is_ask) := by
  refine def_mk F g (F.bindsN fun _ _ _ _ _ _ us hl => match us, hl with | [_, _], _ => rfl) (fn_pure F sc__is_ask ?_ ?_)
  · rintro _ _ _ ⟨⟩
    rfl
  · intro ds μ d W
    cases W
    rename_i c ws ds k z
    intro cdv A outer s H E hr
    refine ⟨_, pss_one (ps_ret (pe_and (pe_cmpR op_eq (pe_callB cr_len (by rfl) z_len (by decide +kernel) (pa_cons (pv 1) pa_nil)) pe_int (nomark _)) (pe_and (pe_callD D_is_number (hr.mono (by decide)) rfl (pa_cons (pe_ix ix_tup (pv 1) pe_int (fun _ _ => rfl)) pa_nil)) (pe_one (pe_callD D_is_operation (hr.mono (by decide)) rfl (pa_cons (pe_ix ix_tup (pv 1) pe_int (fun _ _ => rfl)) pa_nil)))))), ?_⟩
    refine run_ret (ed_and (ed_eqI (ed_lenT (es_cons (ed_var rfl) es_nil)) ed_int) fun h => (ed_and (ed_call (es_cons (ed_at 1 (ed_var rfl) ed_int h) es_nil) (W_is_number.mk (dw_nth 1 z))) fun _ => (ed_call (es_cons (ed_at 2 (ed_var rfl) ed_int h) es_nil) (W_is_operation.mk (dw_nth 2 z) (ok_nth 2 k))))) ?_
    unfold askB
    rw [dw_len z]

theorem sc__is_where : FnScope ["count", "letter"] ["count", "letter"] (defScope s__is_where) := ⟨rfl, rfl, rfl, by decide +kernel, rfl, by decide +kernel, by decide +kernel⟩
theorem ok__is_where {f : Addr} {fd : FuncData} (F : FnP K "_is_where" s__is_where f fd) (g : mg "_is_where" = some (.ref f))
    (D_is_bound : Def P w K mg base 2 "is_bound" ["value"] (spP K W_is_bound)) (z_len : mg "len" = none) : Def P w K mg base 3 "_is_where" ["count", "letter"] (spP K W__is_where) := by
  refine def_mk F g (F.bindsN fun _ _ _ _ _ _ us hl => match us, hl with | [_, _], _ => rfl) (fn_pure F sc__is_where ?_ ?_)
  · rintro _ _ _ ⟨⟩
    rfl
  · intro ds μ d W
    cases W
    rename_i c ws ds k z
    intro cdv A outer s H E hr
    refine ⟨_, pss_one (ps_ret (pe_and (pe_cmpR op_eq (pe_callB cr_len (by rfl) z_len (by decide +kernel) (pa_cons (pv 1) pa_nil)) pe_int (nomark _)) (pe_one (pe_callD D_is_bound (hr.mono (by decide)) rfl (pa_cons (pe_ix ix_tup (pv 1) pe_int (fun _ _ => rfl)) pa_nil))))), ?_⟩
    refine run_ret (ed_and (ed_eqI (ed_lenT (es_cons (ed_var rfl) es_nil)) ed_int) fun h => (ed_call (es_cons (ed_at 1 (ed_var rfl) ed_int h) es_nil) (W_is_bound.mk (dw_nth 1 z) (ok_nth 1 k)))) ?_
    unfold whereB
    rw [dw_len z]

theorem sc__is_told : FnScope ["count", "letter"] ["count", "letter"] (defScope s__is_told) := ⟨rfl, rfl, rfl, by decide +kernel, rfl, by decide +kernel, by decide +kernel⟩
theorem ok__is_told {f : Addr} {fd : FuncData} (F : FnP K "_is_told" s__is_told f fd) (g : mg "_is_told" = some (.ref f))
    (D_is_answer : Def P w K mg base 6 "is_answer" ["value"] (spP K W_is_answer)) (D_is_number : Def P w K mg base 2 "is_number" ["value"] (spP K W_is_number)) (z_len : mg "len" = none) : Def P w K mg base 7 "_is_told" ["count", "letter"] (spP K W__is_told) := by
  refine def_mk F g (F.bindsN fun _ _ _ _ _ _ us hl => match us, hl with | [_, _], _ => rfl) (fn_pure F sc__is_told ?_ ?_)
  · rintro _ _ _ ⟨⟩
    rfl
  · intro ds μ d W
    cases W
    rename_i c ws ds k z
    intro cdv A outer s H E hr
    refine ⟨_, pss_one (ps_ret (pe_and (pe_cmpR op_eq (pe_callB cr_len (by rfl) z_len (by decide +kernel) (pa_cons (pv 1) pa_nil)) pe_int (nomark _)) (pe_and (pe_callD D_is_number (hr.mono (by decide)) rfl (pa_cons (pe_ix ix_tup (pv 1) pe_int (fun _ _ => rfl)) pa_nil)) (pe_one (pe_callD D_is_answer (hr.mono (by decide)) rfl (pa_cons (pe_ix ix_tup (pv 1) pe_int (fun _ _ => rfl)) pa_nil)))))), ?_⟩
    refine run_ret (ed_and (ed_eqI (ed_lenT (es_cons (ed_var rfl) es_nil)) ed_int) fun h => (ed_and (ed_call (es_cons (ed_at 1 (ed_var rfl) ed_int h) es_nil) (W_is_number.mk (dw_nth 1 z))) fun _ => (ed_call (es_cons (ed_at 2 (ed_var rfl) ed_int h) es_nil) (W_is_answer.mk (dw_nth 2 z) (ok_nth 2 k))))) ?_
    unfold tellB
    rw [dw_len z]

theorem sc__is_elsewhere : FnScope ["count", "letter"] ["count", "letter"] (defScope s__is_elsewhere) := ⟨rfl, rfl, rfl, by decide +kernel, rfl, by decide +kernel, by decide +kernel⟩
theorem ok__is_elsewhere {f : Addr} {fd : FuncData} (F : FnP K "_is_elsewhere" s__is_elsewhere f fd) (g : mg "_is_elsewhere" = some (.ref f))
    (D_is_number : Def P w K mg base 2 "is_number" ["value"] (spP K W_is_number)) (z_len : mg "len" = none) : Def P w K mg base 3 "_is_elsewhere" ["count", "letter"] (spP K W__is_elsewhere) := by
  refine def_mk F g (F.bindsN fun _ _ _ _ _ _ us hl => match us, hl with | [_, _], _ => rfl) (fn_pure F sc__is_elsewhere ?_ ?_)
  · rintro _ _ _ ⟨⟩
    rfl
  · intro ds μ d W
    cases W
    rename_i c ws ds k z
    intro cdv A outer s H E hr
    refine ⟨_, pss_one (ps_ret (pe_and (pe_cmpR op_eq (pe_callB cr_len (by rfl) z_len (by decide +kernel) (pa_cons (pv 1) pa_nil)) pe_int (nomark _)) (pe_one (pe_callD D_is_number (hr.mono (by decide)) rfl (pa_cons (pe_ix ix_tup (pv 1) pe_int (fun _ _ => rfl)) pa_nil))))), ?_⟩
    refine run_ret (ed_and (ed_eqI (ed_lenT (es_cons (ed_var rfl) es_nil)) ed_int) fun h => (ed_call (es_cons (ed_at 1 (ed_var rfl) ed_int h) es_nil) (W_is_number.mk (dw_nth 1 z)))) ?_
    unfold elseB
    rw [dw_len z]

theorem sc_names_shard : FnScope ["letter", "length"] ["letter", "length"] (defScope s_names_shard) := ⟨rfl, rfl, rfl, by decide +kernel, rfl, by decide +kernel, by decide +kernel⟩
theorem ok_names_shard {f : Addr} {fd : FuncData} (F : FnP K "names_shard" s_names_shard f fd) (g : mg "names_shard" = some (.ref f))
    (D_is_number : Def P w K mg base 2 "is_number" ["value"] (spP K W_is_number)) (D_is_range : Def P w K mg base 3 "is_range" ["low", "high"] (spP K W_is_range)) (z_len : mg "len" = none) : Def P w K mg base 4 "names_shard" ["letter", "length"] (spP K W_names_shard) := by
  refine def_mk F g (F.bindsN fun _ _ _ _ _ _ us hl => match us, hl with | [_, _], _ => rfl) (fn_pure F sc_names_shard ?_ ?_)
  · rintro _ _ _ ⟨⟩
    rfl
  · intro ds μ d W
    cases W
    rename_i n ws ds hn k z
    intro cdv A outer s H E hr
    refine ⟨_, pss_one (ps_ret (pe_and (pe_cmpR op_eq (pe_callB cr_len (by rfl) z_len (by decide +kernel) (pa_cons (pv 0) pa_nil)) (pv 1) (nomark _)) (pe_and (pe_callD D_is_range (hr.mono (by decide)) rfl (pa_cons (pe_ix ix_tup (pv 0) pe_int (fun _ _ => rfl)) (pa_cons (pe_ix ix_tup (pv 0) pe_int (fun _ _ => rfl)) pa_nil))) (pe_one (pe_callD D_is_number (hr.mono (by decide)) rfl (pa_cons (pe_ix ix_tup (pv 0) pe_int (fun _ _ => rfl)) pa_nil)))))), ?_⟩
    refine run_ret (ed_and (ed_eqI (ed_lenT (es_cons (ed_var rfl) es_nil)) (ed_var rfl)) fun h => ed_and (ed_call (es_cons (ed_at 1 (ed_var rfl) ed_int h (by omega)) (es_cons (ed_at 2 (ed_var rfl) ed_int h (by omega)) es_nil)) (W_is_range.mk (dw_nth 1 z) (ok_nth 1 k) (dw_nth 2 z) (ok_nth 2 k))) fun _ => ed_call (es_cons (ed_at 3 (ed_var rfl) ed_int h (by omega)) es_nil) (W_is_number.mk (dw_nth 3 z))) ?_
    unfold shardB
    rw [dw_len z]

theorem sc__names_server : FnScope ["count", "letter"] ["count", "letter"] (defScope s__names_server) := ⟨rfl, rfl, rfl, by decide +kernel, rfl, by decide +kernel, by decide +kernel⟩
theorem ok__names_server {f : Addr} {fd : FuncData} (F : FnP K "_names_server" s__names_server f fd) (g : mg "_names_server" = some (.ref f))
    (D_is_server : Def P w K mg base 2 "is_server" ["count", "value"] (spP K W_is_server)) (D_names_shard : Def P w K mg base 4 "names_shard" ["letter", "length"] (spP K W_names_shard)) : Def P w K mg base 5 "_names_server" ["count", "letter"] (spP K W__names_server) := by
  refine def_mk F g (F.bindsN fun _ _ _ _ _ _ us hl => match us, hl with | [_, _], _ => rfl) (fn_pure F sc__names_server ?_ ?_)
  · rintro _ _ _ ⟨⟩
    rfl
  · intro ds μ d W
    cases W
    rename_i c ws ds k z
    intro cdv A outer s H E hr
    refine ⟨_, pss_one (ps_ret (pe_and (pe_callD D_names_shard (hr.mono (by decide)) rfl (pa_cons (pv 1) (pa_cons pe_int pa_nil))) (pe_one (pe_callD D_is_server (hr.mono (by decide)) rfl (pa_cons (pv 0) (pa_cons (pe_ix ix_tup (pv 1) pe_int (fun _ _ => rfl)) pa_nil)))))), ?_⟩
    exact run_ret (ed_and (ed_call (es_cons (ed_var rfl) (es_cons ed_int es_nil)) (W_names_shard.mk (by decide) z k)) fun h => ed_call (es_cons (ed_var rfl) (es_cons (ed_at 4 (ed_var rfl) ed_int (shard_len z h)) es_nil)) (W_is_server.mk (dw_nth 4 z))) rfl

theorem sc__is_split : FnScope ["count", "letter", "low", "high", "at"] ["count", "letter"] (defScope s__is_split) := ⟨rfl, rfl, rfl, by decide +kernel, rfl, by decide +kernel, by decide +kernel⟩
theorem ok__is_split {f : Addr} {fd : FuncData} (F : FnP K "_is_split" s__is_split f fd) (g : mg "_is_split" = some (.ref f))
    (D_names_shard : Def P w K mg base 4 "names_shard" ["letter", "length"] (spP K W_names_shard)) (D_below : Def P w K mg base 1 "below" ["one", "other"] (spP K W_below)) (D_is_key : Def P w K mg base 1 "is_key" ["value"] (spP K W_is_key)) : Def P w K mg base 5 "_is_split" ["count", "letter"] (spP K W__is_split) := by
  refine def_mk F g (F.bindsN fun _ _ _ _ _ _ us hl => match us, hl with | [_, _], _ => rfl) (fn_pure F sc__is_split ?_ ?_)
  · rintro _ _ _ ⟨⟩
    rfl
  · intro ds μ d W
    cases W
    rename_i c ws ds k z
    intro cdv A outer s H E hr
    refine ⟨_, pss_cons (ps_if (pt_not (pt_val (pe_callD D_names_shard (hr.mono (by decide)) rfl (pa_cons (pv 1) (pa_cons pe_int pa_nil))))) (pss_one (ps_ret pe_bl)) pss_nil)
      (pss_cons (ps_par3 (i := 2) (j := 3) (l := 4) (by rfl) sc__is_split.nd rfl rfl rfl (by decide) (by decide) (by decide) rfl rfl rfl (pa_cons (pe_ix ix_tup (pv 1) pe_int (fun _ _ => rfl)) (pa_cons (pe_ix ix_tup (pv 1) pe_int (fun _ _ => rfl)) (pa_cons (pe_ix ix_tup (pv 1) pe_int (fun _ _ => rfl)) pa_nil))) (by rfl))
      (pss_one (ps_ret (pe_and (pe_callD D_is_key (hr.mono (by decide)) rfl (pa_cons (pv 4) pa_nil)) (pe_and (pe_cmpR op_ltS (pv 2) (pv 4) (nomark _)) (pe_one (pe_callD D_below (hr.mono (by decide)) rfl (pa_cons (pv 4) (pa_cons (pv 3) pa_nil))))))))), ?_⟩
    refine run_ifs (ec_not (ec_val (ed_call (es_cons (ed_var rfl) (es_cons ed_int es_nil)) (W_names_shard.mk (by decide) z k)))) (fun c => ?_) (fun c => run_nexts ?_)
    · refine run_retS ed_bl ?_
      unfold splitB
      rw [nt c]
      rfl
    · have h : shardB 5 ds = true := nn c
      obtain ⟨e1, e2, e3⟩ := range_of (dw_nth 1 z) (dw_nth 2 z) (shard_range h)
      refine run_par3 (es_cons (ed_at 1 (ed_var rfl) ed_int (shard_len z h)) (es_cons (ed_at 2 (ed_var rfl) ed_int (shard_len z h)) (es_cons (ed_at 4 (ed_var rfl) ed_int (shard_len z h)) es_nil))) ?_
      rw [e1, e2]
      by_cases hk : keyB (at_ ds 4) = true
      · obtain ⟨y, hy⟩ : ∃ y, at_ ds 4 = .str y := by
          cases e : at_ ds 4 with
          | str y => exact ⟨y, rfl⟩
          | _ =>
            rw [e] at hk
            cases hk
        have z4 := dw_nth 4 z
        have k4 := ok_nth 4 k
        rw [hy] at z4 k4
        have ew : atW ws 4 = .str y := by
          generalize atW ws 4 = w4 at z4
          cases z4
          rfl
        rw [ew]
        refine run_ret (ed_and (ed_call (es_cons (ed_var rfl) es_nil) (W_is_key.mk .str k4)) fun _ => ed_and (ed_ltS (ed_var rfl) (ed_var rfl)) fun _ => ed_call (es_cons (ed_var rfl) (es_cons (ed_var rfl) es_nil)) (W_below.mk (a := some y))) ?_
        unfold splitB
        rw [h, hy]
        rfl
      · refine run_ret (ed_and (b := false) (ed_call (es_cons (ed_var rfl) es_nil) (W_is_key.mk (dw_nth 4 z) (ok_nth 4 k))) fun h2 => absurd h2 hk) ?_
        unfold splitB
        rw [h, Bool.eq_false_iff.mpr hk]
        rfl

theorem sc__is_join : FnScope ["count", "letter", "_", "low", "middle", "epoch", "high", "other"] ["count", "letter"] (defScope s__is_join) := ⟨rfl, rfl, rfl, by decide +kernel, rfl, by decide +kernel, by decide +kernel⟩
theorem ok__is_join {f : Addr} {fd : FuncData} (F : FnP K "_is_join" s__is_join f fd) (g : mg "_is_join" = some (.ref f))
    (z_len : mg "len" = none) (D_is_range : Def P w K mg base 3 "is_range" ["low", "high"] (spP K W_is_range)) (D_is_number : Def P w K mg base 2 "is_number" ["value"] (spP K W_is_number)) : Def P w K mg base 4 "_is_join" ["count", "letter"] (spP K W__is_join) := by
  refine def_mk F g (F.bindsN fun _ _ _ _ _ _ us hl => match us, hl with | [_, _], _ => rfl) (fn_pure F sc__is_join ?_ ?_)
  · rintro _ _ _ ⟨⟩
    rfl
  · intro ds μ d W
    cases W
    rename_i c ws ds k z
    intro cdv A outer s H E hr
    refine ⟨_, pss_cons (ps_if (pt_cmpR op_ne (pe_callB cr_len (by rfl) z_len (by decide +kernel) (pa_cons (pv 1) pa_nil)) pe_int (nomark _)) (pss_one (ps_ret pe_bl)) pss_nil)
      (pss_cons (ps_asg (pv 1) (pg_tup (by rfl) (pgs_cons (pg_name (i := 2) sc__is_join.nd rfl (Or.inl rfl)) (pgs_cons (pg_name (i := 3) sc__is_join.nd rfl (Or.inl rfl)) (pgs_cons (pg_name (i := 4) sc__is_join.nd rfl (Or.inl rfl)) (pgs_cons (pg_name (i := 5) sc__is_join.nd rfl (Or.inl rfl)) (pgs_cons (pg_name (i := 6) sc__is_join.nd rfl (Or.inl rfl)) (pgs_cons (pg_name (i := 7) sc__is_join.nd rfl (Or.inl rfl)) pgs_nil))))))))
      (pss_cons (ps_if (PW.pt (pw_or (pt_not (pt_val (pe_callD D_is_range (hr.mono (by decide)) rfl (pa_cons (pv 3) (pa_cons (pv 4) pa_nil))))) (pw_or1 (pt_not (pt_val (pe_callD D_is_range (hr.mono (by decide)) rfl (pa_cons (pv 4) (pa_cons (pv 6) pa_nil)))))))) (pss_one (ps_ret pe_bl)) pss_nil)
      (pss_one (ps_ret (pe_and (pe_callD D_is_number (hr.mono (by decide)) rfl (pa_cons (pv 5) pa_nil)) (pe_one (pe_callD D_is_number (hr.mono (by decide)) rfl (pa_cons (pv 7) pa_nil)))))))), ?_⟩
    refine run_ifs (ec_test (ed_neI (ed_lenT (es_cons (ed_var rfl) es_nil)) ed_int)) (fun c => ?_) (fun c => run_nexts ?_)
    · refine run_retS ed_bl ?_
      unfold joinB
      rw [← dw_len z, nt c]
      rfl
    · have h : decide ((ws.length : Int) = 6) = true := nn c
      have h6 : decide ((ds.length : Int) = 6) = true := by rw [← dw_len z]; exact h
      have ews : ws = [atW ws 0, atW ws 1, atW ws 2, atW ws 3, atW ws 4, atW ws 5] := by
        have h7 := of_decide_eq_true h
        match ws, h7 with
        | [a, b, c, d, e, f], _ => rfl
        | [], q => exact absurd q (by decide)
        | [_], q => exact absurd q (by simp)
        | [_, _], q => exact absurd q (by simp)
        | [_, _, _], q => exact absurd q (by simp)
        | [_, _, _, _], q => exact absurd q (by simp)
        | [_, _, _, _, _], q => exact absurd q (by simp)
        | _ :: _ :: _ :: _ :: _ :: _ :: _ :: r, q => simp at q; omega
      have z1 := dw_nth 1 z
      have z2 := dw_nth 2 z
      have z3 := dw_nth 3 z
      have z4 := dw_nth 4 z
      have z5 := dw_nth 5 z
      refine run_six (x1 := atW ws 0) (x2 := atW ws 1) (x3 := atW ws 2) (x4 := atW ws 3) (x5 := atW ws 4) (x6 := atW ws 5) (ews ▸ ed_var rfl) ?_
      refine run_ifs (ec_or (ec_not (ec_val (ed_call (es_cons (ed_var rfl) (es_cons (ed_var rfl) es_nil)) (W_is_range.mk z1 (ok_nth 1 k) z2 (ok_nth 2 k))))) fun _ => ec_not (ec_val (ed_call (es_cons (ed_var rfl) (es_cons (ed_var rfl) es_nil)) (W_is_range.mk z2 (ok_nth 2 k) z4 (ok_nth 4 k))))) (fun c => ?_) (fun c => run_nexts ?_)
      · refine run_retS ed_bl ?_
        have q : (rangeB (at_ ds 1) (at_ ds 2) && rangeB (at_ ds 2) (at_ ds 4)) = false := by
          cases h1 : rangeB (at_ ds 1) (at_ ds 2) with
          | false => rfl
          | true =>
            rw [h1] at c
            exact nt c
        unfold joinB
        rw [q, h6]
        rfl
      · have q : (rangeB (at_ ds 1) (at_ ds 2) && rangeB (at_ ds 2) (at_ ds 4)) = true := by
          cases h1 : rangeB (at_ ds 1) (at_ ds 2) with
          | false =>
            rw [h1] at c
            cases c
          | true =>
            rw [h1] at c
            exact nn c
        refine run_ret (ed_and (ed_call (es_cons (ed_var rfl) es_nil) (W_is_number.mk z3)) fun _ => ed_call (es_cons (ed_var rfl) es_nil) (W_is_number.mk z5)) ?_
        unfold joinB
        rw [q, h6]
        rfl

theorem sc__is_have : FnScope ["count", "letter"] ["count", "letter"] (defScope s__is_have) := ⟨rfl, rfl, rfl, by decide +kernel, rfl, by decide +kernel, by decide +kernel⟩
theorem ok__is_have {f : Addr} {fd : FuncData} (F : FnP K "_is_have" s__is_have f fd) (g : mg "_is_have" = some (.ref f))
    (D_is_bound : Def P w K mg base 2 "is_bound" ["value"] (spP K W_is_bound)) (D_is_integer : Def P w K mg base 1 "is_integer" ["value", "least", "greatest"] (spP K W_is_integer)) (c_MOST_NUMBER : ∃ t, mg "MOST_NUMBER" = some (.int 1000000000000 t)) (D_names_shard : Def P w K mg base 4 "names_shard" ["letter", "length"] (spP K W_names_shard)) : Def P w K mg base 5 "_is_have" ["count", "letter"] (spP K W__is_have) := by
  refine def_mk F g (F.bindsN fun _ _ _ _ _ _ us hl => match us, hl with | [_, _], _ => rfl) (fn_pure F sc__is_have ?_ ?_)
  · rintro _ _ _ ⟨⟩
    rfl
  · intro ds μ d W
    cases W
    rename_i c ws ds k z
    intro cdv A outer s H E hr
    refine ⟨_, pss_one (ps_ret (pe_and (pe_callD D_names_shard (hr.mono (by decide)) rfl (pa_cons (pv 1) (pa_cons pe_int pa_nil))) (pe_and (pe_callD D_is_integer (hr.mono (by decide)) rfl (pa_cons (pe_ix ix_tup (pv 1) pe_int (fun _ _ => rfl)) (pa_cons pe_int (pa_cons (pe_glob (v := V.int 1000000000000) rfl c_MOST_NUMBER.choose_spec ⟨_, rfl⟩) pa_nil)))) (pe_one (pe_callD D_is_bound (hr.mono (by decide)) rfl (pa_cons (pe_ix ix_tup (pv 1) pe_int (fun _ _ => rfl)) pa_nil)))))), ?_⟩
    exact run_ret (ed_and (ed_call (es_cons (ed_var rfl) (es_cons ed_int es_nil)) (W_names_shard.mk (by decide) z k)) fun h => ed_and (ed_call (es_cons (ed_at 4 (ed_var rfl) ed_int (shard_len z h)) (es_cons ed_int (es_cons ed_int es_nil))) (W_is_integer.mk (dw_nth 4 z))) fun _ => ed_call (es_cons (ed_at 5 (ed_var rfl) ed_int (shard_len z h)) es_nil) (W_is_bound.mk (dw_nth 5 z) (ok_nth 5 k))) rfl

theorem sc__is_content : FnScope ["count", "letter"] ["count", "letter"] (defScope s__is_content) := ⟨rfl, rfl, rfl, by decide +kernel, rfl, by decide +kernel, by decide +kernel⟩
theorem ok__is_content {f : Addr} {fd : FuncData} (F : FnP K "_is_content" s__is_content f fd) (g : mg "_is_content" = some (.ref f))
    (D_names_shard : Def P w K mg base 4 "names_shard" ["letter", "length"] (spP K W_names_shard)) (D_is_rows : Def P w K mg base 8 "is_rows" ["value"] (spP K W_is_rows)) (D_is_pairs : Def P w K mg base 5 "is_pairs" ["low", "high", "value"] (spP K W_is_pairs)) : Def P w K mg base 9 "_is_content" ["count", "letter"] (spP K W__is_content) := by
  refine def_mk F g (F.bindsN fun _ _ _ _ _ _ us hl => match us, hl with | [_, _], _ => rfl) (fn_pure F sc__is_content ?_ ?_)
  · rintro _ _ _ ⟨⟩
    rfl
  · intro ds μ d W
    cases W
    rename_i c ws ds k z
    intro cdv A outer s H E hr
    refine ⟨_, pss_cons (ps_if (pt_not (pt_val (pe_callD D_names_shard (hr.mono (by decide)) rfl (pa_cons (pv 1) (pa_cons pe_int pa_nil))))) (pss_one (ps_ret pe_bl)) pss_nil)
      (pss_one (ps_ret (pe_and (pe_callD D_is_pairs (hr.mono (by decide)) rfl (pa_cons (pe_ix ix_tup (pv 1) pe_int (fun _ _ => rfl)) (pa_cons (pe_ix ix_tup (pv 1) pe_int (fun _ _ => rfl)) (pa_cons (pe_ix ix_tup (pv 1) pe_int (fun _ _ => rfl)) pa_nil)))) (pe_one (pe_callD D_is_rows (hr.mono (by decide)) rfl (pa_cons (pe_ix ix_tup (pv 1) pe_int (fun _ _ => rfl)) pa_nil)))))), ?_⟩
    refine run_ifs (ec_not (ec_val (ed_call (es_cons (ed_var rfl) (es_cons ed_int es_nil)) (W_names_shard.mk (by decide) z k)))) (fun c => ?_) (fun c => run_nexts ?_)
    · refine run_retS ed_bl ?_
      unfold contB
      rw [nt c]
      rfl
    · have h : shardB 6 ds = true := nn c
      obtain ⟨e1, e2, e3⟩ := range_of (dw_nth 1 z) (dw_nth 2 z) (shard_range h)
      have v1 := trivial
      refine run_ret (ed_and (ed_call (es_cons (x := .str (strOf (at_ ds 1))) (e1 ▸ (ed_at 1 (ed_var rfl) ed_int (shard_len z h))) (es_cons (x := oW (optS (at_ ds 2))) (e2 ▸ (ed_at 2 (ed_var rfl) ed_int (shard_len z h))) (es_cons (ed_at 4 (ed_var rfl) ed_int (shard_len z h)) es_nil))) (W_is_pairs.mk (dw_nth 4 z) (ok_nth 4 k))) fun _ => ed_call (es_cons (ed_at 5 (ed_var rfl) ed_int (shard_len z h)) es_nil) (W_is_rows.mk (dw_nth 5 z) (ok_nth 5 k))) ?_
      unfold contB
      rw [h]
      rfl

theorem sc__is_receipt : FnScope ["count", "letter"] ["count", "letter"] (defScope s__is_receipt) := ⟨rfl, rfl, rfl, by decide +kernel, rfl, by decide +kernel, by decide +kernel⟩
theorem ok__is_receipt {f : Addr} {fd : FuncData} (F : FnP K "_is_receipt" s__is_receipt f fd) (g : mg "_is_receipt" = some (.ref f))
    (D_names_shard : Def P w K mg base 4 "names_shard" ["letter", "length"] (spP K W_names_shard)) : Def P w K mg base 5 "_is_receipt" ["count", "letter"] (spP K W__is_receipt) := by
  refine def_mk F g (F.bindsN fun _ _ _ _ _ _ us hl => match us, hl with | [_, _], _ => rfl) (fn_pure F sc__is_receipt ?_ ?_)
  · rintro _ _ _ ⟨⟩
    rfl
  · intro ds μ d W
    cases W
    rename_i c ws ds k z
    intro cdv A outer s H E hr
    refine ⟨_, pss_one (ps_ret (pe_callD D_names_shard (hr.mono (by decide)) rfl (pa_cons (pv 1) (pa_cons pe_int pa_nil)))), ?_⟩
    exact run_ret (ed_call (es_cons (ed_var rfl) (es_cons ed_int es_nil)) (W_names_shard.mk (by decide) z k)) rfl

theorem sc__law_bound : FnScope ["rich"] ["rich"] (defScope s__law_bound) := ⟨rfl, rfl, rfl, by decide +kernel, rfl, by decide +kernel, by decide +kernel⟩
theorem ok__law_bound {f : Addr} {fd : FuncData} (F : FnP K "_law_bound" s__law_bound f fd) (g : mg "_law_bound" = some (.ref f))
    (z_int : mg "int" = none) (D__law_key : Def P w K mg base 2 "_law_key" ["rich"] (spP K W__law_key)) : Def P w K mg base 3 "_law_bound" ["rich"] (spP K W__law_bound) := by
  refine def_mk F g (F.bindsN fun _ _ _ _ _ _ us hl => match us, hl with | [_], _ => rfl) (fn_pure F sc__law_bound ?_ ?_)
  · rintro _ _ _ ⟨⟩
    rfl
  · intro ds μ d W
    cases W
    rename_i r
    intro cdv A outer s H E hr
    refine ⟨_, pss_cons (ps_if (pt_cmpR op_eq (pe_op op_mod (pe_callTy cr_int1 (by rfl) z_int (by decide +kernel) (pa_cons (pv 0) pa_nil)) pe_int) pe_int (nomark _)) (pss_one (ps_ret pe_str)) pss_nil)
      (pss_one (ps_ret (pe_callD D__law_key (hr.mono (by decide)) rfl (pa_cons (pe_op op_fdiv (pv 0) pe_int) pa_nil)))), ?_⟩
    refine run_ifs (ec_test (ed_eqI (ed_mod (ed_toint (es_cons (ed_var rfl) es_nil)) ed_int (by decide)) ed_int)) (fun c => ?_) (fun c => ?_)
    · refine run_ret ed_str ?_
      unfold Pd.boundF
      rw [if_pos (of_decide_eq_true c)]
    · refine run_nexts ?_
      refine run_ret (ed_call (es_cons (ed_div (ed_var rfl) ed_int ⟨by decide, by decide⟩) es_nil) W__law_key.mk) ?_
      unfold Pd.boundF
      rw [if_neg (of_decide_eq_false c)]

theorem sc__law_cell : FnScope ["script", "k"] ["script", "k"] (defScope s__law_cell) := ⟨rfl, rfl, rfl, by decide +kernel, rfl, by decide +kernel, by decide +kernel⟩
theorem ok__law_cell {f : Addr} {fd : FuncData} (F : FnP K "_law_cell" s__law_cell f fd) (g : mg "_law_cell" = some (.ref f))
    (z_len : mg "len" = none) (z_int : mg "int" = none) : Def P w K mg base 1 "_law_cell" ["script", "k"] (spP K W__law_cell) := by
  refine def_mk F g (F.bindsN fun _ _ _ _ _ _ us hl => match us, hl with | [_, _], _ => rfl) (fn_pure F sc__law_cell ?_ ?_)
  · rintro _ _ _ ⟨⟩
    rfl
  · intro ds μ d W
    cases W
    rename_i a ns k h l
    intro cdv A outer s H E hr
    refine ⟨_, pss_cons (ps_if (pt_cmpR op_lt (pv 1) (pe_callB cr_len (by rfl) z_len (by decide +kernel) (pa_cons (pv 0) pa_nil)) (nomark _)) (pss_one (ps_ret (pe_callTy cr_int1 (by rfl) z_int (by decide +kernel) (pa_cons (pe_ix ix_list (pv 0) (pv 1) (fun _ _ => rfl)) pa_nil)))) pss_nil)
      (pss_one (ps_ret pe_int)), ?_⟩
    have il : isL μ a (ns.map W.int) := .inr l
    refine run_ifs (ec_test (ed_lt (ed_var rfl) (ed_lenL (es_cons (ed_var rfl) es_nil) il))) (fun c => ?_) (fun c => ?_)
    · have c' : k < ((ns.map W.int).length : Int) := of_decide_eq_true c
      rw [List.length_map] at c'
      refine run_ret (ed_toint (es_cons (ed_ixL (x := .int (ns.getD k.toNat 0)) (ed_var rfl) (ed_var rfl) il h ?_) es_nil)) ?_
      · rw [List.getElem?_map, List.getD_eq_getElem?_getD]
        have q : k.toNat < ns.length := by omega
        rw [List.getElem?_eq_getElem q]
        rfl
      · unfold Pd.cell
        rw [if_pos c']
    · have c' := of_decide_eq_false c
      rw [List.length_map] at c'
      refine run_nexts (run_ret ed_int ?_)
      unfold Pd.cell
      rw [if_neg c']

theorem sc__law_key : FnScope ["rich"] ["rich"] (defScope s__law_key) := ⟨rfl, rfl, rfl, by decide +kernel, rfl, by decide +kernel, by decide +kernel⟩
theorem ok__law_key {f : Addr} {fd : FuncData} (F : FnP K "_law_key" s__law_key f fd) (g : mg "_law_key" = some (.ref f))
    (z_int : mg "int" = none) (D__law_word : Def P w K mg base 1 "_law_word" ["size", "chars", "seed"] (spP K W__law_word)) : Def P w K mg base 2 "_law_key" ["rich"] (spP K W__law_key) := by
  refine def_mk F g (F.bindsN fun _ _ _ _ _ _ us hl => match us, hl with | [_], _ => rfl) (fn_pure F sc__law_key ?_ ?_)
  · rintro _ _ _ ⟨⟩
    rfl
  · intro ds μ d W
    cases W
    rename_i r
    intro cdv A outer s H E hr
    refine ⟨_, pss_cons (ps_if (pt_cmpR op_lt (pe_op op_mod (pe_callTy cr_int1 (by rfl) z_int (by decide +kernel) (pa_cons (pv 0) pa_nil)) pe_int) pe_int (nomark _)) (pss_one (ps_ret (pe_ix ix_list (pe_lst (pa_cons pe_str (pa_cons pe_str (pa_cons pe_str (pa_cons pe_str (pa_cons pe_str (pa_cons pe_str (pa_cons pe_str (pa_cons pe_str pa_nil))))))))) (pe_op op_mod (pe_op op_fdiv (pv 0) pe_int) pe_int) (fun _ _ => rfl)))) pss_nil)
      (pss_one (ps_ret (pe_callD D__law_word (hr.mono (by decide)) rfl (pa_cons (pe_op op_add pe_int (pe_op op_mod (pe_op op_fdiv (pv 0) pe_int) pe_int)) (pa_cons pe_str (pa_cons (pe_op op_fdiv (pv 0) pe_int) pa_nil)))))), ?_⟩
    refine run_ifs (ec_test (ed_lt (ed_mod (ed_toint (es_cons (ed_var rfl) es_nil)) ed_int (by decide)) ed_int)) (fun c => ?_) (fun c => ?_)
    · have b1 : 0 ≤ r / 4 % 8 := Int.emod_nonneg _ (by decide)
      have b2 : r / 4 % 8 < 8 := Int.emod_lt_of_pos _ (by decide)
      refine run_ret (ed_pick (xs := Pd.keys8.map W.str) (x := .str (Pd.keys8.getD (r / 4 % 8).toNat "")) (es_cons ed_str (es_cons ed_str (es_cons ed_str (es_cons ed_str (es_cons ed_str (es_cons ed_str (es_cons ed_str (es_cons ed_str es_nil)))))))) (ed_mod (ed_div (ed_var rfl) ed_int ⟨by decide, by decide⟩) ed_int (by decide)) (Nat.le_of_ble_eq_true rfl) b1 ?_) ?_
      · have q : (r / 4 % 8).toNat < Pd.keys8.length := by
          show (r / 4 % 8).toNat < 8
          omega
        rw [List.getElem?_map, List.getD_eq_getElem?_getD, List.getElem?_eq_getElem q]
        rfl
      · unfold Pd.keyF
        rw [if_pos (of_decide_eq_true c)]
    · have b1 : 0 ≤ r / 4 % 8 := Int.emod_nonneg _ (by decide)
      have b2 : r / 4 % 8 < 8 := Int.emod_lt_of_pos _ (by decide)
      refine run_nexts ?_
      refine run_ret (ed_call (es_cons (ed_add ed_int (ed_mod (ed_div (ed_var rfl) ed_int ⟨by decide, by decide⟩) ed_int (by decide))) (es_cons ed_str (es_cons (ed_div (ed_var rfl) ed_int ⟨by decide, by decide⟩) es_nil))) (W__law_word.mk (ch := Pd.abc) ⟨by omega, by omega, by decide, by decide⟩)) ?_
      unfold Pd.keyF
      rw [if_neg (of_decide_eq_false c)]

theorem sc__law_operation : FnScope ["rich", "kind", "rest", "key", "limit"] ["rich"] (defScope s__law_operation) := ⟨rfl, rfl, rfl, by decide +kernel, rfl, by decide +kernel, by decide +kernel⟩
theorem ok__law_operation {f : Addr} {fd : FuncData} (F : FnP K "_law_operation" s__law_operation f fd) (g : mg "_law_operation" = some (.ref f))
    (D__law_bound : Def P w K mg base 3 "_law_bound" ["rich"] (spP K W__law_bound)) (D__law_key : Def P w K mg base 2 "_law_key" ["rich"] (spP K W__law_key)) (D__law_value : Def P w K mg base 2 "_law_value" ["rich"] (spP K W__law_value)) : Def P w K mg base 4 "_law_operation" ["rich"] (spM K W__law_operation) := by
  refine def_mk F g (F.bindsN fun _ _ _ _ _ _ us hl => match us, hl with | [_], _ => rfl) (fn_mut F sc__law_operation ?_ ?_)
  · rintro _ _ _ _ ⟨⟩
    rfl
  · intro ds μ Pq X W
    cases W
    rename_i r h
    intro cdv A outer s H E hr
    refine ⟨_, pss_cons (ps_set (i := 1) sc__law_operation.nd rfl (Or.inl rfl) (pe_ix ix_list (pe_lst (pa_cons pe_str (pa_cons pe_str (pa_cons pe_str (pa_cons pe_str (pa_cons pe_str (pa_cons pe_str pa_nil))))))) (pe_op op_mod (pv 0) pe_int) (fun _ _ => rfl)))
      (pss_cons (ps_set (i := 2) sc__law_operation.nd rfl (Or.inl rfl) (pe_op op_fdiv (pv 0) pe_int))
      (pss_cons (ps_if (pt_cmpR op_eq (pv 1) pe_str (nomark _)) (pss_cons (ps_set (i := 4) sc__law_operation.nd rfl (Or.inl rfl) (pe_op op_add pe_int (pe_op op_mod (pe_op op_fdiv (pv 2) pe_int) pe_int)))
      (pss_cons (ps_if (pt_cmpR op_eq (pe_op op_mod (pe_op op_fdiv (pv 2) pe_int) pe_int) pe_int (nomark _)) (pss_one (ps_set (i := 4) sc__law_operation.nd rfl (Or.inl rfl) (pe_op op_add pe_int (pe_op op_mod (pe_op op_fdiv (pv 2) pe_int) pe_int)))) pss_nil)
      (pss_one (ps_ret (pe_tup (pa_cons (pv 1) (pa_cons (pe_callD D__law_bound (hr.mono (by decide)) rfl (pa_cons (pv 2) pa_nil)) (pa_cons (pv 4) pa_nil)))))))) pss_nil)
      (pss_cons (ps_set (i := 3) sc__law_operation.nd rfl (Or.inl rfl) (pe_callD D__law_key (hr.mono (by decide)) rfl (pa_cons (pv 2) pa_nil)))
      (pss_cons (ps_if (pt_cmpR op_eq (pv 1) pe_str (nomark _)) (pss_one (ps_ret (pe_tup (pa_cons (pv 1) (pa_cons (pv 3) (pa_cons (pe_callD D__law_value (hr.mono (by decide)) rfl (pa_cons (pe_op op_fdiv (pv 2) pe_int) pa_nil)) pa_nil)))))) pss_nil)
      (pss_cons (ps_if (pt_cmpR op_eq (pv 1) pe_str (nomark _)) (pss_one (ps_ret (pe_tup (pa_cons (pv 1) (pa_cons (pv 3) (pa_cons (pe_callD D__law_value (hr.mono (by decide)) rfl (pa_cons (pe_op op_fdiv (pv 2) pe_int) pa_nil)) (pa_cons (pe_callD D__law_value (hr.mono (by decide)) rfl (pa_cons (pe_op op_fdiv (pv 2) pe_int) pa_nil)) pa_nil))))))) pss_nil)
      (pss_one (ps_ret (pe_tup (pa_cons (pv 1) (pa_cons (pv 3) pa_nil)))))))))), ?_⟩
    have b1 : 0 ≤ r % 6 := Int.emod_nonneg _ (by decide)
    have b2 : r % 6 < 6 := Int.emod_lt_of_pos _ (by decide)
    obtain ⟨kd, hkd, hmem⟩ : ∃ kd : Str, ((["get", "put", "drop", "swap", "page", "put"] : List Str).map W.str)[(r % 6).toNat]? = some (.str kd) ∧ kd ∈ (["get", "put", "drop", "swap", "page", "put"] : List Str) := by
      have q : (r % 6).toNat < (["get", "put", "drop", "swap", "page", "put"] : List Str).length := by
        show (r % 6).toNat < 6
        omega
      exact ⟨_, by rw [List.getElem?_map, List.getElem?_eq_getElem q]; rfl, List.getElem_mem q⟩
    refine rm_set (ed_pick (xs := (["get", "put", "drop", "swap", "page", "put"] : List Str).map W.str) (x := .str kd) (es_cons ed_str (es_cons ed_str (es_cons ed_str (es_cons ed_str (es_cons ed_str (es_cons ed_str es_nil)))))) (ed_mod (ed_var rfl) ed_int (by decide)) (Nat.le_of_ble_eq_true rfl) b1 hkd) ?_
    refine rm_set (ed_div (ed_var rfl) ed_int ⟨by decide, by decide⟩) ?_
    generalize r / 6 = rest
    have okB : okS (Pd.boundF rest) := by
      unfold Pd.boundF
      split
      · exact okS_lit (by decide +kernel)
      · exact okS_key _
    refine rm_ifs (ec_test (ed_eqS (ed_var rfl) ed_str)) (fun c => ?_) (fun c => rm_nexts ?_)
    · have ek : kd = "page" := of_decide_eq_true c
      subst ek
      refine rm_assoc (rm_set (ed_add ed_int (ed_mod (ed_div (ed_var rfl) ed_int ⟨by decide, by decide⟩) ed_int (by decide))) ?_)
      refine rm_assoc (rm_seq (M := fun ρ' μ2 => ∃ lim : Int, 1 ≤ lim ∧ lim ≤ 1000 ∧ ρ' = [some (.int r), some (.str "page"), some (.int rest), none, some (.int lim)] ∧ μ2 = μ)
        (rm_if (ec_test (ed_eqI (ed_mod (ed_div (ed_var rfl) ed_int ⟨by decide, by decide⟩) ed_int (by decide)) ed_int)) (fun c => rm_asg (ed_add ed_int (ed_mod (ed_div (ed_var rfl) ed_int ⟨by decide, by decide⟩) ed_int (by decide))) ⟨_, ?_, ?_, rfl, rfl⟩) (fun c => rm_next ⟨_, ?_, ?_, rfl, rfl⟩)) fun ρ' μ2 hM => ?_)
      · have := Int.emod_nonneg (rest / 6000) (show (50 : Int) ≠ 0 by decide)
        omega
      · have := Int.emod_lt_of_pos (rest / 6000) (show (0 : Int) < 50 by decide)
        omega
      · have := Int.emod_nonneg (rest / 500) (show (3 : Int) ≠ 0 by decide)
        omega
      · have := Int.emod_lt_of_pos (rest / 500) (show (0 : Int) < 3 by decide)
        omega
      obtain ⟨lim, h1, h2, rfl, rfl⟩ := hM
      exact rm_retS (ed_tup (es_cons (ed_var rfl) (es_cons (ed_call (es_cons (ed_var rfl) es_nil) W__law_bound.mk) (es_cons (ed_var rfl) es_nil))) (Nat.le_of_ble_eq_true rfl)) (h (.page _ lim) ⟨okB, h1, h2⟩)
    · refine rm_set (ed_call (es_cons (ed_var rfl) es_nil) W__law_key.mk) ?_
      refine rm_ifs (ec_test (ed_eqS (ed_var rfl) ed_str)) (fun c2 => ?_) (fun c2 => rm_nexts ?_)
      · have ek : kd = "put" := of_decide_eq_true c2
        subst ek
        exact rm_retS (ed_tup (es_cons (ed_var rfl) (es_cons (ed_var rfl) (es_cons (ed_call (es_cons (ed_div (ed_var rfl) ed_int ⟨by decide, by decide⟩) es_nil) W__law_value.mk) es_nil))) (Nat.le_of_ble_eq_true rfl)) (h (.put _ _) ⟨okS_key _, okS_value _⟩)
      · refine rm_ifs (ec_test (ed_eqS (ed_var rfl) ed_str)) (fun c3 => ?_) (fun c3 => rm_nexts ?_)
        · have ek : kd = "swap" := of_decide_eq_true c3
          subst ek
          exact rm_retS (ed_tup (es_cons (ed_var rfl) (es_cons (ed_var rfl) (es_cons (ed_call (es_cons (ed_div (ed_var rfl) ed_int ⟨by decide, by decide⟩) es_nil) W__law_value.mk) (es_cons (ed_call (es_cons (ed_div (ed_var rfl) ed_int ⟨by decide, by decide⟩) es_nil) W__law_value.mk) es_nil)))) (Nat.le_of_ble_eq_true rfl)) (h (.swap _ _ _) ⟨okS_key _, okS_value _, okS_value _⟩)
        · have n1 : ¬ kd = "page" := of_decide_eq_false c
          have n2 : ¬ kd = "put" := of_decide_eq_false c2
          have n3 : ¬ kd = "swap" := of_decide_eq_false c3
          have ek : kd = "get" ∨ kd = "drop" := by
            simp only [List.mem_cons, List.not_mem_nil, or_false] at hmem
            rcases hmem with q | q | q | q | q | q
            · exact .inl q
            · exact absurd q n2
            · exact .inr q
            · exact absurd q n3
            · exact absurd q n1
            · exact absurd q n2
          rcases ek with ek | ek
          · subst ek
            exact rm_ret (ed_tup (es_cons (ed_var rfl) (es_cons (ed_var rfl) es_nil)) (Nat.le_of_ble_eq_true rfl)) (h (.get _) (okS_key _))
          · subst ek
            exact rm_ret (ed_tup (es_cons (ed_var rfl) (es_cons (ed_var rfl) es_nil)) (Nat.le_of_ble_eq_true rfl)) (h (.drop _) (okS_key _))

theorem sc__law_rich : FnScope ["cell", "k", "mixed"] ["cell", "k"] (defScope s__law_rich) := ⟨rfl, rfl, rfl, by decide +kernel, rfl, by decide +kernel, by decide +kernel⟩
theorem ok__law_rich {f : Addr} {fd : FuncData} (F : FnP K "_law_rich" s__law_rich f fd) (g : mg "_law_rich" = some (.ref f))
    (z_int : mg "int" = none) : Def P w K mg base 1 "_law_rich" ["cell", "k"] (spP K W__law_rich) := by
  refine def_mk F g (F.bindsN fun _ _ _ _ _ _ us hl => match us, hl with | [_, _], _ => rfl) (fn_pure F sc__law_rich ?_ ?_)
  · rintro _ _ _ ⟨⟩
    rfl
  · intro ds μ d W
    cases W
    rename_i c k
    intro cdv A outer s H E hr
    refine ⟨_, pss_cons (ps_if (pt_cmpR op_ge (pv 0) (pe_op op_pow pe_int pe_int) (nomark _)) (pss_one (ps_ret (pe_callTy cr_int1 (by rfl) z_int (by decide +kernel) (pa_cons (pv 0) pa_nil)))) pss_nil)
      (pss_cons (ps_set (i := 2) sc__law_rich.nd rfl (Or.inl rfl) (pe_op op_mod (pe_callTy cr_int1 (by rfl) z_int (by decide +kernel) (pa_cons (pe_op op_add (pe_op op_add (pe_op op_mul (pv 0) pe_int) (pe_op op_mul (pv 1) pe_int)) pe_int) pa_nil)) pe_int))
      (pss_one (ps_ret (pe_op op_add (pe_op op_mul (pv 2) pe_int) (pe_op op_mod (pe_callTy cr_int1 (by rfl) z_int (by decide +kernel) (pa_cons (pe_op op_add (pe_op op_mul (pv 2) pe_int) (pv 0)) pa_nil)) pe_int))))), ?_⟩
    refine run_ifs (ec_test (ed_ge (ed_var rfl) (ed_pow ed_int ed_int ⟨by decide, by decide, by decide⟩))) (fun q => ?_) (fun q => ?_)
    · refine run_ret (ed_toint (es_cons (ed_var rfl) es_nil)) ?_
      unfold Pd.rich
      rw [if_pos (of_decide_eq_true q)]
    · refine run_nexts ?_
      refine run_set (ed_mod (ed_toint (es_cons (ed_add (ed_add (ed_mul (ed_var rfl) ed_int (.inr ⟨by decide, by decide⟩)) (ed_mul (ed_var rfl) ed_int (.inr ⟨by decide, by decide⟩))) ed_int) es_nil)) ed_int (by decide)) ?_
      refine run_ret (ed_add (ed_mul (ed_var rfl) ed_int (.inr ⟨by decide, by decide⟩)) (ed_mod (ed_toint (es_cons (ed_add (ed_mul (ed_var rfl) ed_int (.inr ⟨by decide, by decide⟩)) (ed_var rfl)) es_nil)) ed_int (by decide))) ?_
      unfold Pd.rich
      rw [if_neg (of_decide_eq_false q)]

theorem sc__law_value : FnScope ["rich", "chars"] ["rich"] (defScope s__law_value) := ⟨rfl, rfl, rfl, by decide +kernel, rfl, by decide +kernel, by decide +kernel⟩
theorem ok__law_value {f : Addr} {fd : FuncData} (F : FnP K "_law_value" s__law_value f fd) (g : mg "_law_value" = some (.ref f))
    (z_int : mg "int" = none) (D__law_word : Def P w K mg base 1 "_law_word" ["size", "chars", "seed"] (spP K W__law_word)) : Def P w K mg base 2 "_law_value" ["rich"] (spP K W__law_value) := by
  refine def_mk F g (F.bindsN fun _ _ _ _ _ _ us hl => match us, hl with | [_], _ => rfl) (fn_pure F sc__law_value ?_ ?_)
  · rintro _ _ _ ⟨⟩
    rfl
  · intro ds μ d W
    cases W
    rename_i r
    intro cdv A outer s H E hr
    refine ⟨_, pss_cons (ps_if (pt_cmpR op_lt (pe_op op_mod (pe_callTy cr_int1 (by rfl) z_int (by decide +kernel) (pa_cons (pv 0) pa_nil)) pe_int) pe_int (nomark _)) (pss_one (ps_ret (pe_ix ix_list (pe_lst (pa_cons pe_str (pa_cons pe_str (pa_cons pe_str pa_nil)))) (pe_op op_mod (pe_op op_fdiv (pv 0) pe_int) pe_int) (fun _ _ => rfl)))) pss_nil)
      (pss_cons (ps_set (i := 1) sc__law_value.nd rfl (Or.inl rfl) pe_str)
      (pss_one (ps_ret (pe_callD D__law_word (hr.mono (by decide)) rfl (pa_cons (pe_op op_mod (pe_op op_fdiv (pv 0) pe_int) pe_int) (pa_cons (pv 1) (pa_cons (pe_op op_fdiv (pv 0) pe_int) pa_nil))))))), ?_⟩
    refine run_ifs (ec_test (ed_lt (ed_mod (ed_toint (es_cons (ed_var rfl) es_nil)) ed_int (by decide)) ed_int)) (fun c => ?_) (fun c => ?_)
    · have b1 : 0 ≤ r / 4 % 3 := Int.emod_nonneg _ (by decide)
      have b2 : r / 4 % 3 < 3 := Int.emod_lt_of_pos _ (by decide)
      refine run_ret (ed_pick (xs := vals3.map W.str) (x := .str (vals3.getD (r / 4 % 3).toNat "")) (es_cons ed_str (es_cons ed_str (es_cons ed_str es_nil))) (ed_mod (ed_div (ed_var rfl) ed_int ⟨by decide, by decide⟩) ed_int (by decide)) (Nat.le_of_ble_eq_true rfl) b1 ?_) ?_
      · have q : (r / 4 % 3).toNat < vals3.length := by
          show (r / 4 % 3).toNat < 3
          omega
        rw [List.getElem?_map, List.getD_eq_getElem?_getD, List.getElem?_eq_getElem q]
        rfl
      · unfold valueF
        rw [if_pos (of_decide_eq_true c)]
    · have b1 : 0 ≤ r / 4 % 41 := Int.emod_nonneg _ (by decide)
      have b2 : r / 4 % 41 < 41 := Int.emod_lt_of_pos _ (by decide)
      refine run_nexts ?_
      refine run_set ed_str ?_
      refine run_ret (ed_call (es_cons (ed_mod (ed_div (ed_var rfl) ed_int ⟨by decide, by decide⟩) ed_int (by decide)) (es_cons (ed_var rfl) (es_cons (ed_div (ed_var rfl) ed_int ⟨by decide, by decide⟩) es_nil))) (W__law_word.mk (ch := printable) ⟨by omega, by omega, by decide, by decide⟩)) ?_
      unfold valueF
      rw [if_neg (of_decide_eq_false c)]

theorem sc__law_word : FnScope ["size", "chars", "seed", "word", "rest", "k"] ["size", "chars", "seed"] (defScope s__law_word) := ⟨rfl, rfl, rfl, by decide +kernel, rfl, by decide +kernel, by decide +kernel⟩
theorem ok__law_word {f : Addr} {fd : FuncData} (F : FnP K "_law_word" s__law_word f fd) (g : mg "_law_word" = some (.ref f))
    (z_int : mg "int" = none) (z_range : mg "range" = none) (z_len : mg "len" = none) : Def P w K mg base 1 "_law_word" ["size", "chars", "seed"] (spP K W__law_word) := by
  refine def_mk F g (F.bindsN fun _ _ _ _ _ _ us hl => match us, hl with | [_, _, _], _ => rfl) (fn_pure F sc__law_word ?_ ?_)
  · rintro _ _ _ ⟨⟩
    rfl
  · intro ds μ d W
    cases W
    rename_i n ch seed h
    intro cdv A outer s H E hr
    refine ⟨_, pss_cons (ps_set (i := 3) sc__law_word.nd rfl (Or.inl rfl) pe_str)
      (pss_cons (ps_set (i := 4) sc__law_word.nd rfl (Or.inl rfl) (pe_callTy cr_int1 (by rfl) z_int (by decide +kernel) (pa_cons (pv 2) pa_nil)))
      (pss_cons (ps_for PassesOwn.never rfl (pi_range1 rfl z_range (pa_cons (pv 0) pa_nil)) (pg_name (i := 5) sc__law_word.nd rfl (Or.inl rfl)) (pss_cons (ps_set (i := 3) sc__law_word.nd rfl (Or.inl rfl) (pe_op op_addS (pv 3) (pe_ix ix_str (pv 1) (pe_op op_mod (pe_callTy cr_int1 (by rfl) z_int (by decide +kernel) (pa_cons (pv 4) pa_nil)) (pe_callB cr_len (by rfl) z_len (by decide +kernel) (pa_cons (pv 1) pa_nil))) (fun _ _ => rfl))))
      (pss_one (ps_set (i := 4) sc__law_word.nd rfl (Or.inl rfl) (pe_op op_fdiv (pv 4) (pe_callB cr_len (by rfl) z_len (by decide +kernel) (pa_cons (pv 1) pa_nil)))))))
      (pss_one (ps_ret (pv 3))))), ?_⟩
    obtain ⟨h0, h1, h2, h3⟩ := h
    refine run_set ed_str ?_
    refine run_set (ed_toint (es_cons (ed_var rfl) es_nil)) ?_
    refine run_range (es_cons (ed_var rfl) es_nil) ⟨by omega, by omega⟩ (fun i ρ => ∃ kk : Option W, ρ = [some (.int n), some (.str ch), some (.int seed), some (.str (Pd.wst ch seed i).1), some (.int (Pd.wst ch seed i).2), kk]) ⟨_, rfl⟩ (fun i ρ hi hI => ?_) (fun ρ hI => ?_)
    · obtain ⟨kk, rfl⟩ := hI
      have hl : ch.length ≤ sizeLine := sz_of (by omega)
      have hj : 0 ≤ (Pd.wst ch seed i).2 % (ch.length : Int) := Int.emod_nonneg _ (by omega)
      have hj2 : (Pd.wst ch seed i).2 % (ch.length : Int) < (ch.length : Int) := Int.emod_lt_of_pos _ (by omega)
      refine run_set (ed_addS (ed_var rfl) (ed_ixS (c := Pd.sign ch (Pd.wst ch seed i).2) (ed_var rfl) (ed_mod (ed_toint (es_cons (ed_var rfl) es_nil)) (ed_lenS (es_cons (ed_var rfl) es_nil) hl) (by omega)) hl hj ?_) ?_) ?_
      · unfold Pd.sign
        have q : ((Pd.wst ch seed i).2 % (ch.length : Int)).toNat < ch.cps.toList.length := by
          have e : ch.cps.toList.length = ch.length := Array.length_toList
          omega
        rw [List.getElem?_eq_getElem q, List.getD_eq_getElem?_getD, List.getElem?_eq_getElem q]
        rfl
      · rw [Pd.wst_len]
        show i + 1 ≤ sizeLine
        exact sz_of (by omega)
      · exact run_asg (ed_div (ed_var rfl) (ed_lenS (es_cons (ed_var rfl) es_nil) hl) ⟨by omega, by omega⟩) ⟨_, rfl⟩
    · obtain ⟨kk, rfl⟩ := hI
      exact run_ret (ed_var rfl) rfl

theorem sc__law_range : FnScope ["rich", "one", "other"] ["rich"] (defScope s__law_range) := ⟨rfl, rfl, rfl, by decide +kernel, rfl, by decide +kernel, by decide +kernel⟩
theorem ok__law_range {f : Addr} {fd : FuncData} (F : FnP K "_law_range" s__law_range f fd) (g : mg "_law_range" = some (.ref f))
    (D__law_bound : Def P w K mg base 3 "_law_bound" ["rich"] (spP K W__law_bound)) (z_max : mg "max" = none) (z_min : mg "min" = none) : Def P w K mg base 4 "_law_range" ["rich"] (spP K W__law_range) := by
  refine def_mk F g (F.bindsN fun _ _ _ _ _ _ us hl => match us, hl with | [_], _ => rfl) (fn_pure F sc__law_range ?_ ?_)
  · rintro _ _ _ ⟨⟩
    rfl
  · intro ds μ d W
    cases W
    rename_i r
    intro cdv A outer s H E hr
    refine ⟨_, pss_cons (ps_set (i := 1) sc__law_range.nd rfl (Or.inl rfl) (pe_callD D__law_bound (hr.mono (by decide)) rfl (pa_cons (pv 0) pa_nil)))
      (pss_cons (ps_set (i := 2) sc__law_range.nd rfl (Or.inl rfl) (pe_callD D__law_bound (hr.mono (by decide)) rfl (pa_cons (pe_op op_fdiv (pv 0) pe_int) pa_nil)))
      (pss_cons (ps_if (PW.pt (pw_or (pt_cmpR op_eq (pv 1) (pv 2) (nomark _)) (pw_or1 (pt_cmpR op_eq (pe_op op_mod (pe_op op_fdiv (pv 0) pe_int) pe_int) pe_int (nomark _))))) (pss_one (ps_ret (pe_tup (pa_cons (pv 1) (pa_cons pe_non pa_nil))))) pss_nil)
      (pss_one (ps_ret (pe_tup (pa_cons (pe_callB (Pd.cr_minS rfl) (by rfl) z_min (by decide +kernel) (pa_cons (pv 1) (pa_cons (pv 2) pa_nil))) (pa_cons (pe_callB (Pd.cr_maxS rfl) (by rfl) z_max (by decide +kernel) (pa_cons (pv 1) (pa_cons (pv 2) pa_nil))) pa_nil))))))), ?_⟩
    refine run_set (ed_call (es_cons (ed_var rfl) es_nil) W__law_bound.mk) ?_
    refine run_set (ed_call (es_cons (ed_div (ed_var rfl) ed_int ⟨by decide, by decide⟩) es_nil) W__law_bound.mk) ?_
    refine run_ifs (ec_or (ec_test (ed_eqS (ed_var rfl) (ed_var rfl))) fun _ => ec_test (ed_eqI (ed_mod (ed_div (ed_var rfl) ed_int ⟨by decide, by decide⟩) ed_int (by decide)) ed_int)) (fun c => ?_) (fun c => run_nexts ?_)
    · have c2 : Pd.boundF r = Pd.boundF (r / 1000) ∨ r / 7 % 5 = 0 := by
        rcases Bool.or_eq_true_iff.mp c with q | q
        · exact .inl (of_decide_eq_true q)
        · exact .inr (of_decide_eq_true q)
      refine run_retS (ed_tup (es_cons (ed_var rfl) (es_cons ed_non es_nil)) (Nat.le_of_ble_eq_true rfl)) ?_
      unfold Pd.rangeF
      rw [if_pos c2]
      rfl
    · have c2 : ¬ (Pd.boundF r = Pd.boundF (r / 1000) ∨ r / 7 % 5 = 0) := fun q => by
        rcases q with q | q
        · rw [decide_eq_true q, Bool.true_or] at c
          cases c
        · rw [decide_eq_true q, Bool.or_true] at c
          cases c
      refine run_ret (ed_tup (es_cons (ed_minS (es_cons (ed_var rfl) (es_cons (ed_var rfl) es_nil))) (es_cons (ed_maxS (es_cons (ed_var rfl) (es_cons (ed_var rfl) es_nil))) es_nil)) (Nat.le_of_ble_eq_true rfl)) ?_
      unfold Pd.rangeF
      rw [if_neg c2]
      rfl

theorem sc__law_answer : FnScope ["rich", "kind", "rest", "keys", "k", "following", "key"] ["rich"] (defScope s__law_answer) := ⟨rfl, rfl, rfl, by decide +kernel, rfl, by decide +kernel, by decide +kernel⟩
theorem ok__law_answer {f : Addr} {fd : FuncData} (F : FnP K "_law_answer" s__law_answer f fd) (g : mg "_law_answer" = some (.ref f))
    (D__law_value : Def P w K mg base 2 "_law_value" ["rich"] (spP K W__law_value)) (z_range : mg "range" = none) (D__law_key : Def P w K mg base 2 "_law_key" ["rich"] (spP K W__law_key)) (z_tuple : mg "tuple" = none) (z_sorted : mg "sorted" = none) : Def P w K mg base 3 "_law_answer" ["rich"] (spM K W__law_answer) := by
  refine def_mk F g (F.bindsN fun _ _ _ _ _ _ us hl => match us, hl with | [_], _ => rfl) (fn_mut F sc__law_answer ?_ ?_)
  · rintro _ _ _ _ ⟨⟩
    rfl
  · intro ds μ Pq X W
    cases W
    rename_i r h
    intro cdv A outer s H E hr
    refine ⟨_, pss_cons (ps_set (i := 1) sc__law_answer.nd rfl (Or.inl rfl) (pe_ix ix_list (pe_lst (pa_cons pe_str (pa_cons pe_str (pa_cons pe_str (pa_cons pe_str (pa_cons pe_str (pa_cons pe_str pa_nil))))))) (pe_op op_mod (pv 0) pe_int) (fun _ _ => rfl)))
      (pss_cons (ps_set (i := 2) sc__law_answer.nd rfl (Or.inl rfl) (pe_op op_fdiv (pv 0) pe_int))
      (pss_cons (ps_if (PW.pt (pw_or (pt_cmpR op_eq (pv 1) pe_str (nomark _)) (pw_or1 (pt_cmpR op_eq (pv 1) pe_str (nomark _))))) (pss_one (ps_ret (pe_tup (pa_cons (pv 1) (pa_cons (pe_callD D__law_value (hr.mono (by decide)) rfl (pa_cons (pv 2) pa_nil)) pa_nil))))) pss_nil)
      (pss_cons (ps_if (pt_cmpR op_ne (pv 1) pe_str (nomark _)) (pss_one (ps_ret (pe_tup (pa_cons (pv 1) pa_nil)))) pss_nil)
      (pss_cons (ps_set (i := 3) sc__law_answer.nd rfl (Or.inr rfl) pe_dnewK)
      (pss_cons (ps_for PassesOwn.never rfl (pi_range1 rfl z_range (pa_cons (pe_op op_mod (pv 2) pe_int) pa_nil)) (pg_name (i := 4) sc__law_answer.nd rfl (Or.inl rfl)) (pss_one (ps_dput (hu_of hr) (pv 3) (pe_callD D__law_key (hr.mono (by decide)) rfl (pa_cons (pe_op op_add (pe_op op_fdiv (pv 2) pe_int) (pe_op op_mul pe_int (pv 4))) pa_nil)) (pe_callD D__law_value (hr.mono (by decide)) rfl (pa_cons (pe_op op_add (pe_op op_fdiv (pv 2) pe_int) (pv 4)) pa_nil)) rfl)))
      (pss_cons (ps_set (i := 5) sc__law_answer.nd rfl (Or.inl rfl) pe_non)
      (pss_cons (ps_if (pt_cmpR op_eq (pe_op op_mod (pe_op op_fdiv (pv 2) pe_int) pe_int) pe_int (nomark _)) (pss_cons (ps_set (i := 5) sc__law_answer.nd rfl (Or.inl rfl) pe_str)
      (pss_one (ps_expr (pe_dpop2 (pv 3) pe_str pe_non ⟨by rfl, by rfl, by rfl, by rfl⟩)))) pss_nil)
      (pss_one (ps_ret (pe_tup (pa_cons (pv 1) (pa_cons (pe_callTy cr_tupL (by rfl) z_tuple (by decide +kernel) (pa_cons (pe_lc (own := [("key", 6)]) (g := gName 6) (tt := tYes) (by rfl) sc__law_answer.nd (pi_list (pe_callB (cr_srtDA rfl) (by rfl) z_sorted (by decide +kernel) (pa_cons (pv 3) pa_nil))) (blkOk_by (own := [("key", 6)]) (N := ["rich", "kind", "rest", "keys", "k", "following", "key"]) (sc := defScope s__law_answer) (by decide +kernel)) (fun _ _ _ _ _ => pg_name (i := 6) sc__law_answer.nd rfl (Or.inl rfl)) (fun _ _ _ _ _ => pts_nil) (fun _ _ _ _ _ => (pe_tup (pa_cons (pv 6) (pa_cons (pe_dget (hu_of hr) (pv 3) (pv 6) (fun _ _ => rfl)) pa_nil))))) pa_nil)) (pa_cons (pv 5) pa_nil))))))))))))), ?_⟩
    have b1 : 0 ≤ r % 6 := Int.emod_nonneg _ (by decide)
    have b2 : r % 6 < 6 := Int.emod_lt_of_pos _ (by decide)
    refine rm_set (ed_pick (xs := kinds6.map W.str) (x := .str (kinds6.getD (r % 6).toNat "")) (es_cons ed_str (es_cons ed_str (es_cons ed_str (es_cons ed_str (es_cons ed_str (es_cons ed_str es_nil)))))) (ed_mod (ed_var rfl) ed_int (by decide)) (Nat.le_of_ble_eq_true rfl) b1 ?_) ?_
    · have q : (r % 6).toNat < kinds6.length := by
        show (r % 6).toNat < 6
        omega
      rw [List.getElem?_map, List.getD_eq_getElem?_getD, List.getElem?_eq_getElem q]
      rfl
    have kd : okS (kinds6.getD (r % 6).toNat "") := okS_getD (by decide +kernel) _
    generalize kinds6.getD (r % 6).toNat "" = kind at kd
    refine rm_set (ed_div (ed_var rfl) ed_int ⟨by decide, by decide⟩) ?_
    refine rm_ifs (ec_or (ec_test (ed_eqS (ed_var rfl) ed_str)) fun _ => (ec_test (ed_eqS (ed_var rfl) ed_str))) (fun c => ?_) (fun c => rm_nexts ?_)
    · refine rm_retS (ed_tup (es_cons (ed_var rfl) (es_cons (ed_call (es_cons (ed_var rfl) es_nil) W__law_value.mk) es_nil)) (Nat.le_of_ble_eq_true rfl)) (h _ μ (Grow.refl μ) (by simp) (Nat.le_of_ble_eq_true rfl) fun w hw => ?_)
      rcases List.mem_cons.mp hw with e | e
      · rw [e]
        exact good_str kd
      · rw [List.mem_singleton.mp e]
        exact good_str (okS_value _)
    refine rm_ifs (ec_test (ed_neS (ed_var rfl) ed_str)) (fun c => ?_) (fun c => rm_nexts ?_)
    · refine rm_retS (ed_tup (es_cons (ed_var rfl) es_nil) (Nat.le_of_ble_eq_true rfl)) (h _ μ (Grow.refl μ) (by simp) (Nat.le_of_ble_eq_true rfl) fun w hw => ?_)
      rw [List.mem_singleton.mp hw]
      exact good_str kd
    refine rm_setW ew_newD fun w0 μ0 hP => ?_
    obtain ⟨p, hp, rfl, rfl⟩ := hP
    have m4 : 0 ≤ r / 6 % 4 := Int.emod_nonneg _ (by decide)
    have m5 : r / 6 % 4 < 4 := Int.emod_lt_of_pos _ (by decide)
    refine rm_range (es_cons (ed_mod (ed_var rfl) ed_int (by decide)) es_nil) ⟨by omega, by omega⟩ (fun i ρ μ' => ∃ (kk : Option W) (m : List (Str × Str)), ρ = [some (.int r), some (.str kind), some (.int (r / 6)), some (.ref p), kk, none, none] ∧ μ' = mset μ p (.dk (encS m)) ∧ okM m ∧ m.length ≤ i) ⟨none, [], rfl, rfl, (fun _ q => by cases q), Nat.le_refl _⟩ (fun i ρ μ' hi hI => ?_) (fun ρ μ' hI => ?_)
    · obtain ⟨kk, m, rfl, rfl, hm, hlen⟩ := hI
      refine rm_dput1 (k := Sum.inr (Pd.keyF (r / 6 / 4 + 137 * (i : Int)))) (ed_call (es_cons (ed_add (ed_div (ed_var rfl) ed_int ⟨by decide, by decide⟩) (ed_var rfl)) es_nil) W__law_value.mk) (ed_var rfl) (ed_call (es_cons (ed_add (ed_div (ed_var rfl) ed_int ⟨by decide, by decide⟩) (ed_mul ed_int (ed_var rfl) (.inl ⟨by decide, by decide⟩))) es_nil) W__law_key.mk) mset_same ?_ ?_
      · unfold encS
        rw [List.length_map]
        omega
      · refine ⟨_, putS m (Pd.keyF (r / 6 / 4 + 137 * (i : Int))) (valueF (r / 6 / 300 + (i : Int))), rfl, ?_, okM_put hm (okS_key _) (okS_value _), ?_⟩
        · rw [mset_mset, encS_put]
        · have := putS_len m (Pd.keyF (r / 6 / 4 + 137 * (i : Int))) (valueF (r / 6 / 300 + (i : Int)))
          omega
    · obtain ⟨kk, m, rfl, rfl, hm, hlen⟩ := hI
      refine rm_set ed_non ?_
      refine rm_seq (M := fun ρ' μ' => ∃ (m2 : List (Str × Str)) (fo : Option Str), ρ' = [some (.int r), some (.str kind), some (.int (r / 6)), some (.ref p), kk, some (oW fo), none] ∧ μ' = mset μ p (.dk (encS m2)) ∧ okM m2 ∧ m2.length ≤ 10 ∧ ∀ y, fo = some y → okS y) (rm_if (ec_test (ed_eqI (ed_mod (ed_div (ed_var rfl) ed_int ⟨by decide, by decide⟩) ed_int (by decide)) ed_int)) (fun c => ?_) (fun c => ?_)) (fun ρ' μ' hM => ?_)
      · refine rm_set ed_str ?_
        refine rm_dpop2 (k := Sum.inr "zzzzzzzz") (ed_var rfl) ed_str ed_non mset_same ?_ ?_
        · refine ⟨dropS m "zzzzzzzz", some "zzzzzzzz", rfl, ?_, okM_drop hm, ?_, ?_⟩
          · rw [mset_mset, encS_drop]
          · have := dropS_len m "zzzzzzzz"
            omega
          · intro y e
            rw [← Option.some.inj e]
            exact okS_lit (by decide +kernel)
        · intro hv
          rw [encS_drop]
          rw [encS_val] at hv
          cases e : valS m "zzzzzzzz" with
          | none => rw [valS_none e]
          | some v =>
            rw [e] at hv
            cases hv
      · refine rm_next ⟨m, none, rfl, rfl, hm, by omega, fun y e => by cases e⟩
      · obtain ⟨m2, fo, rfl, rfl, hm2, hl2, hfo⟩ := hM
        have l2 : mset μ p (.dk (encS m2)) p = some (.dk (encK (m2.map fun q => (q.1, W.str q.2)))) := by rw [mset_same, encS_K]
        refine rm_ret (ed_tup (es_cons (ed_var rfl) (es_cons (ed_tupL (el_lc (ws := (sortS (m2.map (·.1))).map W.str) (fun _ => true) (pairO m2) ((el_srtDA (es_cons (ed_var rfl) es_nil) l2).is (by rw [keysS])) ?_ (fun x _ => ec_yes) (fun x hx _ => ?_))) (es_cons (ed_var rfl) es_nil))) (Nat.le_of_ble_eq_true rfl)) (h _ _ (Grow.new hp) (by simp) (Nat.le_of_ble_eq_true rfl) fun w hw => ?_)
        · rw [List.length_map, (sortS_perm _).length_eq, List.length_map]
          omega
        · obtain ⟨k0, hk0, rfl⟩ := List.mem_map.mp hx
          obtain ⟨v0, hv0⟩ := valS_some ((sortS_perm _).mem_iff.mp hk0)
          refine (ed_tup (es_cons (ed_var rfl) (es_cons (ed_dget (k := Sum.inr k0) (x := .str v0) (ed_var rfl) (ed_var rfl) mset_same ?_) es_nil)) (Nat.le_of_ble_eq_true rfl)).is ?_
          · rw [encS_val, hv0]
            rfl
          · show _ = W.tup [.str k0, .str ((valS m2 k0).getD "")]
            rw [hv0]
            rfl
        · rcases List.mem_cons.mp hw with e | hw
          · rw [e]
            exact good_str kd
          rcases List.mem_cons.mp hw with e | hw
          · rw [e]
            refine (good_tup (n := 1) fun u hu => ?_).le (by decide)
            obtain ⟨x, hx, rfl⟩ := List.mem_map.mp hu
            obtain ⟨k0, hk0, rfl⟩ := List.mem_map.mp (List.mem_filter.mp hx).1
            obtain ⟨v0, hv0⟩ := valS_some ((sortS_perm _).mem_iff.mp hk0)
            show Good 1 _ (W.tup [.str k0, .str ((valS m2 k0).getD "")])
            rw [hv0]
            have hok := hm2 _ (valS_mem hv0)
            refine good_tup (n := 0) fun t ht => ?_
            rcases List.mem_cons.mp ht with e | ht
            · rw [e]
              exact good_str hok.1
            · rw [List.mem_singleton.mp ht]
              exact good_str hok.2
          · rw [List.mem_singleton.mp hw]
            cases fo with
            | none => exact good_non
            | some y => exact good_str (hfo y rfl)

theorem sc__law_pairs : FnScope ["low", "high", "rich", "items", "k", "key"] ["low", "high", "rich"] (defScope s__law_pairs) := ⟨rfl, rfl, rfl, by decide +kernel, rfl, by decide +kernel, by decide +kernel⟩
theorem ok__law_pairs {f : Addr} {fd : FuncData} (F : FnP K "_law_pairs" s__law_pairs f fd) (g : mg "_law_pairs" = some (.ref f))
    (z_range : mg "range" = none) (D__law_key : Def P w K mg base 2 "_law_key" ["rich"] (spP K W__law_key)) (D__law_value : Def P w K mg base 2 "_law_value" ["rich"] (spP K W__law_value)) (z_tuple : mg "tuple" = none) (z_sorted : mg "sorted" = none) : Def P w K mg base 3 "_law_pairs" ["low", "high", "rich"] (spM K W__law_pairs) := by
  refine def_mk F g (F.bindsN fun _ _ _ _ _ _ us hl => match us, hl with | [_, _, _], _ => rfl) (fn_mut F sc__law_pairs ?_ ?_)
  · rintro _ _ _ _ ⟨⟩
    rfl
  · intro ds μ Pq X W
    cases W
    rename_i a hi r h
    intro cdv A outer s H E hr
    refine ⟨_, pss_cons (ps_set (i := 3) sc__law_pairs.nd rfl (Or.inr rfl) pe_dnewK)
      (pss_cons (ps_for PassesOwn.never rfl (pi_range1 rfl z_range (pa_cons (pe_op op_mod (pv 2) pe_int) pa_nil)) (pg_name (i := 4) sc__law_pairs.nd rfl (Or.inl rfl)) (pss_cons (ps_set (i := 5) sc__law_pairs.nd rfl (Or.inl rfl) (pe_callD D__law_key (hr.mono (by decide)) rfl (pa_cons (pe_op op_add (pe_op op_fdiv (pv 2) pe_int) (pe_op op_mul pe_int (pv 4))) pa_nil)))
      (pss_one (ps_if (PW.pt (pw_and (pt_cmpR op_geS (pv 5) (pv 0) (nomark _)) (pw_and1 (PW.pt (pw_or (pt_cmpR op_isNo (pv 1) pe_non (nomark _)) (pw_or1 (pt_cmpR op_ltS (pv 5) (pv 1) (nomark _)))))))) (pss_one (ps_dput (hu_of hr) (pv 3) (pv 5) (pe_callD D__law_value (hr.mono (by decide)) rfl (pa_cons (pe_op op_add (pe_op op_fdiv (pv 2) pe_int) (pv 4)) pa_nil)) rfl)) pss_nil))))
      (pss_one (ps_ret (pe_callTy cr_tupL (by rfl) z_tuple (by decide +kernel) (pa_cons (pe_lc (own := [("key", 5)]) (g := gName 5) (tt := tYes) (by rfl) sc__law_pairs.nd (pi_list (pe_callB (cr_srtDA rfl) (by rfl) z_sorted (by decide +kernel) (pa_cons (pv 3) pa_nil))) (blkOk_by (own := [("key", 5)]) (N := ["low", "high", "rich", "items", "k", "key"]) (sc := defScope s__law_pairs) (by decide +kernel)) (fun _ _ _ _ _ => pg_name (i := 5) sc__law_pairs.nd rfl (Or.inl rfl)) (fun _ _ _ _ _ => pts_nil) (fun _ _ _ _ _ => (pe_tup (pa_cons (pv 5) (pa_cons (pe_dget (hu_of hr) (pv 3) (pv 5) (fun _ _ => rfl)) pa_nil))))) pa_nil))))), ?_⟩
    refine rm_setW ew_newD fun w0 μ0 hP => ?_
    obtain ⟨p, hp, rfl, rfl⟩ := hP
    have m0 : 0 ≤ r % 6 := Int.emod_nonneg _ (by decide)
    have m1 : r % 6 < 6 := Int.emod_lt_of_pos _ (by decide)
    refine rm_range (es_cons (ed_mod (ed_var rfl) ed_int (by decide)) es_nil) ⟨by omega, by omega⟩ (fun i ρ μ' => ∃ (x4 x5 : Option W) (m : List (Str × Str)), ρ = [some (.str a), some (oW hi), some (.int r), some (.ref p), x4, x5] ∧ μ' = mset μ p (.dk (encS m)) ∧ okM m ∧ m.length ≤ i) ⟨none, none, [], rfl, rfl, (fun _ q => by cases q), Nat.le_refl _⟩ (fun i ρ μ' hi2 hI => ?_) (fun ρ μ' hI => ?_)
    · obtain ⟨x4, x5, m, rfl, rfl, hm, hlen⟩ := hI
      refine rm_set (ed_call (es_cons (ed_add (ed_div (ed_var rfl) ed_int ⟨by decide, by decide⟩) (ed_mul ed_int (ed_var rfl) (.inl ⟨by decide, by decide⟩))) es_nil) W__law_key.mk) ?_
      have kk := okS_key (r / 6 + 211 * (i : Int))
      generalize Pd.keyF (r / 6 + 211 * (i : Int)) = ky at kk
      have hel : (encS m).length < 100000 := by
        unfold encS
        rw [List.length_map]
        omega
      have put : ∀ b : Bool, RunM K E (sDPut (tVar 3) (tVar 5) (tCall (spP K W__law_value) [] E0 (tCons (tOp (rI0 fun i j => V.int (i + j)) (tOp (rI CDiv fun i j => V.int (i / j)) (tVar 2) (tC (.int 1000))) (tVar 4)) tNil))) [some (.str a), some (oW hi), some (.int r), some (.ref p), some (.int i), some (.str ky)] (mset μ p (.dk (encS m))) (fun ρ μ' => ∃ (x4 x5 : Option W) (m : List (Str × Str)), ρ = [some (.str a), some (oW hi), some (.int r), some (.ref p), x4, x5] ∧ μ' = mset μ p (.dk (encS m)) ∧ okM m ∧ m.length ≤ i + 1) Pq X := fun _ => by
        refine rm_dput1 (k := Sum.inr ky) (kvs := encS m) (ed_call (es_cons (ed_add (ed_div (ed_var rfl) ed_int ⟨by decide, by decide⟩) (ed_var rfl)) es_nil) W__law_value.mk) (ed_var rfl) (ed_var rfl) mset_same hel ⟨_, _, putS m ky (valueF (r / 1000 + (i : Int))), rfl, ?_, okM_put hm kk (okS_value _), ?_⟩
        · rw [mset_mset, encS_put]
        · have := putS_len m ky (valueF (r / 1000 + (i : Int)))
          omega
      cases hi with
      | none => exact rm_if (ec_and (ec_test (ed_geS (ed_var rfl) (ed_var rfl))) fun _ => ec_or (b := true) (ec_test (ed_isN (x := W.non) (ed_var rfl))) fun h => absurd (show true = false from h) (by decide)) (fun _ => put true) (fun _ => rm_next ⟨_, _, m, rfl, rfl, hm, by omega⟩)
      | some z => exact rm_if (ec_and (ec_test (ed_geS (ed_var rfl) (ed_var rfl))) fun _ => ec_or (ec_test (ed_isN (x := W.str z) (ed_var rfl))) fun _ => ec_test (ed_ltS (ed_var rfl) (ed_var rfl))) (fun _ => put true) (fun _ => rm_next ⟨_, _, m, rfl, rfl, hm, by omega⟩)
    · obtain ⟨x4, x5, m, rfl, rfl, hm, hlen⟩ := hI
      have hlen : m.length ≤ 6 := by omega
      refine rm_ret (ed_tupL ((el_lc (fun _ => true) (pairO m) (el_srtDA (sd := m.map fun p => (p.1, W.str p.2)) (es_cons (ed_var rfl) es_nil) (by rw [← encS_K]; exact mset_same)) ?_ (fun x _ => ec_yes) (fun x hx _ => ?_)).is (us := (sortS (m.map (·.1))).map (pairW m)) ?_)) (h _ _ (Grow.new hp) ?_ fun w hw => ?_)
      · rw [List.length_map, (sortS_perm _).length_eq, List.length_map, List.length_map]
        omega
      · rw [keysS] at hx
        obtain ⟨k, hk, rfl⟩ := List.mem_map.mp hx
        obtain ⟨v, hv⟩ := valS_some ((sortS_perm _).mem_iff.mp hk)
        refine ed_tup (es_cons (ed_var rfl) (es_cons (ed_dget (k := Sum.inr k) (ed_var rfl) (ed_var rfl) mset_same ?_) es_nil)) (Nat.le_of_ble_eq_true rfl)
        rw [encS_val, hv]
        rfl
      · rw [keysS, List.filter_eq_self.mpr (fun _ _ => rfl), List.map_map]
        apply List.map_congr_left
        intro k _
        rfl
      · rw [List.length_map, (sortS_perm _).length_eq, List.length_map]
        omega
      · obtain ⟨k, hk, rfl⟩ := List.mem_map.mp hw
        obtain ⟨v, hv⟩ := valS_some ((sortS_perm _).mem_iff.mp hk)
        have hok := hm _ (valS_mem hv)
        unfold pairW
        rw [hv]
        refine good_tup (n := 0) fun t ht => ?_
        rcases List.mem_cons.mp ht with e | ht
        · rw [e]
          exact good_str hok.1
        · rw [List.mem_singleton.mp ht]
          exact good_str hok.2

theorem sc__law_is_int : FnScope ["value", "least", "most"] ["value", "least", "most"] (defScope s__law_is_int) := ⟨rfl, rfl, rfl, by decide +kernel, rfl, by decide +kernel, by decide +kernel⟩
theorem ok__law_is_int {f : Addr} {fd : FuncData} (F : FnP K "_law_is_int" s__law_is_int f fd) (g : mg "_law_is_int" = some (.ref f))
    (z_isinstance : mg "isinstance" = none) (z_bool : mg "bool" = none) (z_int : mg "int" = none) : Def P w K mg base 1 "_law_is_int" ["value", "least", "most"] (spP K W__law_is_int) := by
  refine def_mk F g (F.bindsN fun _ _ _ _ _ _ us hl => match us, hl with | [_, _, _], _ => rfl) (fn_pure F sc__law_is_int ?_ ?_)
  · rintro _ _ _ ⟨⟩
    rfl
  · intro ds μ d W
    cases W
    rename_i x d lo hi z
    intro cdv A outer s H E hr
    refine ⟨_, pss_one (ps_ret (pe_and (pe_callB call_isi (by rfl) z_isinstance (by decide +kernel) (pa_cons (pv 0) (pa_cons (pe_bltn (v := V.ty "int") (by rfl) z_int (by decide +kernel) rfl) pa_nil))) (pe_and (pe_not (pe_callB call_isi (by rfl) z_isinstance (by decide +kernel) (pa_cons (pv 0) (pa_cons (pe_bltn (v := V.ty "bool") (by rfl) z_bool (by decide +kernel) rfl) pa_nil)))) (pe_and (pe_cmpR op_le (pv 1) (pv 0) (nomark _)) (pe_one (pe_cmpR op_le (pv 0) (pv 2) (nomark _))))))), ?_⟩
    cases d with
    | int i =>
      cases z
      exact run_ret (ed_and (ed_isInt (ed_var rfl) .int) fun _ => ed_and (ed_not (ed_isBool (ed_var rfl) .int)) fun _ => ed_and (ed_le (ed_var rfl) (ed_var rfl)) fun _ => ed_le (ed_var rfl) (ed_var rfl)) rfl
    | bool b => exact run_ret (ed_and (ed_isInt (ed_var rfl) z) fun _ => ed_and (b := false) (ed_not (ed_isBool (ed_var rfl) z)) fun h => absurd (show (!("bool" == "bool")) = true from h) (by decide +kernel)) rfl
    | none => exact run_ret (ed_and (b := false) (ed_isInt (ed_var rfl) z) fun h => absurd (show ("NoneType" == "int" || "NoneType" == "bool") = true from h) (by decide +kernel)) rfl
    | str y => exact run_ret (ed_and (b := false) (ed_isInt (ed_var rfl) z) fun h => absurd (show ("str" == "int" || "str" == "bool") = true from h) (by decide +kernel)) rfl
    | list y => exact run_ret (ed_and (b := false) (ed_isInt (ed_var rfl) z) fun h => absurd (show ("list" == "int" || "list" == "bool") = true from h) (by decide +kernel)) rfl
    | tuple y => exact run_ret (ed_and (b := false) (ed_isInt (ed_var rfl) z) fun h => absurd (show ("tuple" == "int" || "tuple" == "bool") = true from h) (by decide +kernel)) rfl
    | dict y => exact absurd (dw_notD z) (fun h => h)

theorem sc__law_rows : FnScope ["rich", "rows", "k", "rest", "client"] ["rich"] (defScope s__law_rows) := ⟨rfl, rfl, rfl, by decide +kernel, rfl, by decide +kernel, by decide +kernel⟩
theorem ok__law_rows {f : Addr} {fd : FuncData} (F : FnP K "_law_rows" s__law_rows f fd) (g : mg "_law_rows" = some (.ref f))
    (z_range : mg "range" = none) (D__law_answer : Def P w K mg base 3 "_law_answer" ["rich"] (spM K W__law_answer)) (z_tuple : mg "tuple" = none) (z_sorted : mg "sorted" = none) : Def P w K mg base 4 "_law_rows" ["rich"] (spM K W__law_rows) := by
  refine def_mk F g (F.bindsN fun _ _ _ _ _ _ us hl => match us, hl with | [_], _ => rfl) (fn_mut F sc__law_rows ?_ ?_)
  · rintro _ _ _ _ ⟨⟩
    rfl
  · intro ds μ Pq X W
    cases W
    rename_i r h
    intro cdv A outer s H E hr
    refine ⟨_, pss_cons (ps_set (i := 1) sc__law_rows.nd rfl (Or.inr rfl) pe_dnewK)
      (pss_cons (ps_for PassesOwn.never rfl (pi_range1 rfl z_range (pa_cons (pe_op op_mod (pv 0) pe_int) pa_nil)) (pg_name (i := 2) sc__law_rows.nd rfl (Or.inl rfl)) (pss_cons (ps_set (i := 3) sc__law_rows.nd rfl (Or.inl rfl) (pe_op op_add (pe_op op_fdiv (pv 0) pe_int) (pe_op op_mul pe_int (pv 2))))
      (pss_one (ps_dput (hu_of hr) (pv 1) (pe_op op_sub (pe_un un_neg pe_int) (pe_op op_mod (pv 3) pe_int)) (pe_tup (pa_cons (pe_op op_add pe_int (pe_op op_mod (pe_op op_fdiv (pv 3) pe_int) pe_int)) (pa_cons (pe_callM E D__law_answer (hr.mono (by decide)) rfl (pa_cons (pe_op op_fdiv (pv 3) pe_int) pa_nil)) pa_nil))) rfl))))
      (pss_one (ps_ret (pe_callTy cr_tupL (by rfl) z_tuple (by decide +kernel) (pa_cons (pe_lc (own := [("client", 4)]) (g := gName 4) (tt := tYes) (by rfl) sc__law_rows.nd (pi_list (pe_callB (cr_srtDI rfl) (by rfl) z_sorted (by decide +kernel) (pa_cons (pv 1) pa_nil))) (blkOk_by (own := [("client", 4)]) (N := ["rich", "rows", "k", "rest", "client"]) (sc := defScope s__law_rows) (by decide +kernel)) (fun _ _ _ _ _ => pg_name (i := 4) sc__law_rows.nd rfl (Or.inl rfl)) (fun _ _ _ _ _ => pts_nil) (fun _ _ _ _ _ => (pe_tup (pa_cons (pv 4) (pa_cons (pe_ix (r := rIxT K) ix_tup (pe_dget (hu_of hr) (pv 1) (pv 4) (fun _ _ => rfl)) pe_int (fun _ _ => rfl)) (pa_cons (pe_ix (r := rIxT K) ix_tup (pe_dget (hu_of hr) (pv 1) (pv 4) (fun _ _ => rfl)) pe_int (fun _ _ => rfl)) pa_nil)))))) pa_nil))))), ?_⟩
    refine rm_setW ew_newD fun w0 μ0 hP => ?_
    obtain ⟨p, hp, rfl, hμ0⟩ := hP
    have L0 : μ0 p = some (.dk (encI [])) := by rw [hμ0]; exact mset_same
    have G0 : ∀ b o, b ≠ p → μ b = some o → μ0 b = some o := fun b o n e => by rw [hμ0, mset_ne n]; exact e
    have hpf : ∀ b o, μ b = some o → b ≠ p := fun b o e q => by
      rw [q, hp] at e
      cases e
    clear hμ0
    have m0 : 0 ≤ r % 4 := Int.emod_nonneg _ (by decide)
    have m1 : r % 4 < 4 := Int.emod_lt_of_pos _ (by decide)
    refine rm_range (es_cons (ed_mod (ed_var rfl) ed_int (by decide)) es_nil) ⟨by omega, by omega⟩ (fun i ρ μ' => ∃ (x2 x3 : Option W) (m : List (Int × W)), ρ = [some (.int r), some (.ref p), x2, x3, none] ∧ μ' p = some (.dk (encI m)) ∧ Grow μ μ' ∧ m.length ≤ i ∧ ∀ q ∈ m, ∃ n w, q.2 = .tup [.int n, w] ∧ Good 9 μ' w) ⟨none, none, [], rfl, L0, (fun b o e => G0 b o (hpf b o e) e), Nat.le_refl _, fun q hq => by cases hq⟩ (fun i ρ μ' hi hI => ?_) (fun ρ μ' hI => ?_)
    · obtain ⟨x2, x3, m, rfl, Lp, hg, hlen, hm⟩ := hI
      refine rm_set (ed_add (ed_div (ed_var rfl) ed_int ⟨by decide, by decide⟩) (ed_mul ed_int (ed_var rfl) (.inl ⟨by decide, by decide⟩))) ?_
      generalize r / 4 + 1009 * (i : Int) = rest
      refine rm_dputW (P1 := fun x μ1 => ∃ n w, x = .tup [.int n, w] ∧ Good 9 μ1 w ∧ Grow μ' μ1) (ew_tup (P := fun ws μ1 => ∃ n w, ws = [.int n, w] ∧ Good 9 μ1 w ∧ Grow μ' μ1) (ea_consP (w := .int (1 + rest / 100 % 20)) (ed_add ed_int (ed_mod (ed_div (ed_var rfl) ed_int ⟨by decide, by decide⟩) ed_int (by decide))) (ea_cons (P := fun w μ1 => Good 9 μ1 w ∧ Grow μ' μ1) (ew_call (es_cons (ed_div (ed_var rfl) ed_int ⟨by decide, by decide⟩) es_nil) (W__law_answer.mk fun ws μ1 g _ _ hg => ⟨good_tup hg, g⟩)) fun w μ1 hw => ea_pure es_nil ⟨_, w, rfl, hw.1, hw.2⟩)) (fun ws μ1 hws => ?_)) (fun x μ1 hx => ?_)
      · obtain ⟨n, w, rfl, gw, g1⟩ := hws
        exact ⟨Nat.le_of_ble_eq_true rfl, n, w, rfl, gw, g1⟩
      · obtain ⟨n, w, rfl, gw, g1⟩ := hx
        refine ⟨p, encI m, Sum.inl (-1 - rest % 100), ed_var rfl, ed_sub (i := -1) (j := rest % 100) (ed_neg (i := 1) ed_int) (ed_mod (i := rest) (j := 100) (ed_var rfl) ed_int (by decide)), g1 _ _ Lp, ?_, ⟨_, _, putI m (-1 - rest % 100) (.tup [.int n, w]), rfl, ?_, ?_, ?_, ?_⟩⟩
        · unfold encI
          rw [List.length_map]
          omega
        · rw [mset_same, encI_put]
        · exact fun b o e => by
            rw [mset_ne (hpf b o e)]
            exact g1 _ _ (hg _ _ e)
        · have := putI_len m (-1 - rest % 100) (.tup [.int n, w])
          omega
        · intro q hq
          have Lp1 := g1 _ _ Lp
          exact putI_all (C := fun x => ∃ n' w', x = .tup [.int n', w'] ∧ Good 9 (mset μ1 p (.dk (putW (encI m) (Sum.inl (-1 - rest % 100)) (.tup [.int n, w])))) w') (fun q hq => by
            obtain ⟨n2, w2, e2, g2⟩ := hm q hq
            exact ⟨n2, w2, e2, (g2.grow g1).dict Lp1⟩) ⟨n, w, rfl, gw.dict Lp1⟩ q hq
    · obtain ⟨x2, x3, m, rfl, Lp, hg, hlen, hm⟩ := hI
      have hlen : m.length ≤ 4 := by omega
      refine rm_ret (ed_tupL ((el_lc (fun _ => true) (rowO m) (el_srtDI (es_cons (ed_var rfl) es_nil) Lp (by omega)) ?_ (fun x _ => ec_yes) (fun x hx _ => ?_)).is (us := (sortI (m.map (·.1))).map fun c => rowO m (.int c)) ?_)) (h _ _ hg ?_ fun w hw => ?_)
      · rw [List.length_map, (sortI_perm _).length_eq, List.length_map]
        omega
      · obtain ⟨c, hc, rfl⟩ := List.mem_map.mp hx
        obtain ⟨v, hv, hvm⟩ := valI_some ((sortI_perm _).mem_iff.mp hc)
        obtain ⟨n, w, e, gw⟩ := hm _ hvm
        have e : v = .tup [.int n, w] := e
        subst e
        rw [rowO_at hv]
        have ev : valW (encI m) (Sum.inl c) = some (.tup [.int n, w]) := by rw [encI_val, hv]
        exact ed_tup (es_cons (ed_var rfl) (es_cons (ed_ixT (ed_dget (k := Sum.inl c) (ed_var rfl) (ed_var rfl) Lp ev) ed_int (by decide) rfl) (es_cons (ed_ixT (ed_dget (k := Sum.inl c) (ed_var rfl) (ed_var rfl) Lp ev) ed_int (by decide) rfl) es_nil))) (Nat.le_of_ble_eq_true rfl)
      · rw [List.filter_eq_self.mpr (fun _ _ => rfl), List.map_map]
        rfl
      · rw [List.length_map, (sortI_perm _).length_eq, List.length_map]
        omega
      · obtain ⟨c, hc, rfl⟩ := List.mem_map.mp hw
        obtain ⟨v, hv, hvm⟩ := valI_some ((sortI_perm _).mem_iff.mp hc)
        obtain ⟨n, w, e, gw⟩ := hm _ hvm
        have e : v = .tup [.int n, w] := e
        subst e
        rw [rowO_at hv]
        refine good_tup (n := 9) fun t ht => ?_
        rcases List.mem_cons.mp ht with e | ht
        · rw [e]
          exact good_int
        rcases List.mem_cons.mp ht with e | ht
        · rw [e]
          exact good_int
        · rw [List.mem_singleton.mp ht]
          exact gw

theorem sc__law_letter : FnScope ["rich", "kinds", "kind", "rest", "number", "low", "high", "at"] ["rich"] (defScope s__law_letter) := ⟨rfl, rfl, rfl, by decide +kernel, rfl, by decide +kernel, by decide +kernel⟩
theorem ok__law_letter {f : Addr} {fd : FuncData} (F : FnP K "_law_letter" s__law_letter f fd) (g : mg "_law_letter" = some (.ref f))
    (D__law_bound : Def P w K mg base 3 "_law_bound" ["rich"] (spP K W__law_bound)) (D__law_operation : Def P w K mg base 4 "_law_operation" ["rich"] (spM K W__law_operation)) (D__law_answer : Def P w K mg base 3 "_law_answer" ["rich"] (spM K W__law_answer)) (D__law_range : Def P w K mg base 4 "_law_range" ["rich"] (spP K W__law_range)) (z_len : mg "len" = none) (D__law_rows : Def P w K mg base 4 "_law_rows" ["rich"] (spM K W__law_rows)) (D__law_pairs : Def P w K mg base 3 "_law_pairs" ["low", "high", "rich"] (spM K W__law_pairs)) : Def P w K mg base 5 "_law_letter" ["rich"] (spM K W__law_letter) := by
  refine def_mk F g (F.bindsN fun _ _ _ _ _ _ us hl => match us, hl with | [_], _ => rfl) (fn_mut F sc__law_letter ?_ ?_)
  · rintro _ _ _ _ ⟨⟩
    rfl
  · intro ds μ Pq X W
    cases W
    rename_i r h
    intro cdv A outer s H E hr
    refine ⟨_, pss_cons (ps_set (i := 1) sc__law_letter.nd rfl (Or.inl rfl) (pe_lst (pa_cons pe_str (pa_cons pe_str (pa_cons pe_str (pa_cons pe_str (pa_cons pe_str (pa_cons pe_str (pa_cons pe_str (pa_cons pe_str (pa_cons pe_str (pa_cons pe_str (pa_cons pe_str pa_nil)))))))))))))
      (pss_cons (ps_set (i := 2) sc__law_letter.nd rfl (Or.inl rfl) (pe_ix ix_list (pv 1) (pe_op op_mod (pv 0) pe_int) (fun _ _ => rfl)))
      (pss_cons (ps_set (i := 3) sc__law_letter.nd rfl (Or.inl rfl) (pe_op op_fdiv (pv 0) pe_int))
      (pss_cons (ps_set (i := 4) sc__law_letter.nd rfl (Or.inl rfl) (pe_op op_add pe_int (pe_op op_mod (pv 3) pe_int)))
      (pss_cons (ps_if (pt_cmpR op_eq (pv 2) pe_str (nomark _)) (pss_one (ps_ret (pe_tup (pa_cons (pv 2) (pa_cons (pe_callD D__law_bound (hr.mono (by decide)) rfl (pa_cons (pv 3) pa_nil)) pa_nil))))) pss_nil)
      (pss_cons (ps_if (pt_cmpR op_eq (pv 2) pe_str (nomark _)) (pss_one (ps_ret (pe_tup (pa_cons (pv 2) (pa_cons (pv 4) (pa_cons (pe_callM E D__law_operation (hr.mono (by decide)) rfl (pa_cons (pe_op op_fdiv (pv 3) pe_int) pa_nil)) pa_nil)))))) pss_nil)
      (pss_cons (ps_if (pt_cmpR op_eq (pv 2) pe_str (nomark _)) (pss_one (ps_ret (pe_tup (pa_cons (pv 2) (pa_cons (pv 4) (pa_cons (pe_callM E D__law_answer (hr.mono (by decide)) rfl (pa_cons (pe_op op_fdiv (pv 3) pe_int) pa_nil)) pa_nil)))))) pss_nil)
      (pss_cons (ps_if (pt_cmpR op_eq (pv 2) pe_str (nomark _)) (pss_one (ps_ret (pe_tup (pa_cons (pv 2) (pa_cons (pv 4) pa_nil))))) pss_nil)
      (pss_cons (ps_asg (pe_callD D__law_range (hr.mono (by decide)) rfl (pa_cons (pe_op op_fdiv (pv 3) pe_int) pa_nil)) (pg_tup (by rfl) (pgs_cons (pg_name (i := 5) sc__law_letter.nd rfl (Or.inl rfl)) (pgs_cons (pg_name (i := 6) sc__law_letter.nd rfl (Or.inl rfl)) pgs_nil))))
      (pss_cons (ps_if (pt_cmpR op_eq (pv 2) pe_str (nomark _)) (pss_cons (ps_if (PW.pt (pw_or (pt_cmpR op_isNo (pv 6) pe_non (nomark _)) (pw_or1 (pt_cmpR op_eq (pv 6) pe_str (nomark _))))) (pss_one (ps_ret (pe_tup (pa_cons (pv 2) (pa_cons pe_str (pa_cons pe_str (pa_cons (pv 4) (pa_cons (pv 6) (pa_cons (pe_op op_add pe_int (pe_op op_mod (pe_op op_fdiv (pv 3) pe_int) pe_int)) pa_nil))))))))) pss_nil)
      (pss_one (ps_ret (pe_tup (pa_cons (pv 2) (pa_cons (pv 5) (pa_cons (pv 6) (pa_cons (pv 4) (pa_cons pe_non (pa_cons (pe_op op_add pe_int (pe_op op_mod (pe_op op_fdiv (pv 3) pe_int) pe_int)) pa_nil)))))))))) pss_nil)
      (pss_cons (ps_if (PW.pt (pw_or (pt_cmpR op_eq (pv 2) pe_str (nomark _)) (pw_or1 (pt_cmpR op_eq (pv 2) pe_str (nomark _))))) (pss_one (ps_ret (pe_tup (pa_cons (pv 2) (pa_cons (pv 5) (pa_cons (pv 6) (pa_cons (pv 4) (pa_cons (pe_op op_mod (pe_op op_fdiv (pv 3) pe_int) pe_int) pa_nil)))))))) pss_nil)
      (pss_cons (ps_if (pt_cmpR op_eq (pv 2) pe_str (nomark _)) (pss_cons (ps_set (i := 7) sc__law_letter.nd rfl (Or.inl rfl) (pe_ifExp (pt_cmpR op_lt (pe_callB cr_len (by rfl) z_len (by decide +kernel) (pa_cons (pv 5) pa_nil)) pe_int (nomark _)) (pe_op op_addS (pv 5) pe_str) pe_str))
      (pss_one (ps_ret (pe_tup (pa_cons (pv 2) (pa_cons (pv 5) (pa_cons (pv 6) (pa_cons (pv 4) (pa_cons (pv 7) pa_nil))))))))) pss_nil)
      (pss_cons (ps_if (pt_cmpR op_eq (pv 2) pe_str (nomark _)) (pss_one (ps_ret (pe_tup (pa_cons (pv 2) (pa_cons (pv 5) (pa_cons (pv 6) (pa_cons (pv 4) (pa_cons (pe_op op_mod (pe_op op_fdiv (pv 3) pe_int) pe_int) (pa_cons (pe_callD D__law_bound (hr.mono (by decide)) rfl (pa_cons (pe_op op_fdiv (pv 3) pe_int) pa_nil)) pa_nil))))))))) pss_nil)
      (pss_cons (ps_if (pt_cmpR op_eq (pv 2) pe_str (nomark _)) (pss_one (ps_ret (pe_tup (pa_cons (pv 2) (pa_cons (pv 5) (pa_cons (pv 6) (pa_cons (pv 4) (pa_cons (pe_callM E D__law_pairs (hr.mono (by decide)) rfl (pa_cons (pv 5) (pa_cons (pv 6) (pa_cons (pe_op op_fdiv (pv 3) pe_int) pa_nil)))) (pa_cons (pe_callM E D__law_rows (hr.mono (by decide)) rfl (pa_cons (pe_op op_fdiv (pv 3) pe_int) pa_nil)) pa_nil))))))))) pss_nil)
      (pss_one (ps_ret (pe_tup (pa_cons (pv 2) (pa_cons (pv 5) (pa_cons (pv 6) (pa_cons (pv 4) pa_nil)))))))))))))))))))), ?_⟩
    have b1 : 0 ≤ r % 11 := Int.emod_nonneg _ (by decide)
    have b2 : r % 11 < 11 := Int.emod_lt_of_pos _ (by decide)
    refine rm_setW (ew_lst (xs := (["ask", "where", "answer", "elsewhere", "there", "move", "split", "join", "have", "content", "receipt"] : List Str).map W.str) (es_cons ed_str (es_cons ed_str (es_cons ed_str (es_cons ed_str (es_cons ed_str (es_cons ed_str (es_cons ed_str (es_cons ed_str (es_cons ed_str (es_cons ed_str (es_cons ed_str es_nil))))))))))) (Nat.le_of_ble_eq_true rfl)) fun w0 μ1 hP => ?_
    obtain ⟨p, hp, rfl, hμ⟩ := hP
    have G1 : Grow μ μ1 := by rw [hμ]; exact Grow.new hp
    have Lp : μ1 p = some (.ls ((["ask", "where", "answer", "elsewhere", "there", "move", "split", "join", "have", "content", "receipt"] : List Str).map W.str)) := by rw [hμ]; exact mset_same
    clear hμ
    obtain ⟨kd, hkd, okd⟩ : ∃ kd : Str, ((["ask", "where", "answer", "elsewhere", "there", "move", "split", "join", "have", "content", "receipt"] : List Str).map W.str)[(r % 11).toNat]? = some (.str kd) ∧ okS kd := by
      have q : (r % 11).toNat < (["ask", "where", "answer", "elsewhere", "there", "move", "split", "join", "have", "content", "receipt"] : List Str).length := by
        show (r % 11).toNat < 11
        omega
      exact ⟨_, by rw [List.getElem?_map, List.getElem?_eq_getElem q]; rfl, okS_mem (by decide +kernel) (List.getElem_mem q)⟩
    refine rm_set (ed_ixL (x := .str kd) (ed_var rfl) (ed_mod (ed_var rfl) ed_int (by decide)) (.inl Lp) b1 hkd) ?_
    refine rm_set (ed_div (ed_var rfl) ed_int ⟨by decide, by decide⟩) ?_
    generalize r / 11 = rest
    refine rm_set (ed_add ed_int (ed_mod (ed_var rfl) ed_int (by decide))) ?_
    generalize 1 + rest % 30 = number
    refine rm_ifs (ec_test (ed_eqS (ed_var rfl) ed_str)) (fun _ => ?_) (fun _ => rm_nexts ?_)
    · exact rm_retS (ed_tup (es_cons (ed_var rfl) (es_cons (ed_call (es_cons (ed_var rfl) es_nil) W__law_bound.mk) es_nil)) (Nat.le_of_ble_eq_true rfl)) (h kd _ _ G1 (Nat.le_of_ble_eq_true rfl) (gcons (good_str (okS_bound _)) gnil) okd)
    refine rm_ifs (ec_test (ed_eqS (ed_var rfl) ed_str)) (fun _ => ?_) (fun _ => rm_nexts ?_)
    · exact rm_retWS (ew_tup (P := fun ws μ2 => ws.length ≤ 100000 ∧ Pq (.tup ws) μ2) (ea_consP (ed_var rfl) (ea_consP (ed_var rfl) (ea_cons (P := fun w μ2 => ∃ op, okOp op ∧ w = opW op ∧ μ2 = μ1) (ew_call (es_cons (ed_div (ed_var rfl) ed_int ⟨by decide, by decide⟩) es_nil) (W__law_operation.mk fun op ho => ⟨op, ho, rfl, rfl⟩)) fun w μ2 hw => ea_pure es_nil (by
        obtain ⟨op, ho, rfl, rfl⟩ := hw
        exact ⟨(Nat.le_of_ble_eq_true rfl), (h kd _ _ G1 (Nat.le_of_ble_eq_true rfl) (gcons good_int (gcons (good_op (n := 11) ho) gnil)) okd)⟩)))) fun _ _ q => q)
    refine rm_ifs (ec_test (ed_eqS (ed_var rfl) ed_str)) (fun _ => ?_) (fun _ => rm_nexts ?_)
    · exact rm_retWS (ew_tup (P := fun ws μ2 => ws.length ≤ 100000 ∧ Pq (.tup ws) μ2) (ea_consP (ed_var rfl) (ea_consP (ed_var rfl) (ea_cons (P := fun w μ2 => Good 9 μ2 w ∧ Grow μ1 μ2) (ew_call (es_cons (ed_div (ed_var rfl) ed_int ⟨by decide, by decide⟩) es_nil) (W__law_answer.mk fun ws μ2 g _ _ hg => ⟨good_tup hg, g⟩)) fun w μ2 hw => ea_pure es_nil (by
        obtain ⟨gw, g2⟩ := hw
        exact ⟨(Nat.le_of_ble_eq_true rfl), (h kd _ _ (G1.trans g2) (Nat.le_of_ble_eq_true rfl) (gcons good_int (gcons (gw.le (by decide)) gnil)) okd)⟩)))) fun _ _ q => q)
    refine rm_ifs (ec_test (ed_eqS (ed_var rfl) ed_str)) (fun _ => ?_) (fun _ => rm_nexts ?_)
    · exact rm_retS (ed_tup (es_cons (ed_var rfl) (es_cons (ed_var rfl) es_nil)) (Nat.le_of_ble_eq_true rfl)) (h kd _ _ G1 (Nat.le_of_ble_eq_true rfl) (gcons good_int gnil) okd)
    refine rm_pair (ed_call (es_cons (ed_div (ed_var rfl) ed_int ⟨by decide, by decide⟩) es_nil) W__law_range.mk) ?_
    obtain ⟨lo1, lo2, hi1⟩ := rangeF_ok (rest / 30)
    generalize (Pd.rangeF (rest / 30)).1 = lo at lo1 lo2
    generalize (Pd.rangeF (rest / 30)).2 = hi at hi1
    refine rm_ifs (ec_test (ed_eqS (ed_var rfl) ed_str)) (fun _ => ?_) (fun _ => rm_nexts ?_)
    · cases hi with
      | none => exact rm_assoc (rm_ifs (ec_or (b := true) (ec_test (ed_isN (x := W.non) (ed_var rfl))) fun h => absurd (show true = false from h) (by decide)) (fun _ => rm_retS (ed_tup (es_cons (ed_var rfl) (es_cons ed_str (es_cons ed_str (es_cons (ed_var rfl) (es_cons (ed_var rfl) (es_cons (ed_add ed_int (ed_mod (ed_div (ed_var rfl) ed_int ⟨by decide, by decide⟩) ed_int (by decide))) es_nil)))))) (Nat.le_of_ble_eq_true rfl)) (h kd _ _ G1 (Nat.le_of_ble_eq_true rfl) (gcons (good_str (okS_lit (by decide +kernel))) (gcons (good_str (okS_lit (by decide +kernel))) (gcons good_int (gcons good_non (gcons good_int gnil))))) okd)) (fun _ => rm_nexts (rm_retS (ed_tup (es_cons (ed_var rfl) (es_cons (ed_var rfl) (es_cons (ed_var rfl) (es_cons (ed_var rfl) (es_cons ed_non (es_cons (ed_add ed_int (ed_mod (ed_div (ed_var rfl) ed_int ⟨by decide, by decide⟩) ed_int (by decide))) es_nil)))))) (Nat.le_of_ble_eq_true rfl)) (h kd _ _ G1 (Nat.le_of_ble_eq_true rfl) (gcons (good_str lo1) (gcons good_non (gcons good_int (gcons good_non (gcons good_int gnil))))) okd))))
      | some z => exact rm_assoc (rm_ifs (ec_or (ec_test (ed_isN (x := W.str z) (ed_var rfl))) fun _ => ec_test (ed_eqS (ed_var rfl) ed_str)) (fun _ => rm_retS (ed_tup (es_cons (ed_var rfl) (es_cons ed_str (es_cons ed_str (es_cons (ed_var rfl) (es_cons (ed_var rfl) (es_cons (ed_add ed_int (ed_mod (ed_div (ed_var rfl) ed_int ⟨by decide, by decide⟩) ed_int (by decide))) es_nil)))))) (Nat.le_of_ble_eq_true rfl)) (h kd _ _ G1 (Nat.le_of_ble_eq_true rfl) (gcons (good_str (okS_lit (by decide +kernel))) (gcons (good_str (okS_lit (by decide +kernel))) (gcons good_int (gcons (good_str (hi1 z rfl)) (gcons good_int gnil))))) okd)) (fun _ => rm_nexts (rm_retS (ed_tup (es_cons (ed_var rfl) (es_cons (ed_var rfl) (es_cons (ed_var rfl) (es_cons (ed_var rfl) (es_cons ed_non (es_cons (ed_add ed_int (ed_mod (ed_div (ed_var rfl) ed_int ⟨by decide, by decide⟩) ed_int (by decide))) es_nil)))))) (Nat.le_of_ble_eq_true rfl)) (h kd _ _ G1 (Nat.le_of_ble_eq_true rfl) (gcons (good_str lo1) (gcons (good_str (hi1 z rfl)) (gcons good_int (gcons good_non (gcons good_int gnil))))) okd))))
    refine rm_ifs (ec_or (ec_test (ed_eqS (ed_var rfl) ed_str)) fun _ => ec_test (ed_eqS (ed_var rfl) ed_str)) (fun _ => ?_) (fun _ => rm_nexts ?_)
    · exact rm_retS (ed_tup (es_cons (ed_var rfl) (es_cons (ed_var rfl) (es_cons (ed_var rfl) (es_cons (ed_var rfl) (es_cons (ed_mod (ed_div (ed_var rfl) ed_int ⟨by decide, by decide⟩) ed_int (by decide)) es_nil))))) (Nat.le_of_ble_eq_true rfl)) (h kd _ _ G1 (Nat.le_of_ble_eq_true rfl) (gcons (good_str lo1) (gcons (good_oW hi1) (gcons good_int (gcons good_int gnil)))) okd)
    refine rm_ifs (ec_test (ed_eqS (ed_var rfl) ed_str)) (fun _ => ?_) (fun _ => rm_nexts ?_)
    · have oa : okS (if (lo.length : Int) < 8 then lo ++ "a" else "zzzzzzzz") := by
        split
        · refine ⟨?_, strOk_app lo1.2 (by decide +kernel)⟩
          have e : (lo ++ ("a" : Str)).length = lo.length + 1 := by
            show (lo.cps ++ ("a" : Str).cps).size = _
            rw [Array.size_append]
            rfl
          omega
        · exact okS_lit (by decide +kernel)
      refine rm_assoc (rm_set (d := .str (if (lo.length : Int) < 8 then lo ++ "a" else "zzzzzzzz")) (ed_if (ec_test (ed_lt (ed_lenS (es_cons (ed_var rfl) es_nil) (sz_of (by omega))) ed_int)) (fun c => ?_) (fun c => ?_)) ?_)
      · rw [if_pos (of_decide_eq_true c)]
        exact ed_addS (ed_var rfl) ed_str (sz_of (by
          have : ("a" : Str).length = 1 := rfl
          omega))
      · rw [if_neg (of_decide_eq_false c)]
        exact ed_str
      · exact rm_retS (ed_tup (es_cons (ed_var rfl) (es_cons (ed_var rfl) (es_cons (ed_var rfl) (es_cons (ed_var rfl) (es_cons (ed_var rfl) es_nil))))) (Nat.le_of_ble_eq_true rfl)) (h kd _ _ G1 (Nat.le_of_ble_eq_true rfl) (gcons (good_str lo1) (gcons (good_oW hi1) (gcons good_int (gcons (good_str oa) gnil)))) okd)
    refine rm_ifs (ec_test (ed_eqS (ed_var rfl) ed_str)) (fun _ => ?_) (fun _ => rm_nexts ?_)
    · exact rm_retS (ed_tup (es_cons (ed_var rfl) (es_cons (ed_var rfl) (es_cons (ed_var rfl) (es_cons (ed_var rfl) (es_cons (ed_mod (ed_div (ed_var rfl) ed_int ⟨by decide, by decide⟩) ed_int (by decide)) (es_cons (ed_call (es_cons (ed_div (ed_var rfl) ed_int ⟨by decide, by decide⟩) es_nil) W__law_bound.mk) es_nil)))))) (Nat.le_of_ble_eq_true rfl)) (h kd _ _ G1 (Nat.le_of_ble_eq_true rfl) (gcons (good_str lo1) (gcons (good_oW hi1) (gcons good_int (gcons good_int (gcons (good_str (okS_bound _)) gnil))))) okd)
    refine rm_ifs (ec_test (ed_eqS (ed_var rfl) ed_str)) (fun _ => ?_) (fun _ => rm_nexts ?_)
    · exact rm_retWS (ew_tup (P := fun ws μ2 => ws.length ≤ 100000 ∧ Pq (.tup ws) μ2) (ea_consP (ed_var rfl) (ea_consP (ed_var rfl) (ea_consP (ed_var rfl) (ea_consP (ed_var rfl) (ea_cons (P := fun w μ2 => Good 2 μ2 w ∧ Grow μ1 μ2) (ew_call (es_cons (ed_var rfl) (es_cons (ed_var rfl) (es_cons (ed_div (ed_var rfl) ed_int ⟨by decide, by decide⟩) es_nil))) (W__law_pairs.mk fun ws μ2 g _ hg => ⟨good_tup hg, g⟩)) fun w μ2 hw => ea_cons (P := fun w2 μ3 => Good 11 μ3 w2 ∧ Grow μ2 μ3) (ew_call (es_cons (ed_div (ed_var rfl) ed_int ⟨by decide, by decide⟩) es_nil) (W__law_rows.mk fun ws μ3 g _ hg => ⟨good_tup hg, g⟩)) fun w2 μ3 hw2 => ea_pure es_nil (by
        obtain ⟨gw, g2⟩ := hw
        obtain ⟨gw2, g3⟩ := hw2
        exact ⟨(Nat.le_of_ble_eq_true rfl), (h kd _ _ (G1.trans (g2.trans g3)) (Nat.le_of_ble_eq_true rfl) (gcons (good_str lo1) (gcons (good_oW hi1) (gcons good_int (gcons ((gw.grow g3).le (by decide)) (gcons (gw2.le (by decide)) gnil))))) okd)⟩)))))) fun _ _ q => q)
    · exact rm_ret (ed_tup (es_cons (ed_var rfl) (es_cons (ed_var rfl) (es_cons (ed_var rfl) (es_cons (ed_var rfl) es_nil)))) (Nat.le_of_ble_eq_true rfl)) (h kd _ _ G1 (Nat.le_of_ble_eq_true rfl) (gcons (good_str lo1) (gcons (good_oW hi1) (gcons good_int gnil))) okd)

theorem sc_is_letter : FnScope ["count", "value", "kind", "check"] ["count", "value"] (defScope s_is_letter) := ⟨rfl, rfl, rfl, by decide +kernel, rfl, by decide +kernel, by decide +kernel⟩
theorem ok_is_letter {f : Addr} {fd : FuncData} (F : FnP K "is_letter" s_is_letter f fd) (g : mg "is_letter" = some (.ref f))
    (t_FORMS : TabOf K w mg "FORMS" [("ask", "_is_ask"), ("where", "_is_where"), ("answer", "_is_told"), ("elsewhere", "_is_elsewhere"), ("there", "_names_server"), ("move", "_names_server"), ("split", "_is_split"), ("join", "_is_join"), ("have", "_is_have"), ("content", "_is_content"), ("receipt", "_is_receipt")]) (D_kind_of : Def P w K mg base 1 "kind_of" ["value"] (spP K W_kind_of)) (D__is_ask : Def P w K mg base 5 "_is_ask" ["count", "letter"] (spP K W__is_ask)) (D__is_where : Def P w K mg base 3 "_is_where" ["count", "letter"] (spP K W__is_where)) (D__is_told : Def P w K mg base 7 "_is_told" ["count", "letter"] (spP K W__is_told)) (D__is_elsewhere : Def P w K mg base 3 "_is_elsewhere" ["count", "letter"] (spP K W__is_elsewhere)) (D__names_server : Def P w K mg base 5 "_names_server" ["count", "letter"] (spP K W__names_server)) (D__is_split : Def P w K mg base 5 "_is_split" ["count", "letter"] (spP K W__is_split)) (D__is_join : Def P w K mg base 4 "_is_join" ["count", "letter"] (spP K W__is_join)) (D__is_have : Def P w K mg base 5 "_is_have" ["count", "letter"] (spP K W__is_have)) (D__is_content : Def P w K mg base 9 "_is_content" ["count", "letter"] (spP K W__is_content)) (D__is_receipt : Def P w K mg base 5 "_is_receipt" ["count", "letter"] (spP K W__is_receipt)) : Def P w K mg base 10 "is_letter" ["count", "value"] (spP K W_is_letter) := by
  refine def_mk F g (F.bindsN fun _ _ _ _ _ _ us hl => match us, hl with | [_, _], _ => rfl) (fn_pure F sc_is_letter ?_ ?_)
  · rintro _ _ _ ⟨⟩
    rfl
  · intro ds μ d W
    cases W
    rename_i c x d k z
    intro cdv A outer s H E hr
    obtain ⟨aA, kvs, gA, T, hkeys, hvals⟩ := t_FORMS.ex
    have keyIs : kvs.map (·.1) = (["ask", "where", "answer", "elsewhere", "there", "move", "split", "join", "have", "content", "receipt"] : List Str) := hkeys
    by_cases hin : kindS d ∈ (["ask", "where", "answer", "elsewhere", "there", "move", "split", "join", "have", "content", "receipt"] : List Str)
    · have go : ∀ (n : Nat) (y : Str) (Wf : List W → Mu → W → Prop), n ≤ 9 → Def P w K mg base n y ["count", "letter"] (spP K Wf) → (kindS d, y) ∈ ([("ask", "_is_ask"), ("where", "_is_where"), ("answer", "_is_told"), ("elsewhere", "_is_elsewhere"), ("there", "_names_server"), ("move", "_names_server"), ("split", "_is_split"), ("join", "_is_join"), ("have", "_is_have"), ("content", "_is_content"), ("receipt", "_is_receipt")] : List (Str × Str)) → Wf [.int c, x] μ (.bl (letterB c d)) →
          ∃ t, PSs (cxOf CX0 P w K mg base ["count", "value", "kind", "check"] "is_letter" (defScope s_is_letter) f cdv A outer s H E).nox (defBody s_is_letter) t ∧ Run K t (rho0 4 [.int c, x]) μ (fun _ => W.bl (letterB c d) = .non) (fun e => e = W.bl (letterB c d)) := by
        intro n y Wf hn D hp hw
        obtain ⟨f1, fd1, h1, g1, kp1, b1⟩ := D.ex
        obtain ⟨f2, g2, hkv⟩ := hvals _ hp
        have ef : f1 = f2 := by
          have q := g1.symm.trans g2
          cases q
          rfl
        subst ef
        refine ⟨_, pss_cons (ps_set (i := 2) sc_is_letter.nd rfl (Or.inl rfl) (pe_callD D_kind_of (hr.mono (by decide)) rfl (pa_cons (pv 1) pa_nil)))
          (pss_cons (ps_if (pt_cmpR (op_notInK T) (pv 2) (pe_glob (v := V.ref aA) rfl gA rfl) (by rfl)) (pss_one (ps_ret pe_bl)) pss_nil)
          (pss_cons (ps_set (i := 3) sc_is_letter.nd rfl (Or.inl rfl) (pe_ix ix_kdict (pe_glob (v := V.ref aA) rfl gA rfl) (pv 2) (fun _ _ => rfl)))
          (pss_one (ps_ret (pe_callL (i := 3) (E := E0) h1 (hr.mono hn) rfl (Or.inl rfl) kp1 b1 .nil pass0 (pa_cons (pv 0) (pa_cons (pv 1) pa_nil))))))), ?_⟩
        refine run_set (ed_call (es_cons (ed_var rfl) es_nil) (W_kind_of.mk z k)) ?_
        refine run_ifs (ec_test (ed_notInK T (ed_var rfl))) (fun cc => ?_) (fun cc => run_nexts ?_)
        · rw [keyIs, decide_eq_true hin] at cc
          cases cc
        · exact run_disp T hkv (ed_var rfl) (Nat.lt_of_lt_of_le (by decide : 3 < 4) (Nat.le_of_eq rfl)) (es_cons (ed_var rfl) (es_cons (ed_var rfl) es_nil)) hw rfl
      have hin2 := hin
      simp only [List.mem_cons, List.not_mem_nil, or_false] at hin2
      rcases hin2 with hk | hk | hk | hk | hk | hk | hk | hk | hk | hk | hk
      · obtain ⟨r, rfl⟩ := kind_tup hk (by decide +kernel)
        cases z with
        | tup zs =>
          have q := W__is_ask.mk (c := c) zs (okD_tup k)
          have e : askB c (.str "ask" :: r) = letterB c (.tuple (.str "ask" :: r)) := by
            unfold letterB
            rw [hk]
            rfl
          rw [e] at q
          exact go 5 "_is_ask" W__is_ask (by decide) D__is_ask (by rw [hk]; simp) q
      · obtain ⟨r, rfl⟩ := kind_tup hk (by decide +kernel)
        cases z with
        | tup zs =>
          have q := W__is_where.mk (c := c) zs (okD_tup k)
          have e : whereB c (.str "where" :: r) = letterB c (.tuple (.str "where" :: r)) := by
            unfold letterB
            rw [hk]
            rfl
          rw [e] at q
          exact go 3 "_is_where" W__is_where (by decide) D__is_where (by rw [hk]; simp) q
      · obtain ⟨r, rfl⟩ := kind_tup hk (by decide +kernel)
        cases z with
        | tup zs =>
          have q := W__is_told.mk (c := c) zs (okD_tup k)
          have e : tellB c (.str "answer" :: r) = letterB c (.tuple (.str "answer" :: r)) := by
            unfold letterB
            rw [hk]
            rfl
          rw [e] at q
          exact go 7 "_is_told" W__is_told (by decide) D__is_told (by rw [hk]; simp) q
      · obtain ⟨r, rfl⟩ := kind_tup hk (by decide +kernel)
        cases z with
        | tup zs =>
          have q := W__is_elsewhere.mk (c := c) zs (okD_tup k)
          have e : elseB c (.str "elsewhere" :: r) = letterB c (.tuple (.str "elsewhere" :: r)) := by
            unfold letterB
            rw [hk]
            rfl
          rw [e] at q
          exact go 3 "_is_elsewhere" W__is_elsewhere (by decide) D__is_elsewhere (by rw [hk]; simp) q
      · obtain ⟨r, rfl⟩ := kind_tup hk (by decide +kernel)
        cases z with
        | tup zs =>
          have q := W__names_server.mk (c := c) zs (okD_tup k)
          have e : servB c (.str "there" :: r) = letterB c (.tuple (.str "there" :: r)) := by
            unfold letterB
            rw [hk]
            rfl
          rw [e] at q
          exact go 5 "_names_server" W__names_server (by decide) D__names_server (by rw [hk]; simp) q
      · obtain ⟨r, rfl⟩ := kind_tup hk (by decide +kernel)
        cases z with
        | tup zs =>
          have q := W__names_server.mk (c := c) zs (okD_tup k)
          have e : servB c (.str "move" :: r) = letterB c (.tuple (.str "move" :: r)) := by
            unfold letterB
            rw [hk]
            rfl
          rw [e] at q
          exact go 5 "_names_server" W__names_server (by decide) D__names_server (by rw [hk]; simp) q
      · obtain ⟨r, rfl⟩ := kind_tup hk (by decide +kernel)
        cases z with
        | tup zs =>
          have q := W__is_split.mk (c := c) zs (okD_tup k)
          have e : splitB c (.str "split" :: r) = letterB c (.tuple (.str "split" :: r)) := by
            unfold letterB
            rw [hk]
            rfl
          rw [e] at q
          exact go 5 "_is_split" W__is_split (by decide) D__is_split (by rw [hk]; simp) q
      · obtain ⟨r, rfl⟩ := kind_tup hk (by decide +kernel)
        cases z with
        | tup zs =>
          have q := W__is_join.mk (c := c) zs (okD_tup k)
          have e : joinB c (.str "join" :: r) = letterB c (.tuple (.str "join" :: r)) := by
            unfold letterB
            rw [hk]
            rfl
          rw [e] at q
          exact go 4 "_is_join" W__is_join (by decide) D__is_join (by rw [hk]; simp) q
      · obtain ⟨r, rfl⟩ := kind_tup hk (by decide +kernel)
        cases z with
        | tup zs =>
          have q := W__is_have.mk (c := c) zs (okD_tup k)
          have e : haveB c (.str "have" :: r) = letterB c (.tuple (.str "have" :: r)) := by
            unfold letterB
            rw [hk]
            rfl
          rw [e] at q
          exact go 5 "_is_have" W__is_have (by decide) D__is_have (by rw [hk]; simp) q
      · obtain ⟨r, rfl⟩ := kind_tup hk (by decide +kernel)
        cases z with
        | tup zs =>
          have q := W__is_content.mk (c := c) zs (okD_tup k)
          have e : contB c (.str "content" :: r) = letterB c (.tuple (.str "content" :: r)) := by
            unfold letterB
            rw [hk]
            rfl
          rw [e] at q
          exact go 9 "_is_content" W__is_content (by decide) D__is_content (by rw [hk]; simp) q
      · obtain ⟨r, rfl⟩ := kind_tup hk (by decide +kernel)
        cases z with
        | tup zs =>
          have q := W__is_receipt.mk (c := c) zs (okD_tup k)
          have e : recB c (.str "receipt" :: r) = letterB c (.tuple (.str "receipt" :: r)) := by
            unfold letterB
            rw [hk]
            rfl
          rw [e] at q
          exact go 5 "_is_receipt" W__is_receipt (by decide) D__is_receipt (by rw [hk]; simp) q
    · refine ⟨_, pss_cons (ps_set (i := 2) sc_is_letter.nd rfl (Or.inl rfl) (pe_callD D_kind_of (hr.mono (by decide)) rfl (pa_cons (pv 1) pa_nil)))
        (pss_cons (ps_if (pt_cmpR (op_notInK T) (pv 2) (pe_glob (v := V.ref aA) rfl gA rfl) (by rfl)) (pss_one (ps_ret pe_bl)) pss_nil) pss_never), ?_⟩
      refine run_set (ed_call (es_cons (ed_var rfl) es_nil) (W_kind_of.mk z k)) ?_
      refine run_ifs (ec_test (ed_notInK T (ed_var rfl))) (fun cc => ?_) (fun cc => ?_)
      · refine run_ret ed_bl ?_
        have e : letterB c d = false := by
          unfold letterB
          have q : formsB.find? (fun p => decide (p.1 = kindS d)) = none := by
            rw [List.find?_eq_none]
            intro p hp q
            exact hin (of_decide_eq_true q ▸ (List.mem_map.mpr ⟨p, hp, rfl⟩ : p.1 ∈ formsB.map (·.1)))
          rw [q]
        rw [e]
      · rw [keyIs, decide_eq_false hin] at cc
        cases cc
end
end K11

namespace K11
open PySem L2 Evl Pw

def partyB (cnt : Int) (role : Str) (d : PyData) : Bool := if role = "client" then intB (-100) (-1) d else if role = "server" then intB 0 (cnt - 1) d else intB 1000 1000 d
def atB (cnt : Int) (e : Str) (d : PyData) : Bool := if e = "c" then intB (-100) (-1) d else if e = "s" then intB 0 (cnt - 1) d else intB 1000 1000 d
abbrev routesT : List (Str × List Str) := [("ask", ["client", "server"]), ("where", ["client", "directory"]), ("answer", ["server", "client"]), ("elsewhere", ["server", "client"]), ("there", ["directory", "client"]), ("move", ["directory", "server"]), ("split", ["directory", "server"]), ("join", ["directory", "server"]), ("have", ["server", "directory"]), ("content", ["server", "server"]), ("receipt", ["server", "server"])]
def waysL : List (Str × Str) := [("ask", "cs"), ("where", "cd"), ("answer", "sc"), ("elsewhere", "sc"), ("there", "dc"), ("move", "ds"), ("split", "ds"), ("join", "ds"), ("have", "sd"), ("content", "ss"), ("receipt", "ss")]
def wayF (k : Str) : Str := match waysL.find? fun p => decide (p.1 = k) with
  | some p => p.2
  | none => "cc"
def wc (z : Str) (i : Nat) : Str := ⟨#[z.cps.toList.getD i 0]⟩
def routeF (k : Str) : Str × Str := match routesT.find? fun p => decide (p.1 = k) with
  | some p => (p.2.getD 0 "", p.2.getD 1 "")
  | none => ("", "")
def fitB (cnt : Int) (ds dr d : PyData) : Bool := letterB cnt d && (atB cnt (wc (wayF (kindS d)) 0) ds && atB cnt (wc (wayF (kindS d)) 1) dr)
theorem party_at {cnt : Int} {a e : Str} {d : PyData} (h1 : decide (a = "client") = decide (e = "c")) (h2 : decide (a = "server") = decide (e = "s")) : partyB cnt a d = atB cnt e d := by
  have e1 : a = "client" ↔ e = "c" := decide_eq_decide.mp h1
  have e2 : a = "server" ↔ e = "s" := decide_eq_decide.mp h2
  unfold partyB atB
  simp only [e1, e2]
theorem route_ok : ∀ p ∈ sizes1 ++ sizes2, p.1 ≠ "" ∧ (p.1, [(routeF p.1).1, (routeF p.1).2]) ∈ routesT ∧ decide ((routeF p.1).1 = "client") = decide (wc (wayF p.1) 0 = "c") ∧ decide ((routeF p.1).1 = "server") = decide (wc (wayF p.1) 0 = "s") ∧
    decide ((routeF p.1).2 = "client") = decide (wc (wayF p.1) 1 = "c") ∧ decide ((routeF p.1).2 = "server") = decide (wc (wayF p.1) 1 = "s") := by decide +kernel
theorem way_mem (k : Str) : wayF k ∈ (["cs", "cd", "sc", "dc", "ds", "sd", "ss", "cc"] : List Str) := by
  unfold wayF
  cases e : waysL.find? fun p => decide (p.1 = k) with
  | none => decide +kernel
  | some p =>
    have h := List.mem_of_find?_eq_some e
    exact (show ∀ p ∈ waysL, p.2 ∈ (["cs", "cd", "sc", "dc", "ds", "sd", "ss", "cc"] : List Str) by decide +kernel) p h
theorem way_at (k : Str) (i : Nat) (hi : i < 2) : (wayF k).cps.toList[i]? = some ((wayF k).cps.toList.getD i 0) ∧ (wayF k).length ≤ 100 ∧ wc (wayF k) i ∈ (["c", "s", "d"] : List Str) := by
  have h : ∀ z ∈ (["cs", "cd", "sc", "dc", "ds", "sd", "ss", "cc"] : List Str), ∀ i < 2, z.cps.toList[i]? = some (z.cps.toList.getD i 0) ∧ z.length ≤ 100 ∧ wc z i ∈ (["c", "s", "d"] : List Str) := by decide +kernel
  exact h _ (way_mem k) i hi
theorem csd_some (a b c : Int) {z : Str} (h : z ∈ (["c", "s", "d"] : List Str)) : ∃ x, csd a b c z = some x := by
  simp only [List.mem_cons, List.not_mem_nil, or_false] at h
  unfold csd
  rcases h with rfl | rfl | rfl
  · exact ⟨a, rfl⟩
  · exact ⟨b, rfl⟩
  · exact ⟨c, rfl⟩
def placesL : List W := [.int 0, .int 1, .int 2, .int 3, .int 19, .int 20, .int (-1), .int (-2), .int (-100), .int (-101), .int 1000, .int 1000, .int 1001, .bl true, .non, .str "0", .tup [.int 0]]
theorem places_good {μ : Mu} : ∀ u ∈ placesL, Good 2 μ u := goodWs_ok (by decide +kernel)
def wayW (p : Str × Str) : W := .tup [.str p.1, .str p.2]
theorem way_find (k : Str) : ∀ (l : List (Str × Str)) (i : Nat) (p : Str × Str), l[i]? = some p → (∀ j < i, ∀ q, l[j]? = some q → ¬ q.1 = k) → p.1 = k → l.find? (fun p => decide (p.1 = k)) = some p
  | [], i, p, h, _, _ => by cases h
  | q :: r, 0, p, h, _, e => by
    have h2 : q = p := Option.some.inj h
    rw [h2, List.find?_cons, decide_eq_true e]
  | q :: r, i + 1, p, h, hn, e => by
    rw [List.find?_cons, decide_eq_false (hn 0 (Nat.succ_pos i) q rfl)]
    exact way_find k r i p h (fun j hj q2 h2 => hn (j + 1) (Nat.succ_lt_succ hj) q2 h2) e
inductive W_check_letter (cb : Addr) : List W → Mu → (W → Mu → Prop) → (Value → Mu → Prop) → Prop
  | mk {μ : Mu} {cnt : Int} {s r x : W} {ds dr d : PyData} {P : W → Mu → Prop} {X : Value → Mu → Prop} (z1 : Dw μ s ds) (z2 : Dw μ r dr) (z : Dw μ x d) (k : okD d) (hP : fitB cnt ds dr d = true → P x μ) (hX : fitB cnt ds dr d = false → X (.ref cb) μ) : W_check_letter cb [.int cnt, s, r, x] μ P X
inductive W__law_outcome : List W → Mu → (W → Mu → Prop) → (Value → Mu → Prop) → Prop
  | mk {μ : Mu} {cnt : Int} {s r x : W} {ds dr d : PyData} {P : W → Mu → Prop} {X : Value → Mu → Prop} (z1 : Dw μ s ds) (z2 : Dw μ r dr) (z : Dw μ x d) (k : okD d) (hP : fitB cnt ds dr d = true → P x μ) (hX : fitB cnt ds dr d = false → P (.bl true) μ) : W__law_outcome [.int cnt, s, r, x] μ P X
inductive W__is_party : List W → Mu → W → Prop
  | mk {μ : Mu} {cnt : Int} {role : Str} {x : W} {d : PyData} (z : Dw μ x d) : W__is_party [.int cnt, .str role, x] μ (.bl (partyB cnt role d))
inductive W__law_place : List W → Mu → (W → Mu → Prop) → (Value → Mu → Prop) → Prop
  | mk {μ : Mu} {r : Int} {P : W → Mu → Prop} {X : Value → Mu → Prop} (h : ∀ w μ', Grow μ μ' → Good 2 μ' w → P w μ') : W__law_place [.int r] μ P X
inductive W__law_at : List W → Mu → W → Prop
  | mk {μ : Mu} {cnt : Int} {e : Str} {x : W} {d : PyData} (z : Dw μ x d) : W__law_at [.int cnt, .str e, x] μ (.bl (atB cnt e d))
inductive W__law_way : List W → Mu → (W → Mu → Prop) → (Value → Mu → Prop) → Prop
  | mk {μ : Mu} {k : Str} {P : W → Mu → Prop} {X : Value → Mu → Prop} (h : ∀ μ', Grow μ μ' → P (.str (wayF k)) μ') : W__law_way [.str k] μ P X
inductive W_law : List W → Mu → (W → Mu → Prop) → (Value → Mu → Prop) → Prop
  | mk {μ : Mu} {a : Addr} {ns : List Int} {P : W → Mu → Prop} {X : Value → Mu → Prop} (l : μ a = some (scr ns)) (h : ns.length ≤ 63) (p : ∀ μ', P (.bl true) μ') : W_law [.ref a] μ P X
section
variable {P : Program} {w : World} {K : Frag} {mg : Str → Option Value} {base : Heap}
theorem sc__is_party : FnScope ["count", "role", "value"] ["count", "role", "value"] (defScope s__is_party) := ⟨rfl, rfl, rfl, by decide +kernel, rfl, by decide +kernel, by decide +kernel⟩
theorem ok__is_party {f : Addr} {fd : FuncData} (F : FnP K "_is_party" s__is_party f fd) (g : mg "_is_party" = some (.ref f))
    (D_is_client : Def P w K mg base 2 "is_client" ["value"] (spP K W_is_client)) (D_is_server : Def P w K mg base 2 "is_server" ["count", "value"] (spP K W_is_server)) (D_is_integer : Def P w K mg base 1 "is_integer" ["value", "least", "greatest"] (spP K W_is_integer)) (c_DIRECTORY : ∃ t, mg "DIRECTORY" = some (.int 1000 t)) : Def P w K mg base 3 "_is_party" ["count", "role", "value"] (spP K W__is_party) := by
  refine def_mk F g (F.bindsN fun _ _ _ _ _ _ us hl => match us, hl with | [_, _, _], _ => rfl) (fn_pure F sc__is_party ?_ ?_)
  · rintro _ _ _ ⟨⟩
    rfl
  · intro ds μ d W
    cases W
    rename_i cnt role x d z
    intro cdv A outer s H E hr
    refine ⟨_, pss_cons (ps_if (pt_cmpR op_eq (pv 1) pe_str (nomark _)) (pss_one (ps_ret (pe_callD D_is_client (hr.mono (by decide)) rfl (pa_cons (pv 2) pa_nil)))) pss_nil)
      (pss_cons (ps_if (pt_cmpR op_eq (pv 1) pe_str (nomark _)) (pss_one (ps_ret (pe_callD D_is_server (hr.mono (by decide)) rfl (pa_cons (pv 0) (pa_cons (pv 2) pa_nil))))) pss_nil)
      (pss_one (ps_ret (pe_callD D_is_integer (hr.mono (by decide)) rfl (pa_cons (pv 2) (pa_cons (pe_glob (v := V.int 1000) rfl c_DIRECTORY.choose_spec ⟨_, rfl⟩) (pa_cons (pe_glob (v := V.int 1000) rfl c_DIRECTORY.choose_spec ⟨_, rfl⟩) pa_nil))))))), ?_⟩
    unfold partyB
    refine run_ifs (ec_test (ed_eqS (ed_var rfl) ed_str)) (fun c => ?_) (fun c => run_nexts ?_)
    · refine run_retS (ed_call (es_cons (ed_var rfl) es_nil) (W_is_client.mk z)) ?_
      rw [if_pos (of_decide_eq_true c)]
    refine run_ifs (ec_test (ed_eqS (ed_var rfl) ed_str)) (fun c2 => ?_) (fun c2 => run_nexts ?_)
    · refine run_retS (ed_call (es_cons (ed_var rfl) (es_cons (ed_var rfl) es_nil)) (W_is_server.mk z)) ?_
      rw [if_neg (of_decide_eq_false c), if_pos (of_decide_eq_true c2)]
    refine run_ret (ed_call (es_cons (ed_var rfl) (es_cons ed_int (es_cons ed_int es_nil))) (W_is_integer.mk z)) ?_
    rw [if_neg (of_decide_eq_false c), if_neg (of_decide_eq_false c2)]

theorem sc__law_place : FnScope ["rich", "places"] ["rich"] (defScope s__law_place) := ⟨rfl, rfl, rfl, by decide +kernel, rfl, by decide +kernel, by decide +kernel⟩
theorem ok__law_place {f : Addr} {fd : FuncData} (F : FnP K "_law_place" s__law_place f fd) (g : mg "_law_place" = some (.ref f))
     : Def P w K mg base 1 "_law_place" ["rich"] (spM K W__law_place) := by
  refine def_mk F g (F.bindsN fun _ _ _ _ _ _ us hl => match us, hl with | [_], _ => rfl) (fn_mut F sc__law_place ?_ ?_)
  · rintro _ _ _ _ ⟨⟩
    rfl
  · intro ds μ Pq X W
    cases W
    rename_i r h
    intro cdv A outer s H E hr
    refine ⟨_, pss_cons (ps_set (i := 1) sc__law_place.nd rfl (Or.inl rfl) (pe_lst (pa_cons pe_int (pa_cons pe_int (pa_cons pe_int (pa_cons pe_int (pa_cons pe_int (pa_cons pe_int (pa_cons (pe_un un_neg pe_int) (pa_cons (pe_un un_neg pe_int) (pa_cons (pe_un un_neg pe_int) (pa_cons (pe_un un_neg pe_int) (pa_cons pe_int (pa_cons pe_int (pa_cons pe_int (pa_cons pe_bl (pa_cons pe_non (pa_cons pe_str (pa_cons (pe_tup (pa_cons pe_int pa_nil)) pa_nil)))))))))))))))))))
      (pss_one (ps_ret (pe_ix ix_list (pv 1) (pe_op op_mod (pv 0) pe_int) (fun _ _ => rfl)))), ?_⟩
    have b1 : 0 ≤ r % 17 := Int.emod_nonneg _ (by decide)
    have b2 : r % 17 < 17 := Int.emod_lt_of_pos _ (by decide)
    refine rm_setW (ew_ofL (el_lst (xs := placesL) (es_cons ed_int (es_cons ed_int (es_cons ed_int (es_cons ed_int (es_cons ed_int (es_cons ed_int (es_cons (ed_neg ed_int) (es_cons (ed_neg ed_int) (es_cons (ed_neg ed_int) (es_cons (ed_neg ed_int) (es_cons ed_int (es_cons ed_int (es_cons ed_int (es_cons ed_bl (es_cons ed_non (es_cons ed_str (es_cons (ed_tup (es_cons ed_int es_nil) (Nat.le_of_ble_eq_true rfl)) es_nil))))))))))))))))) (Nat.le_of_ble_eq_true rfl))) fun w μ1 hP => ?_
    obtain ⟨p1, hp1, rfl, rfl⟩ := hP
    have q : (r % 17).toNat < placesL.length := by
      show _ < 17
      omega
    exact rm_ret (ed_ixL (ed_var rfl) (ed_mod (ed_var rfl) ed_int (by decide)) (.inl mset_same) b1 (List.getElem?_eq_getElem q)) (h _ _ (Grow.new hp1) (places_good _ (List.getElem_mem q)))

theorem sc__law_at : FnScope ["count", "end", "value"] ["count", "end", "value"] (defScope s__law_at) := ⟨rfl, rfl, rfl, by decide +kernel, rfl, by decide +kernel, by decide +kernel⟩
theorem ok__law_at {f : Addr} {fd : FuncData} (F : FnP K "_law_at" s__law_at f fd) (g : mg "_law_at" = some (.ref f))
    (D__law_is_int : Def P w K mg base 1 "_law_is_int" ["value", "least", "most"] (spP K W__law_is_int)) : Def P w K mg base 2 "_law_at" ["count", "end", "value"] (spP K W__law_at) := by
  refine def_mk F g (F.bindsN fun _ _ _ _ _ _ us hl => match us, hl with | [_, _, _], _ => rfl) (fn_pure F sc__law_at ?_ ?_)
  · rintro _ _ _ ⟨⟩
    rfl
  · intro ds μ d W
    cases W
    rename_i cnt e x d z
    intro cdv A outer s H E hr
    refine ⟨_, pss_cons (ps_if (pt_cmpR op_eq (pv 1) pe_str (nomark _)) (pss_one (ps_ret (pe_callD D__law_is_int (hr.mono (by decide)) rfl (pa_cons (pv 2) (pa_cons (pe_un un_neg pe_int) (pa_cons (pe_un un_neg pe_int) pa_nil)))))) pss_nil)
      (pss_cons (ps_if (pt_cmpR op_eq (pv 1) pe_str (nomark _)) (pss_one (ps_ret (pe_callD D__law_is_int (hr.mono (by decide)) rfl (pa_cons (pv 2) (pa_cons pe_int (pa_cons (pe_op op_sub (pv 0) pe_int) pa_nil)))))) pss_nil)
      (pss_one (ps_ret (pe_callD D__law_is_int (hr.mono (by decide)) rfl (pa_cons (pv 2) (pa_cons pe_int (pa_cons pe_int pa_nil))))))), ?_⟩
    unfold atB
    refine run_ifs (ec_test (ed_eqS (ed_var rfl) ed_str)) (fun c => ?_) (fun c => run_nexts ?_)
    · refine run_retS (ed_call (es_cons (ed_var rfl) (es_cons (ed_neg ed_int) (es_cons (ed_neg ed_int) es_nil))) (W__law_is_int.mk z)) ?_
      rw [if_pos (of_decide_eq_true c)]
    refine run_ifs (ec_test (ed_eqS (ed_var rfl) ed_str)) (fun c2 => ?_) (fun c2 => run_nexts ?_)
    · refine run_retS (ed_call (es_cons (ed_var rfl) (es_cons ed_int (es_cons (ed_sub (ed_var rfl) ed_int) es_nil))) (W__law_is_int.mk z)) ?_
      rw [if_neg (of_decide_eq_false c), if_pos (of_decide_eq_true c2)]
    refine run_ret (ed_call (es_cons (ed_var rfl) (es_cons ed_int (es_cons ed_int es_nil))) (W__law_is_int.mk z)) ?_
    rw [if_neg (of_decide_eq_false c), if_neg (of_decide_eq_false c2)]

theorem sc__law_way : FnScope ["kind", "ways", "one", "way"] ["kind"] (defScope s__law_way) := ⟨rfl, rfl, rfl, by decide +kernel, rfl, by decide +kernel, by decide +kernel⟩
theorem ok__law_way {f : Addr} {fd : FuncData} (F : FnP K "_law_way" s__law_way f fd) (g : mg "_law_way" = some (.ref f))
     : Def P w K mg base 1 "_law_way" ["kind"] (spM K W__law_way) := by
  refine def_mk F g (F.bindsN fun _ _ _ _ _ _ us hl => match us, hl with | [_], _ => rfl) (fn_mut F sc__law_way ?_ ?_)
  · rintro _ _ _ _ ⟨⟩
    rfl
  · intro ds μ Pq X W
    cases W
    rename_i k h
    intro cdv A outer s H E hr
    refine ⟨_, pss_cons (ps_set (i := 1) sc__law_way.nd rfl (Or.inl rfl) (pe_lst (pa_cons (pe_tup (pa_cons pe_str (pa_cons pe_str pa_nil))) (pa_cons (pe_tup (pa_cons pe_str (pa_cons pe_str pa_nil))) (pa_cons (pe_tup (pa_cons pe_str (pa_cons pe_str pa_nil))) (pa_cons (pe_tup (pa_cons pe_str (pa_cons pe_str pa_nil))) (pa_cons (pe_tup (pa_cons pe_str (pa_cons pe_str pa_nil))) (pa_cons (pe_tup (pa_cons pe_str (pa_cons pe_str pa_nil))) pa_nil))))))))
      (pss_cons (ps_set (i := 1) sc__law_way.nd rfl (Or.inl rfl) (pe_op op_cat (pv 1) (pe_lst (pa_cons (pe_tup (pa_cons pe_str (pa_cons pe_str pa_nil))) (pa_cons (pe_tup (pa_cons pe_str (pa_cons pe_str pa_nil))) (pa_cons (pe_tup (pa_cons pe_str (pa_cons pe_str pa_nil))) (pa_cons (pe_tup (pa_cons pe_str (pa_cons pe_str pa_nil))) (pa_cons (pe_tup (pa_cons pe_str (pa_cons pe_str pa_nil))) pa_nil))))))))
      (pss_cons (ps_for PassesOwn.never rfl (pi_list (pv 1)) (pg_tup (by rfl) (pgs_cons (pg_name (i := 2) sc__law_way.nd rfl (Or.inl rfl)) (pgs_cons (pg_name (i := 3) sc__law_way.nd rfl (Or.inl rfl)) pgs_nil))) (pss_one (ps_if (pt_cmpR op_eq (pv 2) (pv 0) (nomark _)) (pss_one (ps_ret (pv 3))) pss_nil)))
      (pss_one (ps_ret pe_str)))), ?_⟩
    refine rm_setW (ew_ofL (el_lst (xs := (waysL.take 6).map wayW) (es_cons (ed_tup (es_cons ed_str (es_cons ed_str es_nil)) (Nat.le_of_ble_eq_true rfl)) (es_cons (ed_tup (es_cons ed_str (es_cons ed_str es_nil)) (Nat.le_of_ble_eq_true rfl)) (es_cons (ed_tup (es_cons ed_str (es_cons ed_str es_nil)) (Nat.le_of_ble_eq_true rfl)) (es_cons (ed_tup (es_cons ed_str (es_cons ed_str es_nil)) (Nat.le_of_ble_eq_true rfl)) (es_cons (ed_tup (es_cons ed_str (es_cons ed_str es_nil)) (Nat.le_of_ble_eq_true rfl)) (es_cons (ed_tup (es_cons ed_str (es_cons ed_str es_nil)) (Nat.le_of_ble_eq_true rfl)) es_nil)))))) (Nat.le_of_ble_eq_true rfl))) fun w μ1 hP => ?_
    obtain ⟨p1, hp1, rfl, rfl⟩ := hP
    refine rm_setW (ew_catN (ed_var rfl) mset_same (el_lst (xs := (waysL.drop 6).map wayW) (es_cons (ed_tup (es_cons ed_str (es_cons ed_str es_nil)) (Nat.le_of_ble_eq_true rfl)) (es_cons (ed_tup (es_cons ed_str (es_cons ed_str es_nil)) (Nat.le_of_ble_eq_true rfl)) (es_cons (ed_tup (es_cons ed_str (es_cons ed_str es_nil)) (Nat.le_of_ble_eq_true rfl)) (es_cons (ed_tup (es_cons ed_str (es_cons ed_str es_nil)) (Nat.le_of_ble_eq_true rfl)) (es_cons (ed_tup (es_cons ed_str (es_cons ed_str es_nil)) (Nat.le_of_ble_eq_true rfl)) es_nil))))) (Nat.le_of_ble_eq_true rfl)) (Nat.le_of_ble_eq_true rfl)) fun w μ2 hP => ?_
    obtain ⟨p3, rfl, hg, hl⟩ := hP
    have hPk := h μ2 ((Grow.new hp1).trans hg)
    clear h hg
    have hl2 : isL μ2 p3 (waysL.map wayW) := .inl hl
    refine rm_of (N := fun _ => False) (R := fun w => w = .str (wayF k)) (run_forLP (ed_var rfl) hl2 (fun i ρ => (∃ a2 a3, ρ = [some (.str k), some (.ref p3), a2, a3]) ∧ ∀ j < i, ∀ q, waysL[j]? = some q → ¬ q.1 = k) ⟨⟨_, _, rfl⟩, fun j hj => absurd hj (Nat.not_lt_zero j)⟩ (fun i x ρ hx hI => ?_) (fun ρ hI => ?_)) (fun _ q => q.elim) (fun w q => by
      rw [q]
      exact hPk)
    · obtain ⟨⟨a2, a3, rfl⟩, hn⟩ := hI
      rw [List.getElem?_map] at hx
      cases e : waysL[i]? with
      | none =>
        rw [e] at hx
        cases hx
      | some p =>
        rw [e] at hx
        have ex : x = wayW p := (Option.some.inj hx).symm
        refine ⟨.str p.1, .str p.2, ex, run_if (ec_test (ed_eqS (ed_var rfl) (ed_var rfl))) (fun c => ?_) (fun c => run_next ⟨⟨_, _, rfl⟩, fun j hj q hq => ?_⟩)⟩
        · refine run_ret (ed_var rfl) ?_
          have ek : p.1 = k := of_decide_eq_true (show decide (p.1 = k) = true from c)
          unfold wayF
          rw [way_find k waysL i p e hn ek]
        · rcases Nat.lt_succ_iff_lt_or_eq.mp hj with q2 | q2
          · exact hn j q2 q hq
          · subst q2
            rw [e] at hq
            rw [← Option.some.inj hq]
            exact of_decide_eq_false (show decide (p.1 = k) = false from c)
    · obtain ⟨⟨a2, a3, rfl⟩, hn⟩ := hI
      refine run_ret ed_str ?_
      unfold wayF
      have q : waysL.find? (fun p => decide (p.1 = k)) = none := by
        rw [List.find?_eq_none]
        intro p hp q
        obtain ⟨j, hj⟩ := List.mem_iff_getElem?.mp hp
        have hj2 : j < (waysL.map wayW).length := by
          rw [List.length_map]
          exact (List.getElem?_eq_some_iff.mp hj).1
        exact hn j hj2 p hj (of_decide_eq_true q)
      rw [q]

theorem sc_check_letter : FnScope ["count", "sender", "receiver", "letter", "source", "target"] ["count", "sender", "receiver", "letter"] (defScope s_check_letter) := ⟨rfl, rfl, rfl, by decide +kernel, rfl, by decide +kernel, by decide +kernel⟩
theorem ok_check_letter {cb : Addr} {f : Addr} {fd : FuncData} (F : FnP K "check_letter" s_check_letter f fd) (g : mg "check_letter" = some (.ref f))
    (x_BadLetter : ExcOf K mg "BadLetter" cb) (r_ROUTES : TabT K w mg "ROUTES" routesT) (D_is_letter : Def P w K mg base 10 "is_letter" ["count", "value"] (spP K W_is_letter)) (D__is_party : Def P w K mg base 3 "_is_party" ["count", "role", "value"] (spP K W__is_party)) : DefX P w K mg base 11 "check_letter" ["count", "sender", "receiver", "letter"] (spM K (W_check_letter cb)) := by
  refine defX_mk F g (F.bindsN fun _ _ _ _ _ _ us hl => match us, hl with | [_, _, _, _], _ => rfl) (fn_mutX F sc_check_letter ?_ ?_)
  · rintro _ _ _ _ ⟨⟩
    rfl
  · intro ds μ Pq X W
    cases W
    rename_i cnt s r x ds dr d k z1 z2 z hP hX
    intro cdv A outer s H E hr
    refine ⟨_, pss_cons (ps_if (pt_not (pt_val (pe_callD D_is_letter (hr.mono (by decide)) rfl (pa_cons (pv 0) (pa_cons (pv 3) pa_nil))))) (pss_one (ps_own x_BadLetter rfl (takes_of rfl rfl rfl rfl) rfl)) pss_nil)
      (pss_cons (ps_asg (pe_ix ix_kdict (pe_glob (v := V.ref r_ROUTES.ex.choose) rfl r_ROUTES.ex.choose_spec.1 rfl) (pe_ix ix_tup (pv 3) pe_int (fun _ _ => rfl)) (fun _ _ => rfl)) (pg_tup (by rfl) (pgs_cons (pg_name (i := 4) sc_check_letter.nd rfl (Or.inl rfl)) (pgs_cons (pg_name (i := 5) sc_check_letter.nd rfl (Or.inl rfl)) pgs_nil))))
      (pss_cons (ps_if (PW.pt (pw_or (pt_not (pt_val (pe_callD D__is_party (hr.mono (by decide)) rfl (pa_cons (pv 0) (pa_cons (pv 4) (pa_cons (pv 1) pa_nil)))))) (pw_or1 (pt_not (pt_val (pe_callD D__is_party (hr.mono (by decide)) rfl (pa_cons (pv 0) (pa_cons (pv 5) (pa_cons (pv 2) pa_nil))))))))) (pss_one (ps_own x_BadLetter rfl (takes_of rfl rfl rfl rfl) rfl)) pss_nil)
      (pss_one (ps_ret (pv 3))))), ?_⟩
    refine rm_ifs (ec_not (ec_val (ed_call (es_cons (ed_var rfl) (es_cons (ed_var rfl) es_nil)) (W_is_letter.mk z k)))) (fun c => ?_) (fun c => rm_nexts ?_)
    · refine rm_raiseS (hX ?_)
      unfold fitB
      rw [nt c, Bool.false_and]
    have hl : letterB cnt d = true := nn c
    cases ht : (Pd.tyN d == "tuple") with
    | false =>
      rw [ntup_letter ht] at hl
      cases hl
    | true =>
    obtain ⟨dl, rfl⟩ := is_tuple ht
    have hm := letter_size hl
    obtain ⟨h0, h1, h2, h3, h4, h5⟩ := route_ok _ hm
    obtain ⟨r', er⟩ := kind_tup (d := .tuple dl) rfl h0
    have hk : ∃ q, q = kindS (.tuple dl) := ⟨_, rfl⟩
    obtain ⟨kd, hkd⟩ := hk
    rw [← hkd] at er
    have er2 : dl = .str kd :: r' := PyData.tuple.inj er
    subst er2
    cases z with
    | @tup ws _ zs =>
    cases zs with
    | @cons w0 _ ws' _ q0 qs =>
    cases q0
    refine rm_pair (ed_tabT r_ROUTES (ed_ixT (ed_var rfl) ed_int (by decide) rfl) h1) ?_
    refine rm_ifs (ec_or (ec_not (ec_val (ed_call (es_cons (ed_var rfl) (es_cons (ed_var rfl) (es_cons (ed_var rfl) es_nil))) (W__is_party.mk z1)))) fun _ => ec_not (ec_val (ed_call (es_cons (ed_var rfl) (es_cons (ed_var rfl) (es_cons (ed_var rfl) es_nil))) (W__is_party.mk z2)))) (fun c2 => ?_) (fun c2 => rm_nexts ?_)
    · refine rm_raiseS (hX ?_)
      unfold fitB
      rw [hl, Bool.true_and, ← party_at (cnt := cnt) (d := ds) h2 h3, ← party_at (cnt := cnt) (d := dr) h4 h5]
      have c3 : (!partyB cnt (routeF (kindS (.tuple (.str kd :: r')))).1 ds || !partyB cnt (routeF (kindS (.tuple (.str kd :: r')))).2 dr) = true := c2
      rw [← Bool.not_and] at c3
      exact nt c3
    · refine rm_ret (ed_var rfl) (hP ?_)
      unfold fitB
      rw [hl, Bool.true_and, ← party_at (cnt := cnt) (d := ds) h2 h3, ← party_at (cnt := cnt) (d := dr) h4 h5]
      have c3 : (!partyB cnt (routeF (kindS (.tuple (.str kd :: r')))).1 ds || !partyB cnt (routeF (kindS (.tuple (.str kd :: r')))).2 dr) = false := c2
      rw [← Bool.not_and] at c3
      exact nn c3

theorem sc__law_outcome : FnScope ["count", "sender", "receiver", "letter", "e"] ["count", "sender", "receiver", "letter"] (defScope s__law_outcome) := ⟨rfl, rfl, rfl, by decide +kernel, rfl, by decide +kernel, by decide +kernel⟩
theorem ok__law_outcome {cb ct : Addr} {f : Addr} {fd : FuncData} (F : FnP K "_law_outcome" s__law_outcome f fd) (g : mg "_law_outcome" = some (.ref f))
    (x_BadLetter : ExcOf K mg "BadLetter" cb) (g_TableError : mg "TableError" = some (.ref ct)) (m_BadLetter : PySem.W.exmOne K (.ref cb) (.ref ct) = some true) (i_BadLetter : L2.ExcC K cb) (z_isinstance : mg "isinstance" = none) (D_check_letter : DefX P w K mg base 11 "check_letter" ["count", "sender", "receiver", "letter"] (spM K (W_check_letter cb))) : Def P w K mg base 12 "_law_outcome" ["count", "sender", "receiver", "letter"] (spM K W__law_outcome) := by
  refine def_mk F g (F.bindsN fun _ _ _ _ _ _ us hl => match us, hl with | [_, _, _, _], _ => rfl) (fn_mut F sc__law_outcome ?_ ?_)
  · rintro _ _ _ _ ⟨⟩
    rfl
  · intro ds μ Pq X W
    cases W
    rename_i cnt s r x ds dr d k z1 z2 z hP hX
    intro cdv A outer s H E hr
    obtain ⟨fc, fdc, G, mgf, kp, b⟩ := D_check_letter.ex
    refine ⟨_, pss_one (ps_try_as (i := 4) rfl rfl sc__law_outcome.nd rfl rfl ⟨rfl, by decide, .inl g_TableError⟩ takes0 (fun W pn xe tk _ => pss_one (ps_ret (pe_callS G (hr.mono (by decide)) rfl mgf kp b (fun σ => passAt tk σ) (pa_cons (pv 0) (pa_cons (pv 1) (pa_cons (pv 2) (pa_cons (pv 3) pa_nil)))))))
      (fun a oe cls d pn hz hf => pss_iteN (t := tIsE K cb a 4) (p := cls = .ref cb ∧ d = none) fun q => by
        obtain ⟨rfl, rfl⟩ := q
        exact pss_one (ps_ret (pe_callB (call_isE i_BadLetter hz hf) (by rfl) z_isinstance (by decide +kernel) (pa_cons (pv 4) (pa_cons (pe_glob (v := V.ref cb) rfl x_BadLetter.gC rfl) pa_nil)))))), ?_⟩
    exact rm_tryIs (es_cons (ed_var rfl) (es_cons (ed_var rfl) (es_cons (ed_var rfl) (es_cons (ed_var rfl) es_nil)))) (W_check_letter.mk (X := fun c μ' => c = .ref cb ∧ Pq (.bl true) μ') z1 z2 z k hP fun e => ⟨rfl, hX e⟩) (by
      show 4 < 5
      decide) (fun c μ' h => h) m_BadLetter

theorem sc_law : FnScope ["script", "k", "rich", "count", "letter", "way", "sender", "receiver", "due", "actual", "value"] ["script"] (defScope s_law) := ⟨rfl, rfl, rfl, by decide +kernel, rfl, by decide +kernel, by decide +kernel⟩
theorem ok_law {f : Addr} {fd : FuncData} (F : FnP K "law" s_law f fd)
    (z_range : mg "range" = none) (z_max : mg "max" = none) (z_min : mg "min" = none) (z_len : mg "len" = none) (D__law_rich : Def P w K mg base 1 "_law_rich" ["cell", "k"] (spP K W__law_rich)) (D__law_cell : Def P w K mg base 1 "_law_cell" ["script", "k"] (spP K W__law_cell)) (D__law_letter : Def P w K mg base 5 "_law_letter" ["rich"] (spM K W__law_letter)) (D__law_way : Def P w K mg base 1 "_law_way" ["kind"] (spM K W__law_way)) (D__law_place : Def P w K mg base 1 "_law_place" ["rich"] (spM K W__law_place)) (D__law_at : Def P w K mg base 2 "_law_at" ["count", "end", "value"] (spP K W__law_at)) (D_is_letter : Def P w K mg base 10 "is_letter" ["count", "value"] (spP K W_is_letter)) (D__law_outcome : Def P w K mg base 12 "_law_outcome" ["count", "sender", "receiver", "letter"] (spM K W__law_outcome)) (D_is_client : Def P w K mg base 2 "is_client" ["value"] (spP K W_is_client)) (D_is_server : Def P w K mg base 2 "is_server" ["count", "value"] (spP K W_is_server)) : FnOk P w K mg base CX0 13 f fd ["script"] (spM K W_law) := by
  refine fn_mut F sc_law ?_ ?_
  · rintro _ _ _ _ ⟨⟩
    rfl
  · intro ds μ Pq X W
    cases W
    rename_i a ns h l p
    intro cdv A outer s H E hr
    refine ⟨_, pss_cons (ps_for PassesOwn.never rfl (pi_range1 rfl z_range (pa_cons (pe_callB (cr_maxI rfl) (by rfl) z_max (by decide +kernel) (pa_cons pe_int (pa_cons (pe_callB (cr_minI rfl) (by rfl) z_min (by decide +kernel) (pa_cons pe_int (pa_cons (pe_callB cr_len (by rfl) z_len (by decide +kernel) (pa_cons (pv 0) pa_nil)) pa_nil))) pa_nil))) pa_nil)) (pg_name (i := 1) sc_law.nd rfl (Or.inl rfl)) (pss_cons (ps_set (i := 2) sc_law.nd rfl (Or.inl rfl) (pe_callD D__law_rich (hr.mono (by decide)) rfl (pa_cons (pe_callD D__law_cell (hr.mono (by decide)) rfl (pa_cons (pv 0) (pa_cons (pv 1) pa_nil))) (pa_cons (pv 1) pa_nil))))
      (pss_cons (ps_set (i := 3) sc_law.nd rfl (Or.inl rfl) (pe_ix ix_list (pe_lst (pa_cons pe_int (pa_cons pe_int (pa_cons pe_int (pa_cons pe_int pa_nil))))) (pe_op op_mod (pe_op op_fdiv (pv 2) pe_int) pe_int) (fun _ _ => rfl)))
      (pss_cons (ps_set (i := 4) sc_law.nd rfl (Or.inl rfl) (pe_callM E D__law_letter (hr.mono (by decide)) rfl (pa_cons (pe_op op_fdiv (pv 2) pe_int) pa_nil)))
      (pss_cons (ps_if (pt_cmpR op_eq (pe_op op_mod (pe_op op_fdiv (pv 2) pe_int) pe_int) pe_int (nomark _)) (pss_one (ps_set (i := 4) sc_law.nd rfl (Or.inl rfl) (pe_op op_catA (pe_tup (pa_cons (pe_ix ix_tup (pv 4) pe_int (fun _ _ => rfl)) (pa_cons (pe_ix ix_list (pe_lst (pa_cons pe_int (pa_cons pe_str (pa_cons pe_non (pa_cons pe_bl pa_nil))))) (pe_op op_mod (pe_op op_fdiv (pv 2) pe_int) pe_int) (fun _ _ => rfl)) pa_nil))) (pe_slice sl_tupA (pv 4) (po_some pe_int) po_none)))) pss_nil)
      (pss_cons (ps_set (i := 5) sc_law.nd rfl (Or.inl rfl) (pe_callM E D__law_way (hr.mono (by decide)) rfl (pa_cons (pe_ix ix_tup (pv 4) pe_int (fun _ _ => rfl)) pa_nil)))
      (pss_cons (ps_set (i := 6) sc_law.nd rfl (Or.inl rfl) (pe_callM E D__law_place (hr.mono (by decide)) rfl (pa_cons (pe_op op_fdiv (pv 2) pe_int) pa_nil)))
      (pss_cons (ps_set (i := 7) sc_law.nd rfl (Or.inl rfl) (pe_callM E D__law_place (hr.mono (by decide)) rfl (pa_cons (pe_op op_fdiv (pv 2) pe_int) pa_nil)))
      (pss_cons (ps_if (pt_cmpR op_gt (pe_op op_mod (pe_op op_fdiv (pv 2) pe_int) pe_int) pe_int (nomark _)) (pss_one (ps_set (i := 6) sc_law.nd rfl (Or.inl rfl) (pe_dget (hu_of hr) (pe_disp (pps_cons pe_str (pe_op op_sub (pe_un un_neg pe_int) (pe_op op_mod (pe_op op_fdiv (pv 2) pe_int) pe_int)) (pps_cons pe_str (pe_op op_mod (pe_op op_fdiv (pv 2) pe_int) (pv 3)) (pps_cons pe_str pe_int pps_nil))) rfl rfl (List.cons_ne_nil _ _) (Nat.le_of_ble_eq_true rfl)) (pe_ix ix_str (pv 5) pe_int (fun _ _ => rfl)) (fun _ _ => rfl)))) pss_nil)
      (pss_cons (ps_if (pt_cmpR op_gt (pe_op op_mod (pe_op op_fdiv (pv 2) pe_int) pe_int) pe_int (nomark _)) (pss_one (ps_set (i := 7) sc_law.nd rfl (Or.inl rfl) (pe_dget (hu_of hr) (pe_disp (pps_cons pe_str (pe_op op_sub (pe_un un_neg pe_int) (pe_op op_mod (pe_op op_fdiv (pv 2) pe_int) pe_int)) (pps_cons pe_str (pe_op op_mod (pe_op op_fdiv (pv 2) pe_int) (pv 3)) (pps_cons pe_str pe_int pps_nil))) rfl rfl (List.cons_ne_nil _ _) (Nat.le_of_ble_eq_true rfl)) (pe_ix ix_str (pv 5) pe_int (fun _ _ => rfl)) (fun _ _ => rfl)))) pss_nil)
      (pss_cons (ps_set (i := 8) sc_law.nd rfl (Or.inl rfl) (pe_and (pe_callD D_is_letter (hr.mono (by decide)) rfl (pa_cons (pv 3) (pa_cons (pv 4) pa_nil))) (pe_and (pe_callD D__law_at (hr.mono (by decide)) rfl (pa_cons (pv 3) (pa_cons (pe_ix ix_str (pv 5) pe_int (fun _ _ => rfl)) (pa_cons (pv 6) pa_nil)))) (pe_one (pe_callD D__law_at (hr.mono (by decide)) rfl (pa_cons (pv 3) (pa_cons (pe_ix ix_str (pv 5) pe_int (fun _ _ => rfl)) (pa_cons (pv 7) pa_nil))))))))
      (pss_cons (ps_set (i := 9) sc_law.nd rfl (Or.inl rfl) (pe_callM E D__law_outcome (hr.mono (by decide)) rfl (pa_cons (pv 3) (pa_cons (pv 6) (pa_cons (pv 7) (pa_cons (pv 4) pa_nil))))))
      (pss_cons (ps_if (PW.pt (pw_or (PW.pt (pw_and (pt_val (pv 8)) (pw_and1 (pt_cmpR (op_neD hr.units) (pv 9) (pv 4) (nomark _))))) (pw_or1 (PW.pt (pw_and (pt_not (pt_val (pv 8))) (pw_and1 (pt_cmpR op_notBl (pv 9) pe_bl (nomark _)))))))) (pss_one (ps_ret pe_bl)) pss_nil)
      (pss_one (ps_for PassesOwn.never rfl (pi_list (pe_lst (pa_cons (pv 6) (pa_cons (pv 7) pa_nil)))) (pg_name (i := 10) sc_law.nd rfl (Or.inl rfl)) (pss_one (ps_if (PW.pt (pw_or (pt_cmpR op_ne (pe_callD D_is_server (hr.mono (by decide)) rfl (pa_cons (pv 3) (pa_cons (pv 10) pa_nil))) (pe_callD D__law_at (hr.mono (by decide)) rfl (pa_cons (pv 3) (pa_cons pe_str (pa_cons (pv 10) pa_nil)))) (nomark _)) (pw_or1 (pt_cmpR op_ne (pe_callD D_is_client (hr.mono (by decide)) rfl (pa_cons (pv 10) pa_nil)) (pe_callD D__law_at (hr.mono (by decide)) rfl (pa_cons (pv 3) (pa_cons pe_str (pa_cons (pv 10) pa_nil)))) (nomark _))))) (pss_one (ps_ret pe_bl)) pss_nil)))))))))))))))))
      (pss_one (ps_ret pe_bl)), ?_⟩
    have il : isL μ a (ns.map W.int) := .inr l
    have e : (ns.map W.int).length = ns.length := List.length_map _
    refine rm_range (es_cons (ed_maxI (es_cons ed_int (es_cons (ed_minI (es_cons ed_int (es_cons (ed_lenL (es_cons (ed_var rfl) es_nil) il) es_nil))) es_nil))) es_nil) ?_ (fun i ρ μ' => ∃ a1 a2 a3 a4 a5 a6 a7 a8 a9 a10, ρ = [some (.ref a), a1, a2, a3, a4, a5, a6, a7, a8, a9, a10] ∧ Grow μ μ') ⟨_, _, _, _, _, _, _, _, _, _, rfl, Grow.refl μ⟩ (fun i ρ μ' hi hI => ?_) (fun ρ μ' hI => ?_)
    · rw [e]
      constructor
      · split <;> split <;> omega
      · split <;> split <;> omega
    · obtain ⟨a1, a2, a3, a4, a5, a6, a7, a8, a9, a10, rfl, hg⟩ := hI
      refine rm_set (ed_call (es_cons (ed_call (es_cons (ed_var rfl) (es_cons (ed_var rfl) es_nil)) (W__law_cell.mk (hg _ _ l) (Int.natCast_nonneg i))) (es_cons (ed_var rfl) es_nil)) W__law_rich.mk) ?_
      generalize Pd.rich (Pd.cell ns (i : Int)) (i : Int) = r
      have b1 : 0 ≤ r / 3 % 4 := Int.emod_nonneg _ (by decide)
      have b2 : r / 3 % 4 < 4 := Int.emod_lt_of_pos _ (by decide)
      obtain ⟨cnt, hc, hcp⟩ : ∃ cnt : Int, [W.int 1, .int 2, .int 3, .int 20][(r / 3 % 4).toNat]? = some (.int cnt) ∧ 0 < cnt := by
        have : ∀ n < 4, ∃ cnt : Int, [W.int 1, .int 2, .int 3, .int 20][n]? = some (.int cnt) ∧ 0 < cnt := fun n hn => by
          match n, hn with
          | 0, _ => exact ⟨_, rfl, by decide⟩
          | 1, _ => exact ⟨_, rfl, by decide⟩
          | 2, _ => exact ⟨_, rfl, by decide⟩
          | 3, _ => exact ⟨_, rfl, by decide⟩
        exact this _ (by omega)
      refine rm_set (ed_pick (es_cons ed_int (es_cons ed_int (es_cons ed_int (es_cons ed_int es_nil)))) (ed_mod (ed_div (ed_var rfl) ed_int ⟨by decide, by decide⟩) ed_int (by decide)) (Nat.le_of_ble_eq_true rfl) b1 hc) ?_
      refine rm_setW (P := fun w μ2 => ∃ kd ws, w = .tup (.str kd :: ws) ∧ Grow μ' μ2 ∧ ws.length ≤ 6 ∧ (∀ u ∈ ws, Good 12 μ2 u) ∧ okS kd) (ew_call (es_cons (ed_div (ed_var rfl) ed_int ⟨by decide, by decide⟩) es_nil) (W__law_letter.mk fun kd ws μ2 g hl hg ok => ⟨kd, ws, rfl, g, hl, hg, ok⟩)) fun w μ2 hP => ?_
      obtain ⟨kd, ws0, rfl, g2, l0, hgood0, okk⟩ := hP
      refine rm_seq (M := fun ρ μ3 => ∃ ws, ρ = [some (.ref a), some (.int (i : Int)), some (.int r), some (.int cnt), some (.tup (.str kd :: ws)), a5, a6, a7, a8, a9, a10] ∧ μ2 = μ3 ∧ ∀ u ∈ ws, Good 12 μ2 u) (rm_if (ec_test (ed_eqI (ed_mod (ed_div (ed_var rfl) ed_int ⟨by decide, by decide⟩) ed_int (by decide)) ed_int)) (fun c => ?_) (fun c => ?_)) (fun ρ μ3 hM => ?_)
      · have m1 : 0 ≤ r / 35 % 4 := Int.emod_nonneg _ (by decide)
        have m2 : r / 35 % 4 < 4 := Int.emod_lt_of_pos _ (by decide)
        have q : (r / 35 % 4).toNat < [W.int 0, .str "A", .non, .bl true].length := by
          show _ < 4
          omega
        have cl : (cutW (.str kd :: ws0) (some 2) none).length ≤ 7 := Nat.le_trans (cutW_len _ _ _) (by
          rw [List.length_cons]
          omega)
        refine rm_asg (ed_catA (ed_tup (es_cons (ed_ixT (ed_var rfl) ed_int (by decide) rfl) (es_cons (ed_pick (es_cons ed_int (es_cons ed_str (es_cons ed_non (es_cons ed_bl es_nil)))) (ed_mod (ed_div (ed_var rfl) ed_int ⟨by decide, by decide⟩) ed_int (by decide)) (Nat.le_of_ble_eq_true rfl) m1 (List.getElem?_eq_getElem q)) es_nil)) (Nat.le_of_ble_eq_true rfl)) (ed_slA (ed_var rfl) (to_some ed_int) to_none) (by
          show 2 + _ ≤ _
          omega)) ⟨[W.int 0, .str "A", .non, .bl true][(r / 35 % 4).toNat] :: cutW (.str kd :: ws0) (some 2) none, rfl, rfl, fun u hu => ?_⟩
        rcases List.mem_cons.mp hu with e | e
        · rw [e]
          have : ∀ u ∈ [W.int 0, .str "A", .non, .bl true], Good 12 μ2 u := goodWs_ok (by decide +kernel)
          exact this _ (List.getElem_mem q)
        · rcases List.mem_cons.mp (cutW_mem e) with e2 | e2
          · rw [e2]
            exact good_str okk
          · exact hgood0 u e2
      · exact rm_next ⟨_, rfl, rfl, hgood0⟩
      obtain ⟨ws, rfl, rfl, hgood⟩ := hM
      refine rm_setW (P := fun w μ4 => w = .str (wayF kd) ∧ Grow μ2 μ4) (ew_call (es_cons (ed_ixT (ed_var rfl) ed_int (by decide) rfl) es_nil) (W__law_way.mk fun μ4 g => ⟨rfl, g⟩)) fun w μ4 hP => ?_
      obtain ⟨rfl, g4⟩ := hP
      refine rm_setW (P := fun w μ5 => Grow μ4 μ5 ∧ Good 2 μ5 w) (ew_call (es_cons (ed_div (ed_var rfl) ed_int ⟨by decide, by decide⟩) es_nil) (W__law_place.mk fun w μ5 g k => ⟨g, k⟩)) fun s0 μ5 hP => ?_
      obtain ⟨g5, ks0⟩ := hP
      refine rm_setW (P := fun w μ6 => Grow μ5 μ6 ∧ Good 2 μ6 w) (ew_call (es_cons (ed_div (ed_var rfl) ed_int ⟨by decide, by decide⟩) es_nil) (W__law_place.mk fun w μ6 g k => ⟨g, k⟩)) fun c0 μ6 hP => ?_
      obtain ⟨g6, kc0⟩ := hP
      obtain ⟨wa0, wl, wm0⟩ := way_at kd 0 (by decide)
      obtain ⟨wa1, -, wm1⟩ := way_at kd 1 (by decide)
      have wsz := sz_of (show (wayF kd).length ≤ 100000 by omega)
      have gall : Grow μ μ6 := (((hg.trans g2).trans g4).trans g5).trans g6
      refine rm_seq (M := fun ρ μ7 => ∃ s, ρ = [some (.ref a), some (.int (i : Int)), some (.int r), some (.int cnt), some (.tup (.str kd :: ws)), some (.str (wayF kd)), some s, some c0, a8, a9, a10] ∧ μ6 = μ7 ∧ Good 2 μ6 s) (rm_if (ec_test (ed_gt (ed_mod (ed_div (ed_var rfl) ed_int ⟨by decide, by decide⟩) ed_int (by decide)) ed_int)) (fun c => ?_) (fun c => ?_)) (fun ρ μ7 hM => ?_)
      · obtain ⟨x, hx⟩ := csd_some (-1 - r / 27 % 100) (r / 27 % cnt) 1000 wm0
        exact rm_asg (ed_csd (ed_sub (ed_neg ed_int) (ed_mod (ed_div (ed_var rfl) ed_int ⟨by decide, by decide⟩) ed_int (by decide))) (ed_mod (ed_div (ed_var rfl) ed_int ⟨by decide, by decide⟩) (ed_var rfl) hcp) ed_int (ed_ixS (ed_var rfl) ed_int wsz (by decide) wa0) hx) ⟨_, rfl, rfl, good_int⟩
      · exact rm_next ⟨_, rfl, rfl, ks0.grow g6⟩
      obtain ⟨s1, rfl, rfl, ks1⟩ := hM
      refine rm_seq (M := fun ρ μ7 => ∃ s, ρ = [some (.ref a), some (.int (i : Int)), some (.int r), some (.int cnt), some (.tup (.str kd :: ws)), some (.str (wayF kd)), some s1, some s, a8, a9, a10] ∧ μ6 = μ7 ∧ Good 2 μ6 s) (rm_if (ec_test (ed_gt (ed_mod (ed_div (ed_var rfl) ed_int ⟨by decide, by decide⟩) ed_int (by decide)) ed_int)) (fun c => ?_) (fun c => ?_)) (fun ρ μ7 hM => ?_)
      · obtain ⟨x, hx⟩ := csd_some (-1 - r / 33 % 100) (r / 33 % cnt) 1000 wm1
        exact rm_asg (ed_csd (ed_sub (ed_neg ed_int) (ed_mod (ed_div (ed_var rfl) ed_int ⟨by decide, by decide⟩) ed_int (by decide))) (ed_mod (ed_div (ed_var rfl) ed_int ⟨by decide, by decide⟩) (ed_var rfl) hcp) ed_int (ed_ixS (ed_var rfl) ed_int wsz (by decide) wa1) hx) ⟨_, rfl, rfl, good_int⟩
      · exact rm_next ⟨_, rfl, rfl, kc0⟩
      obtain ⟨c1, rfl, rfl, kc1⟩ := hM
      obtain ⟨dws, zws, kws, qws⟩ := goods (fun u hu => (hgood u hu).grow ((g4.trans g5).trans g6))
      obtain ⟨ds, zs, kks, qs⟩ := ks1
      obtain ⟨dc, zc, kkc, qc⟩ := kc1
      have zl : Dw μ6 (.tup (.str kd :: ws)) (.tuple (.str kd :: dws)) := .tup (.cons .str zws)
      have kl : okD (.tuple (.str kd :: dws)) := by
        unfold okD okDs
        exact ⟨by unfold okD; exact okk, kws⟩
      have ql : PyData.depth (.tuple (.str kd :: dws)) ≤ 13 := by
        simp only [PyData.depth, PyData.depthAll]
        omega
      refine rm_set (d := .bl (fitB cnt ds dc (.tuple (.str kd :: dws)))) (ed_and (ed_call (es_cons (ed_var rfl) (es_cons (ed_var rfl) es_nil)) (W_is_letter.mk zl kl)) fun _ => ed_and (ed_call (es_cons (ed_var rfl) (es_cons (ed_ixS (ed_var rfl) ed_int wsz (by decide) wa0) (es_cons (ed_var rfl) es_nil))) (W__law_at.mk zs)) fun _ => ed_call (es_cons (ed_var rfl) (es_cons (ed_ixS (ed_var rfl) ed_int wsz (by decide) wa1) (es_cons (ed_var rfl) es_nil))) (W__law_at.mk zc)) ?_
      refine rm_setW (P := fun w μ8 => (fitB cnt ds dc (.tuple (.str kd :: dws)) = true → w = .tup (.str kd :: ws)) ∧ (fitB cnt ds dc (.tuple (.str kd :: dws)) = false → w = .bl true) ∧ μ6 = μ8) (ew_call (es_cons (ed_var rfl) (es_cons (ed_var rfl) (es_cons (ed_var rfl) (es_cons (ed_var rfl) es_nil)))) (W__law_outcome.mk zs zc zl kl (fun e => ⟨fun _ => rfl, fun q => absurd (e.symm.trans q) (by decide), rfl⟩) (fun e => ⟨fun q => absurd (q.symm.trans e) (by decide), fun _ => rfl, rfl⟩))) fun w μ8 hP => ?_
      obtain ⟨h1, h2, rfl⟩ := hP
      have sl : SeqAt.shaped (.tuple (.str kd :: dws)) = true := shaped_ok kl ql (by decide)
      have er : PyData.eqv (.tuple (.str kd :: dws)) (.tuple (.str kd :: dws)) = true := SeqAt.eqv_refl _ (canLay_ok kl)
      refine rm_ifs (b := false) ?t (fun c => by cases c) (fun _ => rm_nexts ?l)
      case t =>
        cases hf : fitB cnt ds dc (.tuple (.str kd :: dws)) with
        | true =>
          rw [h1 hf]
          refine EvC.is (ec_or (ec_and (ec_val (ed_var rfl)) fun _ => ec_test (ed_ne (ed_var rfl) (ed_var rfl) zl zl sl sl)) fun _ => ec_and (b := true) (ec_not (ec_val (ed_var rfl))) fun q => absurd q (by decide)) ?_
          rw [er]
          rfl
        | false =>
          rw [h2 hf]
          exact EvC.is (ec_or (ec_and (b := true) (ec_val (ed_var rfl)) fun q => absurd q (by decide)) fun _ => ec_and (ec_not (ec_val (ed_var rfl))) fun _ => ec_test (ed_notB (ed_var rfl) ed_bl)) rfl
      case l =>
        refine rm_of (R := fun _ => False) (run_forN1 (el_lst (xs := [s1, c1]) (es_cons (ed_var rfl) (es_cons (ed_var rfl) es_nil)) (Nat.le_of_ble_eq_true rfl)) (fun _ ρ => ∃ a10, ρ = [some (.ref a), some (.int (i : Int)), some (.int r), some (.int cnt), some (.tup (.str kd :: ws)), some (.str (wayF kd)), some s1, some c1, some (.bl (fitB cnt ds dc (.tuple (.str kd :: dws)))), some w, a10]) ⟨_, rfl⟩ (fun j x ρ hx hI => ?_)) (fun ρ hρ => ?_) (fun _ q => q.elim)
        · obtain ⟨a10, rfl⟩ := hI
          have hd : ∃ d, Dw μ6 x d := by
            match j, hx with
            | 0, hx =>
              cases hx
              exact ⟨_, zs⟩
            | 1, hx =>
              cases hx
              exact ⟨_, zc⟩
            | j + 2, hx => cases hx
          obtain ⟨d, zd⟩ := hd
          have es : atB cnt "s" d = intB 0 (cnt - 1) d := rfl
          have ec : atB cnt "c" d = intB (-100) (-1) d := rfl
          refine run_if (ec_or (ec_test (ed_neB (ed_call (es_cons (ed_var rfl) (es_cons (ed_var rfl) es_nil)) (W_is_server.mk zd)) (ed_call (es_cons (ed_var rfl) (es_cons ed_str (es_cons (ed_var rfl) es_nil))) (W__law_at.mk zd)))) fun _ => ec_test (ed_neB (ed_call (es_cons (ed_var rfl) es_nil) (W_is_client.mk zd)) (ed_call (es_cons (ed_var rfl) (es_cons ed_str (es_cons (ed_var rfl) es_nil))) (W__law_at.mk zd)))) (fun c => ?_) (fun c => run_next ⟨_, rfl⟩)
          rw [es, ec, decide_eq_true rfl, decide_eq_true rfl] at c
          cases c
        · obtain ⟨a10, rfl⟩ := hρ
          exact ⟨_, _, _, _, _, _, _, _, _, _, rfl, gall⟩
    · obtain ⟨a1, a2, a3, a4, a5, a6, a7, a8, a9, a10, rfl, hg⟩ := hI
      exact rm_ret ed_bl (p μ')
end
end K11

namespace K11
open PySem L2 Evl Pw
/-! ### the head -/
def d_is_key : He.DefD := ⟨("is_key", none), "is_key", "is_key", defArgs s_is_key, defBody s_is_key, defScope s_is_key, [], []⟩
def d_is_bound : He.DefD := ⟨("is_bound", none), "is_bound", "is_bound", defArgs s_is_bound, defBody s_is_bound, defScope s_is_bound, [], []⟩
def d_is_range : He.DefD := ⟨("is_range", none), "is_range", "is_range", defArgs s_is_range, defBody s_is_range, defScope s_is_range, [], []⟩
def d_below : He.DefD := ⟨("below", none), "below", "below", defArgs s_below, defBody s_below, defScope s_below, [], []⟩
def d_contains : He.DefD := ⟨("contains", none), "contains", "contains", defArgs s_contains, defBody s_contains, defScope s_contains, [], []⟩
def d_is_printable : He.DefD := ⟨("is_printable", none), "is_printable", "is_printable", defArgs s_is_printable, defBody s_is_printable, defScope s_is_printable, [], []⟩
def d_is_integer : He.DefD := ⟨("is_integer", none), "is_integer", "is_integer", defArgs s_is_integer, defBody s_is_integer, defScope s_is_integer, [], []⟩
def d_kind_of : He.DefD := ⟨("kind_of", none), "kind_of", "kind_of", defArgs s_kind_of, defBody s_kind_of, defScope s_kind_of, [], []⟩
def d_is_value : He.DefD := ⟨("is_value", none), "is_value", "is_value", defArgs s_is_value, defBody s_is_value, defScope s_is_value, [], []⟩
def d_are_pairs : He.DefD := ⟨("are_pairs", none), "are_pairs", "are_pairs", defArgs s_are_pairs, defBody s_are_pairs, defScope s_are_pairs, [], []⟩
def d__is_pair : He.DefD := ⟨("_is_pair", none), "_is_pair", "_is_pair", defArgs s__is_pair, defBody s__is_pair, defScope s__is_pair, [], []⟩
def d__is_key_alone : He.DefD := ⟨("_is_key_alone", none), "_is_key_alone", "_is_key_alone", defArgs s__is_key_alone, defBody s__is_key_alone, defScope s__is_key_alone, [], []⟩
def d__is_put : He.DefD := ⟨("_is_put", none), "_is_put", "_is_put", defArgs s__is_put, defBody s__is_put, defScope s__is_put, [], []⟩
def d__is_swap : He.DefD := ⟨("_is_swap", none), "_is_swap", "_is_swap", defArgs s__is_swap, defBody s__is_swap, defScope s__is_swap, [], []⟩
def d__is_page : He.DefD := ⟨("_is_page", none), "_is_page", "_is_page", defArgs s__is_page, defBody s__is_page, defScope s__is_page, [], []⟩
def d_is_operation : He.DefD := ⟨("is_operation", none), "is_operation", "is_operation", defArgs s_is_operation, defBody s_is_operation, defScope s_is_operation, [], []⟩
def d__is_word_alone : He.DefD := ⟨("_is_word_alone", none), "_is_word_alone", "_is_word_alone", defArgs s__is_word_alone, defBody s__is_word_alone, defScope s__is_word_alone, [], []⟩
def d__is_value_told : He.DefD := ⟨("_is_value_told", none), "_is_value_told", "_is_value_told", defArgs s__is_value_told, defBody s__is_value_told, defScope s__is_value_told, [], []⟩
def d__is_page_told : He.DefD := ⟨("_is_page_told", none), "_is_page_told", "_is_page_told", defArgs s__is_page_told, defBody s__is_page_told, defScope s__is_page_told, [], []⟩
def d_is_answer : He.DefD := ⟨("is_answer", none), "is_answer", "is_answer", defArgs s_is_answer, defBody s_is_answer, defScope s_is_answer, [], []⟩
def d_is_server : He.DefD := ⟨("is_server", none), "is_server", "is_server", defArgs s_is_server, defBody s_is_server, defScope s_is_server, [], []⟩
def d_is_client : He.DefD := ⟨("is_client", none), "is_client", "is_client", defArgs s_is_client, defBody s_is_client, defScope s_is_client, [], []⟩
def d_is_pairs : He.DefD := ⟨("is_pairs", none), "is_pairs", "is_pairs", defArgs s_is_pairs, defBody s_is_pairs, defScope s_is_pairs, [], []⟩
def d_is_rows : He.DefD := ⟨("is_rows", none), "is_rows", "is_rows", defArgs s_is_rows, defBody s_is_rows, defScope s_is_rows, [], []⟩
def d__is_row : He.DefD := ⟨("_is_row", none), "_is_row", "_is_row", defArgs s__is_row, defBody s__is_row, defScope s__is_row, [], []⟩
def d_is_number : He.DefD := ⟨("is_number", none), "is_number", "is_number", defArgs s_is_number, defBody s_is_number, defScope s_is_number, [], []⟩
def d__is_ask : He.DefD := ⟨("_is_ask", none), "_is_ask", "_is_ask", defArgs s__is_ask, defBody s__is_ask, defScope s__is_ask, [], []⟩
def d__is_where : He.DefD := ⟨("_is_where", none), "_is_where", "_is_where", defArgs s__is_where, defBody s__is_where, defScope s__is_where, [], []⟩
def d__is_told : He.DefD := ⟨("_is_told", none), "_is_told", "_is_told", defArgs s__is_told, defBody s__is_told, defScope s__is_told, [], []⟩
def d__is_elsewhere : He.DefD := ⟨("_is_elsewhere", none), "_is_elsewhere", "_is_elsewhere", defArgs s__is_elsewhere, defBody s__is_elsewhere, defScope s__is_elsewhere, [], []⟩
def d_names_shard : He.DefD := ⟨("names_shard", none), "names_shard", "names_shard", defArgs s_names_shard, defBody s_names_shard, defScope s_names_shard, [], []⟩
def d__names_server : He.DefD := ⟨("_names_server", none), "_names_server", "_names_server", defArgs s__names_server, defBody s__names_server, defScope s__names_server, [], []⟩
def d__is_split : He.DefD := ⟨("_is_split", none), "_is_split", "_is_split", defArgs s__is_split, defBody s__is_split, defScope s__is_split, [], []⟩
def d__is_join : He.DefD := ⟨("_is_join", none), "_is_join", "_is_join", defArgs s__is_join, defBody s__is_join, defScope s__is_join, [], []⟩
def d__is_have : He.DefD := ⟨("_is_have", none), "_is_have", "_is_have", defArgs s__is_have, defBody s__is_have, defScope s__is_have, [], []⟩
def d__is_content : He.DefD := ⟨("_is_content", none), "_is_content", "_is_content", defArgs s__is_content, defBody s__is_content, defScope s__is_content, [], []⟩
def d__is_receipt : He.DefD := ⟨("_is_receipt", none), "_is_receipt", "_is_receipt", defArgs s__is_receipt, defBody s__is_receipt, defScope s__is_receipt, [], []⟩
def d_is_letter : He.DefD := ⟨("is_letter", none), "is_letter", "is_letter", defArgs s_is_letter, defBody s_is_letter, defScope s_is_letter, [], []⟩
def d__is_party : He.DefD := ⟨("_is_party", none), "_is_party", "_is_party", defArgs s__is_party, defBody s__is_party, defScope s__is_party, [], []⟩
def d_check_letter : He.DefD := ⟨("check_letter", none), "check_letter", "check_letter", defArgs s_check_letter, defBody s_check_letter, defScope s_check_letter, [], []⟩
def d__law_cell : He.DefD := ⟨("_law_cell", none), "_law_cell", "_law_cell", defArgs s__law_cell, defBody s__law_cell, defScope s__law_cell, [], []⟩
def d__law_rich : He.DefD := ⟨("_law_rich", none), "_law_rich", "_law_rich", defArgs s__law_rich, defBody s__law_rich, defScope s__law_rich, [], []⟩
def d__law_word : He.DefD := ⟨("_law_word", none), "_law_word", "_law_word", defArgs s__law_word, defBody s__law_word, defScope s__law_word, [], []⟩
def d__law_key : He.DefD := ⟨("_law_key", none), "_law_key", "_law_key", defArgs s__law_key, defBody s__law_key, defScope s__law_key, [], []⟩
def d__law_bound : He.DefD := ⟨("_law_bound", none), "_law_bound", "_law_bound", defArgs s__law_bound, defBody s__law_bound, defScope s__law_bound, [], []⟩
def d__law_value : He.DefD := ⟨("_law_value", none), "_law_value", "_law_value", defArgs s__law_value, defBody s__law_value, defScope s__law_value, [], []⟩
def d__law_range : He.DefD := ⟨("_law_range", none), "_law_range", "_law_range", defArgs s__law_range, defBody s__law_range, defScope s__law_range, [], []⟩
def d__law_operation : He.DefD := ⟨("_law_operation", none), "_law_operation", "_law_operation", defArgs s__law_operation, defBody s__law_operation, defScope s__law_operation, [], []⟩
def d__law_answer : He.DefD := ⟨("_law_answer", none), "_law_answer", "_law_answer", defArgs s__law_answer, defBody s__law_answer, defScope s__law_answer, [], []⟩
def d__law_rows : He.DefD := ⟨("_law_rows", none), "_law_rows", "_law_rows", defArgs s__law_rows, defBody s__law_rows, defScope s__law_rows, [], []⟩
def d__law_pairs : He.DefD := ⟨("_law_pairs", none), "_law_pairs", "_law_pairs", defArgs s__law_pairs, defBody s__law_pairs, defScope s__law_pairs, [], []⟩
def d__law_letter : He.DefD := ⟨("_law_letter", none), "_law_letter", "_law_letter", defArgs s__law_letter, defBody s__law_letter, defScope s__law_letter, [], []⟩
def d__law_place : He.DefD := ⟨("_law_place", none), "_law_place", "_law_place", defArgs s__law_place, defBody s__law_place, defScope s__law_place, [], []⟩
def d__law_is_int : He.DefD := ⟨("_law_is_int", none), "_law_is_int", "_law_is_int", defArgs s__law_is_int, defBody s__law_is_int, defScope s__law_is_int, [], []⟩
def d__law_at : He.DefD := ⟨("_law_at", none), "_law_at", "_law_at", defArgs s__law_at, defBody s__law_at, defScope s__law_at, [], []⟩
def d__law_way : He.DefD := ⟨("_law_way", none), "_law_way", "_law_way", defArgs s__law_way, defBody s__law_way, defScope s__law_way, [], []⟩
def d__law_outcome : He.DefD := ⟨("_law_outcome", none), "_law_outcome", "_law_outcome", defArgs s__law_outcome, defBody s__law_outcome, defScope s__law_outcome, [], []⟩
def d_law : He.DefD := ⟨("law", none), "law", "law", defArgs s_law, defBody s_law, defScope s_law, [], []⟩
def fn : List He.DefD := [d_is_key, d_is_bound, d_is_range, d_below, d_contains, d_is_printable, d_is_integer, d_kind_of, d_is_value, d_are_pairs, d__is_pair, d__is_key_alone, d__is_put, d__is_swap, d__is_page, d_is_operation, d__is_word_alone, d__is_value_told, d__is_page_told, d_is_answer, d_is_server, d_is_client, d_is_pairs, d_is_rows, d__is_row, d_is_number, d__is_ask, d__is_where, d__is_told, d__is_elsewhere, d_names_shard, d__names_server, d__is_split, d__is_join, d__is_have, d__is_content, d__is_receipt, d_is_letter, d__is_party, d_check_letter, d__law_cell, d__law_rich, d__law_word, d__law_key, d__law_bound, d__law_value, d__law_range, d__law_operation, d__law_answer, d__law_rows, d__law_pairs, d__law_letter, d__law_place, d__law_is_int, d__law_at, d__law_way, d__law_outcome, d_law]
def fa : List He.Fa := [.glo "is_key", .glo "is_bound", .glo "is_range", .glo "below", .glo "contains", .glo "is_printable", .glo "is_integer", .glo "kind_of", .glo "is_value", .glo "are_pairs", .glo "_is_pair", .glo "_is_key_alone", .glo "_is_put", .glo "_is_swap", .glo "_is_page", .glo "is_operation", .glo "_is_word_alone", .glo "_is_value_told", .glo "_is_page_told", .glo "is_answer", .glo "is_server", .glo "is_client", .glo "is_pairs", .glo "is_rows", .glo "_is_row", .glo "is_number", .glo "_is_ask", .glo "_is_where", .glo "_is_told", .glo "_is_elsewhere", .glo "names_shard", .glo "_names_server", .glo "_is_split", .glo "_is_join", .glo "_is_have", .glo "_is_content", .glo "_is_receipt", .glo "is_letter", .glo "_is_party", .glo "check_letter", .glo "_law_cell", .glo "_law_rich", .glo "_law_word", .glo "_law_key", .glo "_law_bound", .glo "_law_value", .glo "_law_range", .glo "_law_operation", .glo "_law_answer", .glo "_law_rows", .glo "_law_pairs", .glo "_law_letter", .glo "_law_place", .glo "_law_is_int", .glo "_law_at", .glo "_law_way", .glo "_law_outcome", .glo "law", .glo "ANSWERS", .glo "OPERATIONS", .glo "FORMS", .glo "ROUTES", .glo "BadLetter", .glo "TableError", .free "len", .free "isinstance", .free "str", .free "ord", .free "bool", .free "int", .free "tuple", .free "range", .free "max", .free "min", .free "sorted", .int "MOST_KEY" 8, .int "BARRED" 37, .int "MOST_VALUE" 40, .int "MOST_PAGE" 50, .int "MOST_CLIENTS" 100, .int "MOST_NUMBER" 1000000000000, .int "DIRECTORY" 1000, .exc "BadLetter", .exm "BadLetter" "TableError" true]
def k_ANSWERS : List (Str × Str) := [("value", "_is_value_told"), ("none", "_is_word_alone"), ("done", "_is_word_alone"), ("other", "_is_value_told"), ("page", "_is_page_told")]
def k_OPERATIONS : List (Str × Str) := [("get", "_is_key_alone"), ("put", "_is_put"), ("drop", "_is_key_alone"), ("swap", "_is_swap"), ("page", "_is_page")]
def k_FORMS : List (Str × Str) := [("ask", "_is_ask"), ("where", "_is_where"), ("answer", "_is_told"), ("elsewhere", "_is_elsewhere"), ("there", "_names_server"), ("move", "_names_server"), ("split", "_is_split"), ("join", "_is_join"), ("have", "_is_have"), ("content", "_is_content"), ("receipt", "_is_receipt")]
def ts : List He.Tab := [(fun K => He.ga K "ANSWERS", k_ANSWERS.map (·.1)), (fun K => He.ga K "OPERATIONS", k_OPERATIONS.map (·.1)), (fun K => He.ga K "FORMS", k_FORMS.map (·.1)), (fun K => He.ga K "ROUTES", routesT.map (·.1))]
def ex (K : Frag) : Bool := Pw.noLst K && He.valsB K (He.ga K "ANSWERS") (k_ANSWERS.map fun p => (p.1, He.Dv.glo p.2)) && He.valsB K (He.ga K "OPERATIONS") (k_OPERATIONS.map fun p => (p.1, He.Dv.glo p.2)) && He.valsB K (He.ga K "FORMS") (k_FORMS.map fun p => (p.1, He.Dv.glo p.2))
 && Pw.tabTB K (He.ga K "ROUTES") routesT && Pw.excCB K (He.ga K "BadLetter")abbrev R : PySem.W.OpenRow := PySem.W.OpenLaw.row PySem.Challenge.rw_boundstone_k11_ways_of_letters
abbrev hk : PySem.W.Hook := He.hookX 2 fa fn ts [] ex
def ob (s : PySem.W.SharedT) : He.AlX := He.obsX 2 fa fn ts [] ex (HandSHeadRun.getT s)
theorem ob_eq (s : PySem.W.SharedT) : ob s = hk.obs s.abs := He.obsX_eq (HandSHeadRun.getT_eq s)
def loose : List PySem.Str := (["is_key", "is_bound", "is_range", "below", "contains", "is_printable", "is_integer", "kind_of", "is_value", "are_pairs", "_is_pair", "_is_key_alone", "_is_put", "_is_swap", "_is_page", "is_operation", "_is_word_alone", "_is_value_told", "_is_page_told", "is_answer"] : List PySem.Str) ++ (["is_server", "is_client", "is_pairs", "is_rows", "_is_row", "is_number", "_is_ask", "_is_where", "_is_told", "_is_elsewhere", "names_shard", "_names_server", "_is_split", "_is_join", "_is_have", "_is_content", "_is_receipt", "is_letter", "_is_party", "check_letter"] : List PySem.Str) ++ (["_law_cell", "_law_rich", "_law_word", "_law_key", "_law_bound", "_law_value", "_law_range", "_law_operation", "_law_answer", "_law_rows", "_law_pairs", "_law_letter", "_law_place", "_law_is_int", "_law_at", "_law_way", "_law_outcome", "TableError", "BadLetter", "MOST_KEY"] : List PySem.Str) ++ (["MOST_VALUE", "MOST_PAGE", "MOST_CLIENTS", "DIRECTORY", "MOST_NUMBER", "BARRED", "OPERATIONS", "ANSWERS", "FORMS", "ROUTES"] : List PySem.Str)
theorem run1 (w : World) : HandSHeadRun.RunEq R (PySem.W.view R.prog [76]) hk ob 6000 loose (w.withFollow "special-get-raises" false) := fun os => by kernel_rfl
theorem run2 (w : World) : HandSHeadRun.RunEq R (PySem.W.view R.prog [76]) hk ob 6000 loose (w.withFollow "special-get-raises" true) := fun os => by kernel_rfl
theorem run (w : World) : HandSHeadRun.RunEq R (PySem.W.view R.prog [76]) hk ob 6000 loose w :=
  PySem.W.byRow2 "special-get-raises" (P := fun w => HandSHeadRun.RunEq R (PySem.W.view R.prog [76]) hk ob 6000 loose w) run1 run2 w
theorem facts {P : Program} {w : World} {K : Frag} {h : Heap} {mg : Str → Option Value} {f : Addr} (X : K.In h) (G : h.Ns mainGlobals mg) (hfa : mg ("law" : Str) = some (.ref f)) (y : He.SaysX fa fn ts [] ex w h K) :
    ∃ fd : FuncData, (∀ (s : Shared) (v : Value), BindsTo s fd ⟨[v], []⟩ [("script", v)]) ∧ ∀ base : Heap, K.In base → base.Ns mainGlobals mg → FnOk P w K mg base CX0 13 f fd ["script"] (spM K W_law) := by
  have c := y.t.d
  obtain ⟨fd_is_key, F_is_key⟩ := c.def_ 0 (d := d_is_key) rfl
  obtain ⟨fd_is_bound, F_is_bound⟩ := c.def_ 1 (d := d_is_bound) rfl
  obtain ⟨fd_is_range, F_is_range⟩ := c.def_ 2 (d := d_is_range) rfl
  obtain ⟨fd_below, F_below⟩ := c.def_ 3 (d := d_below) rfl
  obtain ⟨fd_contains, F_contains⟩ := c.def_ 4 (d := d_contains) rfl
  obtain ⟨fd_is_printable, F_is_printable⟩ := c.def_ 5 (d := d_is_printable) rfl
  obtain ⟨fd_is_integer, F_is_integer⟩ := c.def_ 6 (d := d_is_integer) rfl
  obtain ⟨fd_kind_of, F_kind_of⟩ := c.def_ 7 (d := d_kind_of) rfl
  obtain ⟨fd_is_value, F_is_value⟩ := c.def_ 8 (d := d_is_value) rfl
  obtain ⟨fd_are_pairs, F_are_pairs⟩ := c.def_ 9 (d := d_are_pairs) rfl
  obtain ⟨fd__is_pair, F__is_pair⟩ := c.def_ 10 (d := d__is_pair) rfl
  obtain ⟨fd__is_key_alone, F__is_key_alone⟩ := c.def_ 11 (d := d__is_key_alone) rfl
  obtain ⟨fd__is_put, F__is_put⟩ := c.def_ 12 (d := d__is_put) rfl
  obtain ⟨fd__is_swap, F__is_swap⟩ := c.def_ 13 (d := d__is_swap) rfl
  obtain ⟨fd__is_page, F__is_page⟩ := c.def_ 14 (d := d__is_page) rfl
  obtain ⟨fd_is_operation, F_is_operation⟩ := c.def_ 15 (d := d_is_operation) rfl
  obtain ⟨fd__is_word_alone, F__is_word_alone⟩ := c.def_ 16 (d := d__is_word_alone) rfl
  obtain ⟨fd__is_value_told, F__is_value_told⟩ := c.def_ 17 (d := d__is_value_told) rfl
  obtain ⟨fd__is_page_told, F__is_page_told⟩ := c.def_ 18 (d := d__is_page_told) rfl
  obtain ⟨fd_is_answer, F_is_answer⟩ := c.def_ 19 (d := d_is_answer) rfl
  obtain ⟨fd_is_server, F_is_server⟩ := c.def_ 20 (d := d_is_server) rfl
  obtain ⟨fd_is_client, F_is_client⟩ := c.def_ 21 (d := d_is_client) rfl
  obtain ⟨fd_is_pairs, F_is_pairs⟩ := c.def_ 22 (d := d_is_pairs) rfl
  obtain ⟨fd_is_rows, F_is_rows⟩ := c.def_ 23 (d := d_is_rows) rfl
  obtain ⟨fd__is_row, F__is_row⟩ := c.def_ 24 (d := d__is_row) rfl
  obtain ⟨fd_is_number, F_is_number⟩ := c.def_ 25 (d := d_is_number) rfl
  obtain ⟨fd__is_ask, F__is_ask⟩ := c.def_ 26 (d := d__is_ask) rfl
  obtain ⟨fd__is_where, F__is_where⟩ := c.def_ 27 (d := d__is_where) rfl
  obtain ⟨fd__is_told, F__is_told⟩ := c.def_ 28 (d := d__is_told) rfl
  obtain ⟨fd__is_elsewhere, F__is_elsewhere⟩ := c.def_ 29 (d := d__is_elsewhere) rfl
  obtain ⟨fd_names_shard, F_names_shard⟩ := c.def_ 30 (d := d_names_shard) rfl
  obtain ⟨fd__names_server, F__names_server⟩ := c.def_ 31 (d := d__names_server) rfl
  obtain ⟨fd__is_split, F__is_split⟩ := c.def_ 32 (d := d__is_split) rfl
  obtain ⟨fd__is_join, F__is_join⟩ := c.def_ 33 (d := d__is_join) rfl
  obtain ⟨fd__is_have, F__is_have⟩ := c.def_ 34 (d := d__is_have) rfl
  obtain ⟨fd__is_content, F__is_content⟩ := c.def_ 35 (d := d__is_content) rfl
  obtain ⟨fd__is_receipt, F__is_receipt⟩ := c.def_ 36 (d := d__is_receipt) rfl
  obtain ⟨fd_is_letter, F_is_letter⟩ := c.def_ 37 (d := d_is_letter) rfl
  obtain ⟨fd__is_party, F__is_party⟩ := c.def_ 38 (d := d__is_party) rfl
  obtain ⟨fd_check_letter, F_check_letter⟩ := c.def_ 39 (d := d_check_letter) rfl
  obtain ⟨fd__law_cell, F__law_cell⟩ := c.def_ 40 (d := d__law_cell) rfl
  obtain ⟨fd__law_rich, F__law_rich⟩ := c.def_ 41 (d := d__law_rich) rfl
  obtain ⟨fd__law_word, F__law_word⟩ := c.def_ 42 (d := d__law_word) rfl
  obtain ⟨fd__law_key, F__law_key⟩ := c.def_ 43 (d := d__law_key) rfl
  obtain ⟨fd__law_bound, F__law_bound⟩ := c.def_ 44 (d := d__law_bound) rfl
  obtain ⟨fd__law_value, F__law_value⟩ := c.def_ 45 (d := d__law_value) rfl
  obtain ⟨fd__law_range, F__law_range⟩ := c.def_ 46 (d := d__law_range) rfl
  obtain ⟨fd__law_operation, F__law_operation⟩ := c.def_ 47 (d := d__law_operation) rfl
  obtain ⟨fd__law_answer, F__law_answer⟩ := c.def_ 48 (d := d__law_answer) rfl
  obtain ⟨fd__law_rows, F__law_rows⟩ := c.def_ 49 (d := d__law_rows) rfl
  obtain ⟨fd__law_pairs, F__law_pairs⟩ := c.def_ 50 (d := d__law_pairs) rfl
  obtain ⟨fd__law_letter, F__law_letter⟩ := c.def_ 51 (d := d__law_letter) rfl
  obtain ⟨fd__law_place, F__law_place⟩ := c.def_ 52 (d := d__law_place) rfl
  obtain ⟨fd__law_is_int, F__law_is_int⟩ := c.def_ 53 (d := d__law_is_int) rfl
  obtain ⟨fd__law_at, F__law_at⟩ := c.def_ 54 (d := d__law_at) rfl
  obtain ⟨fd__law_way, F__law_way⟩ := c.def_ 55 (d := d__law_way) rfl
  obtain ⟨fd__law_outcome, F__law_outcome⟩ := c.def_ 56 (d := d__law_outcome) rfl
  obtain ⟨fd_law, F_law⟩ := c.def_ 57 (d := d_law) rfl
  have g_is_key := He.glo_ok X G (c.fact 0 (f := .glo "is_key") rfl)
  have g_is_bound := He.glo_ok X G (c.fact 1 (f := .glo "is_bound") rfl)
  have g_is_range := He.glo_ok X G (c.fact 2 (f := .glo "is_range") rfl)
  have g_below := He.glo_ok X G (c.fact 3 (f := .glo "below") rfl)
  have g_contains := He.glo_ok X G (c.fact 4 (f := .glo "contains") rfl)
  have g_is_printable := He.glo_ok X G (c.fact 5 (f := .glo "is_printable") rfl)
  have g_is_integer := He.glo_ok X G (c.fact 6 (f := .glo "is_integer") rfl)
  have g_kind_of := He.glo_ok X G (c.fact 7 (f := .glo "kind_of") rfl)
  have g_is_value := He.glo_ok X G (c.fact 8 (f := .glo "is_value") rfl)
  have g_are_pairs := He.glo_ok X G (c.fact 9 (f := .glo "are_pairs") rfl)
  have g__is_pair := He.glo_ok X G (c.fact 10 (f := .glo "_is_pair") rfl)
  have g__is_key_alone := He.glo_ok X G (c.fact 11 (f := .glo "_is_key_alone") rfl)
  have g__is_put := He.glo_ok X G (c.fact 12 (f := .glo "_is_put") rfl)
  have g__is_swap := He.glo_ok X G (c.fact 13 (f := .glo "_is_swap") rfl)
  have g__is_page := He.glo_ok X G (c.fact 14 (f := .glo "_is_page") rfl)
  have g_is_operation := He.glo_ok X G (c.fact 15 (f := .glo "is_operation") rfl)
  have g__is_word_alone := He.glo_ok X G (c.fact 16 (f := .glo "_is_word_alone") rfl)
  have g__is_value_told := He.glo_ok X G (c.fact 17 (f := .glo "_is_value_told") rfl)
  have g__is_page_told := He.glo_ok X G (c.fact 18 (f := .glo "_is_page_told") rfl)
  have g_is_answer := He.glo_ok X G (c.fact 19 (f := .glo "is_answer") rfl)
  have g_is_server := He.glo_ok X G (c.fact 20 (f := .glo "is_server") rfl)
  have g_is_client := He.glo_ok X G (c.fact 21 (f := .glo "is_client") rfl)
  have g_is_pairs := He.glo_ok X G (c.fact 22 (f := .glo "is_pairs") rfl)
  have g_is_rows := He.glo_ok X G (c.fact 23 (f := .glo "is_rows") rfl)
  have g__is_row := He.glo_ok X G (c.fact 24 (f := .glo "_is_row") rfl)
  have g_is_number := He.glo_ok X G (c.fact 25 (f := .glo "is_number") rfl)
  have g__is_ask := He.glo_ok X G (c.fact 26 (f := .glo "_is_ask") rfl)
  have g__is_where := He.glo_ok X G (c.fact 27 (f := .glo "_is_where") rfl)
  have g__is_told := He.glo_ok X G (c.fact 28 (f := .glo "_is_told") rfl)
  have g__is_elsewhere := He.glo_ok X G (c.fact 29 (f := .glo "_is_elsewhere") rfl)
  have g_names_shard := He.glo_ok X G (c.fact 30 (f := .glo "names_shard") rfl)
  have g__names_server := He.glo_ok X G (c.fact 31 (f := .glo "_names_server") rfl)
  have g__is_split := He.glo_ok X G (c.fact 32 (f := .glo "_is_split") rfl)
  have g__is_join := He.glo_ok X G (c.fact 33 (f := .glo "_is_join") rfl)
  have g__is_have := He.glo_ok X G (c.fact 34 (f := .glo "_is_have") rfl)
  have g__is_content := He.glo_ok X G (c.fact 35 (f := .glo "_is_content") rfl)
  have g__is_receipt := He.glo_ok X G (c.fact 36 (f := .glo "_is_receipt") rfl)
  have g_is_letter := He.glo_ok X G (c.fact 37 (f := .glo "is_letter") rfl)
  have g__is_party := He.glo_ok X G (c.fact 38 (f := .glo "_is_party") rfl)
  have g_check_letter := He.glo_ok X G (c.fact 39 (f := .glo "check_letter") rfl)
  have g__law_cell := He.glo_ok X G (c.fact 40 (f := .glo "_law_cell") rfl)
  have g__law_rich := He.glo_ok X G (c.fact 41 (f := .glo "_law_rich") rfl)
  have g__law_word := He.glo_ok X G (c.fact 42 (f := .glo "_law_word") rfl)
  have g__law_key := He.glo_ok X G (c.fact 43 (f := .glo "_law_key") rfl)
  have g__law_bound := He.glo_ok X G (c.fact 44 (f := .glo "_law_bound") rfl)
  have g__law_value := He.glo_ok X G (c.fact 45 (f := .glo "_law_value") rfl)
  have g__law_range := He.glo_ok X G (c.fact 46 (f := .glo "_law_range") rfl)
  have g__law_operation := He.glo_ok X G (c.fact 47 (f := .glo "_law_operation") rfl)
  have g__law_answer := He.glo_ok X G (c.fact 48 (f := .glo "_law_answer") rfl)
  have g__law_rows := He.glo_ok X G (c.fact 49 (f := .glo "_law_rows") rfl)
  have g__law_pairs := He.glo_ok X G (c.fact 50 (f := .glo "_law_pairs") rfl)
  have g__law_letter := He.glo_ok X G (c.fact 51 (f := .glo "_law_letter") rfl)
  have g__law_place := He.glo_ok X G (c.fact 52 (f := .glo "_law_place") rfl)
  have g__law_is_int := He.glo_ok X G (c.fact 53 (f := .glo "_law_is_int") rfl)
  have g__law_at := He.glo_ok X G (c.fact 54 (f := .glo "_law_at") rfl)
  have g__law_way := He.glo_ok X G (c.fact 55 (f := .glo "_law_way") rfl)
  have g__law_outcome := He.glo_ok X G (c.fact 56 (f := .glo "_law_outcome") rfl)
  have g_law := He.glo_ok X G (c.fact 57 (f := .glo "law") rfl)
  have g_ANSWERS := He.glo_ok X G (c.fact 58 (f := .glo "ANSWERS") rfl)
  have g_OPERATIONS := He.glo_ok X G (c.fact 59 (f := .glo "OPERATIONS") rfl)
  have g_FORMS := He.glo_ok X G (c.fact 60 (f := .glo "FORMS") rfl)
  have g_ROUTES := He.glo_ok X G (c.fact 61 (f := .glo "ROUTES") rfl)
  have g_BadLetter := He.glo_ok X G (c.fact 62 (f := .glo "BadLetter") rfl)
  have g_TableError := He.glo_ok X G (c.fact 63 (f := .glo "TableError") rfl)
  have z_len := He.free_ok X G (c.fact 64 (f := .free "len") rfl)
  have z_isinstance := He.free_ok X G (c.fact 65 (f := .free "isinstance") rfl)
  have z_str := He.free_ok X G (c.fact 66 (f := .free "str") rfl)
  have z_ord := He.free_ok X G (c.fact 67 (f := .free "ord") rfl)
  have z_bool := He.free_ok X G (c.fact 68 (f := .free "bool") rfl)
  have z_int := He.free_ok X G (c.fact 69 (f := .free "int") rfl)
  have z_tuple := He.free_ok X G (c.fact 70 (f := .free "tuple") rfl)
  have z_range := He.free_ok X G (c.fact 71 (f := .free "range") rfl)
  have z_max := He.free_ok X G (c.fact 72 (f := .free "max") rfl)
  have z_min := He.free_ok X G (c.fact 73 (f := .free "min") rfl)
  have z_sorted := He.free_ok X G (c.fact 74 (f := .free "sorted") rfl)
  have c_MOST_KEY := He.int_ok X G (c.fact 75 (f := .int "MOST_KEY" 8) rfl)
  have c_BARRED := He.int_ok X G (c.fact 76 (f := .int "BARRED" 37) rfl)
  have c_MOST_VALUE := He.int_ok X G (c.fact 77 (f := .int "MOST_VALUE" 40) rfl)
  have c_MOST_PAGE := He.int_ok X G (c.fact 78 (f := .int "MOST_PAGE" 50) rfl)
  have c_MOST_CLIENTS := He.int_ok X G (c.fact 79 (f := .int "MOST_CLIENTS" 100) rfl)
  have c_MOST_NUMBER := He.int_ok X G (c.fact 80 (f := .int "MOST_NUMBER" 1000000000000) rfl)
  have c_DIRECTORY := He.int_ok X G (c.fact 81 (f := .int "DIRECTORY" 1000) rfl)
  have mo : ex K = true := y.more
  obtain ⟨mo, v_BadLetter⟩ := Bool.and_eq_true_iff.mp mo
  have i_BadLetter : L2.ExcC K _ := Pw.excC_of v_BadLetter
  obtain ⟨mo, v_ROUTES⟩ := Bool.and_eq_true_iff.mp mo
  have r_ROUTES : TabT K w mg "ROUTES" _ := Pw.tabT_of routesT g_ROUTES (Pw.saysT_dic y.t 3 rfl) v_ROUTES
  have x_BadLetter : ExcOf K mg "BadLetter" _ := Pw.exc_of (h := h) g_BadLetter (c.fact 82 (f := .exc "BadLetter") rfl)
  have m_BadLetter : PySem.W.exmOne K (.ref (He.ga K "BadLetter")) (.ref (He.ga K "TableError")) = some true := of_decide_eq_true (c.fact 83 (f := .exm "BadLetter" "TableError" true) rfl)
  obtain ⟨mo, v_FORMS⟩ := Bool.and_eq_true_iff.mp mo
  obtain ⟨mo, v_OPERATIONS⟩ := Bool.and_eq_true_iff.mp mo
  obtain ⟨mo, v_ANSWERS⟩ := Bool.and_eq_true_iff.mp mo
  have t_ANSWERS : TabOf K w mg "ANSWERS" _ := Pw.tab_of k_ANSWERS g_ANSWERS (Pw.saysT_dic y.t 0 rfl) v_ANSWERS (fun p hp => by
    simp only [k_ANSWERS, List.mem_cons, List.not_mem_nil, or_false] at hp
    rcases hp with rfl | rfl | rfl | rfl | rfl
    · exact g__is_value_told
    · exact g__is_word_alone
    · exact g__is_word_alone
    · exact g__is_value_told
    · exact g__is_page_told)
  have t_OPERATIONS : TabOf K w mg "OPERATIONS" _ := Pw.tab_of k_OPERATIONS g_OPERATIONS (Pw.saysT_dic y.t 1 rfl) v_OPERATIONS (fun p hp => by
    simp only [k_OPERATIONS, List.mem_cons, List.not_mem_nil, or_false] at hp
    rcases hp with rfl | rfl | rfl | rfl | rfl
    · exact g__is_key_alone
    · exact g__is_put
    · exact g__is_key_alone
    · exact g__is_swap
    · exact g__is_page)
  have t_FORMS : TabOf K w mg "FORMS" _ := Pw.tab_of k_FORMS g_FORMS (Pw.saysT_dic y.t 2 rfl) v_FORMS (fun p hp => by
    simp only [k_FORMS, List.mem_cons, List.not_mem_nil, or_false] at hp
    rcases hp with rfl | rfl | rfl | rfl | rfl | rfl | rfl | rfl | rfl | rfl | rfl
    · exact g__is_ask
    · exact g__is_where
    · exact g__is_told
    · exact g__is_elsewhere
    · exact g__names_server
    · exact g__names_server
    · exact g__is_split
    · exact g__is_join
    · exact g__is_have
    · exact g__is_content
    · exact g__is_receipt)
  have e := hfa.symm.trans g_law
  cases e
  have b := L2.FunD.bindsA (ps := ["script"]) F_law fun _ _ _ _ _ _ us hl => match us, hl with | [_], _ => rfl
  refine ⟨fd_law, fun s v => b s [v] rfl, fun base _ _ => ?_⟩
  have D_is_key : Def P w K mg base _ _ _ _ := ok_is_key F_is_key g_is_key z_len c_MOST_KEY z_isinstance z_str
  have D_below : Def P w K mg base _ _ _ _ := ok_below F_below g_below 
  have D_is_printable : Def P w K mg base _ _ _ _ := ok_is_printable F_is_printable g_is_printable z_isinstance z_str z_ord c_BARRED
  have D_kind_of : Def P w K mg base _ _ _ _ := ok_kind_of F_kind_of g_kind_of z_isinstance z_str z_len z_tuple
  have D_is_value : Def P w K mg base _ _ _ _ := ok_is_value F_is_value g_is_value z_len c_MOST_VALUE D_is_printable
  have D__is_pair : Def P w K mg base _ _ _ _ := ok__is_pair F__is_pair g__is_pair D_is_value D_is_key z_len z_isinstance z_tuple
  have D_are_pairs : Def P w K mg base _ _ _ _ := ok_are_pairs F_are_pairs g_are_pairs z_isinstance z_tuple D__is_pair
  have D__is_word_alone : Def P w K mg base _ _ _ _ := ok__is_word_alone F__is_word_alone g__is_word_alone z_len
  have D__is_value_told : Def P w K mg base _ _ _ _ := ok__is_value_told F__is_value_told g__is_value_told D_is_value z_len
  have D__is_page_told : Def P w K mg base _ _ _ _ := ok__is_page_told F__is_page_told g__is_page_told z_len c_MOST_PAGE D_are_pairs D_is_key D_below
  have D_is_bound : Def P w K mg base _ _ _ _ := ok_is_bound F_is_bound g_is_bound z_isinstance z_str D_is_key
  have D_is_range : Def P w K mg base _ _ _ _ := ok_is_range F_is_range g_is_range D_is_bound D_is_key
  have D_contains : Def P w K mg base _ _ _ _ := ok_contains F_contains g_contains D_below
  have D_is_integer : Def P w K mg base _ _ _ _ := ok_is_integer F_is_integer g_is_integer z_isinstance z_bool z_int
  have D__is_key_alone : Def P w K mg base _ _ _ _ := ok__is_key_alone F__is_key_alone g__is_key_alone D_is_key z_len
  have D__is_put : Def P w K mg base _ _ _ _ := ok__is_put F__is_put g__is_put D_is_value D_is_key z_len
  have D__is_swap : Def P w K mg base _ _ _ _ := ok__is_swap F__is_swap g__is_swap D_is_value D_is_key z_len
  have D__is_page : Def P w K mg base _ _ _ _ := ok__is_page F__is_page g__is_page D_is_integer c_MOST_PAGE D_is_bound z_len
  have D_is_answer : Def P w K mg base _ _ _ _ := ok_is_answer F_is_answer g_is_answer t_ANSWERS D_kind_of D__is_word_alone D__is_value_told D__is_page_told
  have D_is_operation : Def P w K mg base _ _ _ _ := ok_is_operation F_is_operation g_is_operation t_OPERATIONS D_kind_of D__is_key_alone D__is_put D__is_swap D__is_page
  have D_is_server : Def P w K mg base _ _ _ _ := ok_is_server F_is_server g_is_server D_is_integer
  have D_is_client : Def P w K mg base _ _ _ _ := ok_is_client F_is_client g_is_client D_is_integer c_MOST_CLIENTS
  have D_is_pairs : Def P w K mg base _ _ _ _ := ok_is_pairs F_is_pairs g_is_pairs D_are_pairs D_contains
  have D_is_number : Def P w K mg base _ _ _ _ := ok_is_number F_is_number g_is_number D_is_integer c_MOST_NUMBER
  have D__is_row : Def P w K mg base _ _ _ _ := ok__is_row F__is_row g__is_row z_len z_isinstance z_tuple D_is_answer D_is_number D_is_client
  have D_is_rows : Def P w K mg base _ _ _ _ := ok_is_rows F_is_rows g_is_rows z_isinstance z_tuple D__is_row
  have D__is_ask : Def P w K mg base _ _ _ _ := ok__is_ask F__is_ask g__is_ask D_is_operation D_is_number z_len
  have D__is_where : Def P w K mg base _ _ _ _ := ok__is_where F__is_where g__is_where D_is_bound z_len
  have D__is_told : Def P w K mg base _ _ _ _ := ok__is_told F__is_told g__is_told D_is_answer D_is_number z_len
  have D__is_elsewhere : Def P w K mg base _ _ _ _ := ok__is_elsewhere F__is_elsewhere g__is_elsewhere D_is_number z_len
  have D_names_shard : Def P w K mg base _ _ _ _ := ok_names_shard F_names_shard g_names_shard D_is_number D_is_range z_len
  have D__names_server : Def P w K mg base _ _ _ _ := ok__names_server F__names_server g__names_server D_is_server D_names_shard
  have D__is_split : Def P w K mg base _ _ _ _ := ok__is_split F__is_split g__is_split D_names_shard D_below D_is_key
  have D__is_join : Def P w K mg base _ _ _ _ := ok__is_join F__is_join g__is_join z_len D_is_range D_is_number
  have D__is_have : Def P w K mg base _ _ _ _ := ok__is_have F__is_have g__is_have D_is_bound D_is_integer c_MOST_NUMBER D_names_shard
  have D__is_content : Def P w K mg base _ _ _ _ := ok__is_content F__is_content g__is_content D_names_shard D_is_rows D_is_pairs
  have D__is_receipt : Def P w K mg base _ _ _ _ := ok__is_receipt F__is_receipt g__is_receipt D_names_shard
  have D__law_cell : Def P w K mg base _ _ _ _ := ok__law_cell F__law_cell g__law_cell z_len z_int
  have D__law_rich : Def P w K mg base _ _ _ _ := ok__law_rich F__law_rich g__law_rich z_int
  have D__law_word : Def P w K mg base _ _ _ _ := ok__law_word F__law_word g__law_word z_int z_range z_len
  have D__law_is_int : Def P w K mg base _ _ _ _ := ok__law_is_int F__law_is_int g__law_is_int z_isinstance z_bool z_int
  have D_is_letter : Def P w K mg base _ _ _ _ := ok_is_letter F_is_letter g_is_letter t_FORMS D_kind_of D__is_ask D__is_where D__is_told D__is_elsewhere D__names_server D__is_split D__is_join D__is_have D__is_content D__is_receipt
  have D__is_party : Def P w K mg base _ _ _ _ := ok__is_party F__is_party g__is_party D_is_client D_is_server D_is_integer c_DIRECTORY
  have D__law_place : Def P w K mg base _ _ _ _ := ok__law_place F__law_place g__law_place 
  have D__law_at : Def P w K mg base _ _ _ _ := ok__law_at F__law_at g__law_at D__law_is_int
  have D__law_way : Def P w K mg base _ _ _ _ := ok__law_way F__law_way g__law_way 
  have D_check_letter : DefX P w K mg base _ _ _ _ := ok_check_letter F_check_letter g_check_letter x_BadLetter r_ROUTES D_is_letter D__is_party
  have D__law_outcome : Def P w K mg base _ _ _ _ := ok__law_outcome F__law_outcome g__law_outcome x_BadLetter g_TableError m_BadLetter i_BadLetter z_isinstance D_check_letter
  have D__law_key : Def P w K mg base _ _ _ _ := ok__law_key F__law_key g__law_key z_int D__law_word
  have D__law_value : Def P w K mg base _ _ _ _ := ok__law_value F__law_value g__law_value z_int D__law_word
  have D__law_answer : Def P w K mg base _ _ _ _ := ok__law_answer F__law_answer g__law_answer D__law_value z_range D__law_key z_tuple z_sorted
  have D__law_pairs : Def P w K mg base _ _ _ _ := ok__law_pairs F__law_pairs g__law_pairs z_range D__law_key D__law_value z_tuple z_sorted
  have D__law_rows : Def P w K mg base _ _ _ _ := ok__law_rows F__law_rows g__law_rows z_range D__law_answer z_tuple z_sorted
  have D__law_bound : Def P w K mg base _ _ _ _ := ok__law_bound F__law_bound g__law_bound z_int D__law_key
  have D__law_operation : Def P w K mg base _ _ _ _ := ok__law_operation F__law_operation g__law_operation D__law_bound D__law_key D__law_value
  have D__law_range : Def P w K mg base _ _ _ _ := ok__law_range F__law_range g__law_range D__law_bound z_max z_min
  have D__law_letter : Def P w K mg base _ _ _ _ := ok__law_letter F__law_letter g__law_letter D__law_bound D__law_operation D__law_answer D__law_range z_len D__law_rows D__law_pairs
  exact ok_law F_law z_range z_max z_min z_len D__law_rich D__law_cell D__law_letter D__law_way D__law_place D__law_at D_is_letter D__law_outcome D_is_client D_is_server
theorem law_end {K : Frag} {H : Hp} {a : Addr} {ns : List Int} (hn : Pw.noLst K = true) (hl : ns.length ≤ 63) (h : SqL K H a (ns.map V.int)) : spM K W_law [.ref a] H (fun v _ => v = .bl true) (fun _ _ _ => False) :=
  Pw.law_endM hn h fun μ l P p => .mk l hl p
end K11
open PySem PySem.W PySem.Calls PyProof.Rows
theorem PySem.Challenge.cw_boundstone_k11_ways_of_letters_holds : PySem.Challenge.rw_boundstone_k11_ways_of_letters.Holds := by
  w_on; o_law
  refine HandSHeadRun.head_any (r := OpenLaw.row PySem.Challenge.rw_boundstone_k11_ways_of_letters) (q := view (OpenLaw.row PySem.Challenge.rw_boundstone_k11_ways_of_letters).prog [76]) (H := K11.hk) (ob := K11.ob) (M := 6000) (loose := K11.loose) (d := HandSHeadRun.topDef (OpenLaw.row PySem.Challenge.rw_boundstone_k11_ways_of_letters).prog 76) (kwd := []) K11.ob_eq
    (by kernel_rfl) (fun s => by kernel_rfl) K11.run (by kernel_rfl) (by kernel_rfl) (by kernel_rfl) (by rfl) (by first | assumption | decide +kernel) (by decide +kernel) ⟨rfl, rfl, rfl, rfl, rfl, by decide +kernel⟩ ?hw ?hc
  case hw => w_witness2
  case hc =>
    refine L2.walk_ofE (l := PySem.Challenge.rw_boundstone_k11_ways_of_letters) (n := 63) (k := 13) (x := "script") (CX := L2.CX0) rfl (by decide) (by kernel_rfl) ⟨rfl, by decide, by decide⟩ ?F (fun _ _ _ _ z => z)
    intro w mg fa h Y G hmg0
    obtain ⟨K, KX, c⟩ := Y
    have hmg : mg ("law" : PySem.Str) = some (.ref fa) := by
      have e : (HandSHeadRun.topDef (OpenLaw.row PySem.Challenge.rw_boundstone_k11_ways_of_letters).prog 76).name = ("law" : PySem.Str) := by kernel_rfl
      rw [← e]
      exact hmg0
    obtain ⟨fd, hb, hF⟩ := K11.facts (P := (PySem.Challenge.rw_boundstone_k11_ways_of_letters).prog) (w := w) KX G hmg c
    have hn : Pw.noLst K = true := by
      have mo : K11.ex K = true := c.more
      have mo := (Bool.and_eq_true_iff.mp mo).1
      have mo := (Bool.and_eq_true_iff.mp mo).1
      have mo := (Bool.and_eq_true_iff.mp mo).1
      have mo := (Bool.and_eq_true_iff.mp mo).1
      have mo := (Bool.and_eq_true_iff.mp mo).1
      exact mo
    exact ⟨K, fd, Pw.spM K K11.W_law, KX, hb, fun H a ns hl _ hS => K11.law_end hn hl hS, hF⟩

