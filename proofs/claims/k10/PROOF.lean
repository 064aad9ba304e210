import PyProof.Rows.All
import Wide.All
import OpenK.AllK
import Wide.FinOn
import HandS.ForMost
import HandS.IsInst
import HandS.Zip
import HandS.Walk
import HandS.Evl
import HandS.Style
import HandS.ForExc
import HandS.Small
import HandS.FStr
import HandS.ExcIs
import HandS.Conv
import HandS.Deep
import PySem.Challenge.RW_bedtwos_k10_whole_inn
set_option Elab.async false
set_option maxRecDepth 100000
set_option maxHeartbeats 4000000
namespace B2
open PySem L2

/-! ### Data: tables of wishes, rows, what stands at an address -/

/-- a row of the guest g, one of n -/
structure GoodRow (n : Nat) (g : Int) (r : List Int) : Prop where
  nd : r.Nodup
  rg : ∀ x ∈ r, 0 ≤ x ∧ x < (n : Int) ∧ x ≠ g
  sm : r.length ≤ 6

structure Good (ws : List (List Int)) : Prop where
  lo : 1 ≤ ws.length
  hi : ws.length ≤ 6
  row : ∀ (g : Nat) (r : List Int), ws[g]? = some r → GoodRow ws.length (g : Int) r

/-- the table ws stands at a -/
def Tab (K : PySem.W.Frag) (H : Hp) (a : Addr) (ws : List (List Int)) : Prop :=
  ∃ as : List Addr, SqL K H a (as.map V.ref) ∧ as.length = ws.length ∧
    ∀ (i : Nat) (r : List Int), ws[i]? = some r → ∃ b, as[i]? = some b ∧ SqL K H b (r.map V.int)

theorem Tab.same {K : PySem.W.Frag} {H H' : Hp} {a : Addr} {ws : List (List Int)} (e : Same H H') (t : Tab K H a ws) : Tab K H' a ws := by
  obtain ⟨as, h1, h2, h3⟩ := t
  refine ⟨as, e.seq h1, h2, fun i r hr => ?_⟩
  obtain ⟨b, hb, hs⟩ := h3 i r hr
  exact ⟨b, hb, e.seq hs⟩

theorem same_new {H : Hp} {p : Addr} (h : H p = none) (o : HO) : Same H (upd H p o) := fun b u q => by
  rw [upd_ne (ne_of_none q h)]; exact q

/-- what was there at the start stays, though the new object at p is changed -/
theorem same_put {H H1 : Hp} {p : Addr} (e : Same H H1) (h : H p = none) (o : HO) : Same H (upd H1 p o) := fun b u q => by
  rw [upd_ne (ne_of_none q h)]; exact e b u q

def rowOf (ws : List (List Int)) (i : Int) : List Int := ws.getD i.toNat []

theorem rowOf_get {ws : List (List Int)} {i : Int} (h0 : 0 ≤ i) (h1 : i < (ws.length : Int)) :
    ws[i.toNat]? = some (rowOf ws i) ∧ i = ((i.toNat : Nat) : Int) := by
  have h : i.toNat < ws.length := by omega
  refine ⟨?_, by omega⟩
  unfold rowOf
  rw [List.getD_eq_getElem?_getD, List.getElem?_eq_getElem h]
  rfl

theorem rowOf_good {ws : List (List Int)} (g : Good ws) {i : Int} (h0 : 0 ≤ i) (h1 : i < (ws.length : Int)) : GoodRow ws.length i (rowOf ws i) := by
  have h := rowOf_get h0 h1
  have q := g.row _ _ h.1
  rw [← h.2] at q
  exact q

/-- wishes[i], as the list rules ask it -/
theorem Tab.at {K : PySem.W.Frag} {H : Hp} {a : Addr} {ws : List (List Int)} (t : Tab K H a ws) :
    ∃ as : List Addr, SqL K H a (as.map V.ref) ∧ as.length = ws.length ∧
    ∀ i : Int, 0 ≤ i → i < (ws.length : Int) → ∃ b, atI (as.map V.ref) i = some (.ref b) ∧ SqL K H b ((rowOf ws i).map V.int) := by
  obtain ⟨as, h1, h2, h3⟩ := t
  refine ⟨as, h1, h2, fun i i0 i1 => ?_⟩
  obtain ⟨q1, q2⟩ := rowOf_get i0 i1
  obtain ⟨b, hb, hs⟩ := h3 _ _ q1
  refine ⟨b, ?_, hs⟩
  have : atI (as.map V.ref) ((i.toNat : Nat) : Int) = some (.ref b) := atI_nat (by rw [List.getElem?_map, hb]; rfl)
  rw [← q2] at this
  exact this

theorem inV_int (j : Int) : ∀ r : List Int, inV (.int j) (r.map V.int) = decide (j ∈ r)
  | [] => by simp [inV]
  | x :: r => by
    have ih := inV_int j r
    unfold inV at ih ⊢
    rw [List.map_cons, List.any_cons, ih]
    show ((x == j) || decide (j ∈ r)) = decide (j ∈ x :: r)
    by_cases h : x = j
    · simp [h]
    · have h' : ¬ j = x := fun q => h q.symm
      simp [h, h']

theorem flat_ints (r : List Int) : (r.map V.int).all flatV = true := by
  rw [List.all_eq_true]
  intro x hx
  rw [List.mem_map] at hx
  obtain ⟨i, _, rfl⟩ := hx
  rfl

/-- two guests suit each other -/
def suitsB (ws : List (List Int)) (i j : Int) : Bool := decide (j ∈ rowOf ws i) && decide (i ∈ rowOf ws j)

theorem suitsB_comm (ws : List (List Int)) (i j : Int) : suitsB ws i j = suitsB ws j i := Bool.and_comm _ _

def ov : Option Int → V
  | none => .non
  | some i => .int i

theorem ov_inj {a b : Option Int} (h : ov a = ov b) : a = b := by
  cases a <;> cases b <;> first | rfl | (cases h; rfl) | (cases h)

theorem ov_dec (a b : Option Int) : decide (ov a = ov b) = decide (a = b) := by
  by_cases h : a = b
  · rw [h]; simp
  · have h' : ¬ ov a = ov b := fun q => h (ov_inj q)
    rw [decide_eq_false h, decide_eq_false h']

theorem ov_non (a : Option Int) : decide (ov a = .non) = a.isNone := by
  cases a <;> rfl

/-- a guest or none, of n -/
def OkO (n : Nat) : Option Int → Prop
  | none => True
  | some i => 0 ≤ i ∧ i < (n : Int)

/-- whether g would rather have one than other -/
def aheadB (ws : List (List Int)) (g : Int) : Option Int → Option Int → Bool
  | none, _ => false
  | some a, none => suitsB ws g a
  | some a, some b => if a = b then false else
      if suitsB ws g a = true then (if suitsB ws g b = true then decide ((rowOf ws g).idxOf a < (rowOf ws g).idxOf b) else true) else false

/-- as the law goes through the list -/
def scanB (s : Int → Bool) (a : Int) (o : Option Int) : List Int → Bool
  | [] => false
  | t :: r => if (decide (some t = o) && s t) = true then false else if t = a then true else scanB s a o r

theorem scanB_none (s : Int → Bool) (a : Int) : ∀ r : List Int, a ∈ r → scanB s a none r = true
  | [], h => by cases h
  | t :: r, h => by
    unfold scanB
    have e : (decide (some t = (none : Option Int)) && s t) = false := by
      rw [decide_eq_false (by intro q; cases q), Bool.false_and]
    rw [e]
    by_cases q : t = a
    · rw [if_neg (by decide), if_pos q]
    · rw [if_neg (by decide), if_neg q]
      rcases List.mem_cons.mp h with h | h
      · exact absurd h.symm q
      · exact scanB_none s a r h

theorem scanB_no (s : Int → Bool) (a b : Int) (hs : s b = false) : ∀ r : List Int, a ∈ r → scanB s a (some b) r = true
  | [], h => by cases h
  | t :: r, h => by
    unfold scanB
    have e : (decide (some t = some b) && s t) = false := by
      by_cases q : t = b
      · rw [q, hs, Bool.and_false]
      · rw [decide_eq_false (by intro z; exact q (Option.some.inj z)), Bool.false_and]
    rw [e]
    by_cases q : t = a
    · rw [if_neg (by decide), if_pos q]
    · rw [if_neg (by decide), if_neg q]
      rcases List.mem_cons.mp h with h | h
      · exact absurd h.symm q
      · exact scanB_no s a b hs r h

theorem scanB_yes (s : Int → Bool) (a b : Int) (hs : s b = true) (hab : a ≠ b) : ∀ r : List Int, a ∈ r → scanB s a (some b) r = decide (r.idxOf a < r.idxOf b)
  | [], h => by cases h
  | t :: r, h => by
    unfold scanB
    by_cases q : t = b
    · have e : (decide (some t = some b) && s t) = true := by rw [q, hs]; simp
      rw [if_pos e, q, List.idxOf_cons, List.idxOf_cons]
      have e1 : (b == a) = false := by
        apply beq_eq_false_iff_ne.mpr
        exact fun z => hab z.symm
      simp [e1]
    · have e : (decide (some t = some b) && s t) = false := by
        rw [decide_eq_false (by intro z; exact q (Option.some.inj z)), Bool.false_and]
      rw [e, if_neg (by decide)]
      have e2 : (t == b) = false := beq_eq_false_iff_ne.mpr q
      by_cases q1 : t = a
      · rw [if_pos q1, List.idxOf_cons, List.idxOf_cons]
        have e1 : (t == a) = true := by rw [q1]; exact beq_self_eq_true a
        rw [e1, e2]
        simp
      · rw [if_neg q1]
        have e1 : (t == a) = false := beq_eq_false_iff_ne.mpr q1
        have ha : a ∈ r := by
          rcases List.mem_cons.mp h with h | h
          · exact absurd h.symm q1
          · exact h
        rw [scanB_yes s a b hs hab r ha, List.idxOf_cons, List.idxOf_cons, e1, e2]
        simp

def ratherB (ws : List (List Int)) (g : Int) : Option Int → Option Int → Bool
  | none, _ => false
  | some a, o => if suitsB ws g a = true then scanB (suitsB ws g) a o (rowOf ws g) else false

theorem suitsB_mem {ws : List (List Int)} {g a : Int} (h : suitsB ws g a = true) : a ∈ rowOf ws g ∧ g ∈ rowOf ws a := by
  unfold suitsB at h
  rw [Bool.and_eq_true] at h
  exact ⟨of_decide_eq_true h.1, of_decide_eq_true h.2⟩

theorem scanB_same (s : Int → Bool) (a : Int) (hs : s a = true) : ∀ r : List Int, scanB s a (some a) r = false
  | [] => rfl
  | t :: r => by
    unfold scanB
    by_cases q : t = a
    · rw [if_pos (by rw [q, hs]; simp)]
    · rw [if_neg (by rw [decide_eq_false (by intro z; exact q (Option.some.inj z)), Bool.false_and]; decide), if_neg q]
      exact scanB_same s a hs r

theorem rather_is (ws : List (List Int)) (g : Int) : ∀ a o : Option Int, ratherB ws g a o = aheadB ws g a o
  | none, _ => rfl
  | some a, none => by
    show (if suitsB ws g a = true then scanB (suitsB ws g) a none (rowOf ws g) else false) = suitsB ws g a
    by_cases h : suitsB ws g a = true
    · rw [if_pos h, scanB_none _ _ _ (suitsB_mem h).1, h]
    · rw [if_neg h]
      exact (Bool.eq_false_iff.mpr h).symm
  | some a, some b => by
    show (if suitsB ws g a = true then scanB (suitsB ws g) a (some b) (rowOf ws g) else false) = (if a = b then false else
      if suitsB ws g a = true then (if suitsB ws g b = true then decide ((rowOf ws g).idxOf a < (rowOf ws g).idxOf b) else true) else false)
    by_cases h : suitsB ws g a = true
    · rw [if_pos h, if_pos h]
      by_cases q : a = b
      · rw [if_pos q, ← q, scanB_same _ _ h]
      · rw [if_neg q]
        by_cases h2 : suitsB ws g b = true
        · rw [if_pos h2, scanB_yes _ _ _ h2 q _ (suitsB_mem h).1]
        · rw [if_neg h2, scanB_no _ _ _ (Bool.eq_false_iff.mpr h2) _ (suitsB_mem h).1]
    · rw [if_neg h, if_neg h]
      by_cases q : a = b
      · rw [if_pos q]
      · rw [if_neg q]

/-- the first place of x in a list of ints, as list.index asks it -/
theorem index_at (x : Int) : ∀ r : List Int, x ∈ r →
    (r.map V.int)[r.idxOf x]? = some (.int x) ∧ ∀ (m : Nat) (z : V), m < r.idxOf x → (r.map V.int)[m]? = some z → eqV z (.int x) = false
  | [], h => by cases h
  | t :: r, h => by
    by_cases q : t = x
    · rw [List.idxOf_cons]
      have e1 : (t == x) = true := by rw [q]; exact beq_self_eq_true x
      rw [e1]
      refine ⟨by rw [q]; rfl, fun m z hm => ?_⟩
      simp at hm
    · have e1 : (t == x) = false := beq_eq_false_iff_ne.mpr q
      have ha : x ∈ r := by
        rcases List.mem_cons.mp h with h | h
        · exact absurd h.symm q
        · exact h
      obtain ⟨i1, i2⟩ := index_at x r ha
      rw [List.idxOf_cons, e1]
      refine ⟨?_, fun m z hm hz => ?_⟩
      · show (V.int t :: r.map V.int)[r.idxOf x + 1]? = _
        rw [List.getElem?_cons_succ]
        exact i1
      · cases m with
        | zero =>
          rw [List.map_cons, List.getElem?_cons_zero] at hz
          cases hz
          exact e1
        | succ m =>
          rw [List.map_cons, List.getElem?_cons_succ] at hz
          have hm' : m + 1 < r.idxOf x + 1 := hm
          exact i2 m z (by omega) hz
end B2

namespace B2
open PySem L2

/-! ### Data of nested lists -/
theorem canLayAll_of : ∀ ds : List PyData, (∀ d ∈ ds, d.canLay0 = true) → PyData.canLayAll0 ds = true
  | [], _ => by simp [PyData.canLayAll0]
  | d :: ds, h => by
    have h1 := h d (List.mem_cons_self ..)
    have h2 := canLayAll_of ds (fun e he => h e (List.mem_cons_of_mem _ he))
    simp [PyData.canLayAll0, h1, h2]
theorem depthAll_of (k : Nat) : ∀ ds : List PyData, (∀ d ∈ ds, d.depth ≤ k) → PyData.depthAll ds ≤ k
  | [], _ => by simp [PyData.depthAll]
  | d :: ds, h => by
    have h1 := h d (List.mem_cons_self ..)
    have h2 := depthAll_of k ds (fun e he => h e (List.mem_cons_of_mem _ he))
    simp only [PyData.depthAll]
    omega

def dV : V → PyData
  | .bl b => .bool b
  | .int i => .int i
  | _ => .none
/-- None, truths and numbers -/
def plainV : V → Bool
  | .non => true
  | .bl _ => true
  | .int _ => true
  | _ => false
theorem dV_dp {K : PySem.W.Frag} {H : Hp} : ∀ v : V, plainV v = true → Dp K H v (dV v)
  | .non, _ => .non
  | .bl b, _ => .bl b
  | .int i, _ => .int i
  | .str _, h | .byt _, h | .flt _, h | .ref _, h | .ty _, h => by cases h
theorem dV_lay : ∀ v : V, (dV v).canLay0 = true ∧ (dV v).depth ≤ 1
  | .non | .bl _ | .int _ | .str _ | .byt _ | .flt _ | .ref _ | .ty _ => by simp [dV, PyData.canLay0, PyData.depth]
theorem dpAll_plain {K : PySem.W.Frag} {H : Hp} : ∀ vs : List V, (∀ v ∈ vs, plainV v = true) → DpAll K H vs (vs.map dV)
  | [], _ => .nil
  | v :: vs, h => .cons (dV_dp v (h v (List.mem_cons_self ..))) (dpAll_plain vs fun u hu => h u (List.mem_cons_of_mem _ hu))
/-- what a list of plain things, a list of such lists is as data -/
def dL (vs : List V) : PyData := .list (vs.map dV)
def dLL (vss : List (List V)) : PyData := .list (vss.map dL)
theorem dL_lay (vs : List V) : (dL vs).canLay0 = true ∧ (dL vs).depth ≤ 2 := by
  have h1 := canLayAll_of (vs.map dV) (fun d hd => by
    obtain ⟨v, _, rfl⟩ := List.mem_map.mp hd
    exact (dV_lay v).1)
  have h2 := depthAll_of 1 (vs.map dV) (fun d hd => by
    obtain ⟨v, _, rfl⟩ := List.mem_map.mp hd
    exact (dV_lay v).2)
  unfold dL
  simp only [PyData.canLay0, PyData.depth]
  exact ⟨h1, by omega⟩
theorem dLL_lay (vss : List (List V)) : (dLL vss).canLay0 = true ∧ (dLL vss).depth ≤ 3 := by
  have h1 := canLayAll_of (vss.map dL) (fun d hd => by
    obtain ⟨v, _, rfl⟩ := List.mem_map.mp hd
    exact (dL_lay v).1)
  have h2 := depthAll_of 2 (vss.map dL) (fun d hd => by
    obtain ⟨v, _, rfl⟩ := List.mem_map.mp hd
    exact (dL_lay v).2)
  unfold dLL
  simp only [PyData.canLay0, PyData.depth]
  exact ⟨h1, by omega⟩
theorem shaped_of {d : PyData} (h : d.canLay0 = true) (k : d.depth ≤ 64) : SeqAt.shaped d = true := by
  unfold SeqAt.shaped
  rw [h, decide_eq_true k]
  rfl
theorem dL_shaped (vs : List V) : SeqAt.shaped (dL vs) = true := shaped_of (dL_lay vs).1 (Nat.le_trans (dL_lay vs).2 (by decide))
theorem dLL_shaped (vss : List (List V)) : SeqAt.shaped (dLL vss) = true := shaped_of (dLL_lay vss).1 (Nat.le_trans (dLL_lay vss).2 (by decide))
theorem dL_refl (vs : List V) : (dL vs).eqv (dL vs) = true := SeqAt.eqv_refl _ (dL_lay vs).1
theorem dLL_refl (vss : List (List V)) : (dLL vss).eqv (dLL vss) = true := SeqAt.eqv_refl _ (dLL_lay vss).1

/-! ### Lists of lists in the heap -/
/-- at a a list of lists, whose items are the values vss -/
def TabV (K : PySem.W.Frag) (H : Hp) (a : Addr) (vss : List (List V)) : Prop :=
  ∃ as : List Addr, SqL K H a (as.map V.ref) ∧ as.length = vss.length ∧
    ∀ (i : Nat) (r : List V), vss[i]? = some r → ∃ b, as[i]? = some b ∧ SqL K H b r

theorem TabV.same {K : PySem.W.Frag} {H H' : Hp} {a : Addr} {vss : List (List V)} (e : Same H H') (t : TabV K H a vss) : TabV K H' a vss := by
  obtain ⟨as, h1, h2, h3⟩ := t
  refine ⟨as, e.seq h1, h2, fun i r hr => ?_⟩
  obtain ⟨b, hb, hs⟩ := h3 i r hr
  exact ⟨b, hb, e.seq hs⟩

theorem Tab.v {K : PySem.W.Frag} {H : Hp} {a : Addr} {ws : List (List Int)} (t : Tab K H a ws) : TabV K H a (ws.map fun r => r.map V.int) := by
  obtain ⟨as, h1, h2, h3⟩ := t
  refine ⟨as, h1, by rw [List.length_map]; exact h2, fun i r hr => ?_⟩
  rw [List.getElem?_map] at hr
  cases e : ws[i]? with
  | none => rw [e] at hr; cases hr
  | some q =>
    rw [e] at hr
    cases hr
    exact h3 i q e

theorem TabV.t {K : PySem.W.Frag} {H : Hp} {a : Addr} {ws : List (List Int)} (t : TabV K H a (ws.map fun r => r.map V.int)) : Tab K H a ws := by
  obtain ⟨as, h1, h2, h3⟩ := t
  refine ⟨as, h1, by rw [h2, List.length_map], fun i r hr => ?_⟩
  exact h3 i _ (by rw [List.getElem?_map, hr]; rfl)

theorem dpAll_refs {K : PySem.W.Frag} {H : Hp} : ∀ (as : List Addr) (vss : List (List V)), as.length = vss.length →
    (∀ (i : Nat) (r : List V), vss[i]? = some r → ∃ b, as[i]? = some b ∧ SqL K H b r) → (∀ r ∈ vss, ∀ v ∈ r, plainV v = true) →
    DpAll K H (as.map V.ref) (vss.map dL)
  | [], [], _, _, _ => .nil
  | [], _ :: _, h, _, _ => by cases h
  | _ :: _, [], h, _, _ => by cases h
  | a :: as, r :: vss, h, g, p => by
    obtain ⟨b, hb, hs⟩ := g 0 r rfl
    cases hb
    refine .cons (.lst hs (dpAll_plain r (p r (List.mem_cons_self ..)))) (dpAll_refs as vss (Nat.succ.inj h) (fun i q hq => ?_) fun q hq => p q (List.mem_cons_of_mem _ hq))
    exact g (i + 1) q hq

theorem TabV.dp {K : PySem.W.Frag} {H : Hp} {a : Addr} {vss : List (List V)} (t : TabV K H a vss) (p : ∀ r ∈ vss, ∀ v ∈ r, plainV v = true) : Dp K H (.ref a) (dLL vss) := by
  obtain ⟨as, h1, h2, h3⟩ := t
  exact .lst h1 (dpAll_refs as vss h2 h3 p)

theorem plain_ints (ws : List (List Int)) : ∀ r ∈ (ws.map fun r => r.map V.int), ∀ v ∈ r, plainV v = true := by
  intro r hr v hv
  obtain ⟨q, _, rfl⟩ := List.mem_map.mp hr
  obtain ⟨i, _, rfl⟩ := List.mem_map.mp hv
  rfl

theorem Tab.dp {K : PySem.W.Frag} {H : Hp} {a : Addr} {ws : List (List Int)} (t : Tab K H a ws) : Dp K H (.ref a) (dLL (ws.map fun r => r.map V.int)) := t.v.dp (plain_ints ws)

/-- a list of new objects (f r for the items r) that is being built at D: all that stood in H stands -/
def BuiltF {α : Type} (f : α → HO) (H : Hp) (D : Addr) (vss : List α) (H' : Hp) : Prop :=
  Same H H' ∧ ∃ as : List Addr, H' D = some (.lst (as.map V.ref)) ∧ as.length = vss.length ∧
    ∀ (i : Nat) (r : α), vss[i]? = some r → ∃ b, as[i]? = some b ∧ H' b = some (f r) ∧ b ≠ D ∧ H b = none

abbrev Built (H : Hp) (D : Addr) (vss : List (List V)) (H' : Hp) : Prop := BuiltF HO.lst H D vss H'

theorem built_start {α : Type} {f : α → HO} {H : Hp} {D : Addr} (h : H D = none) : BuiltF f H D [] (upd H D (.lst [])) :=
  ⟨same_new h _, [], upd_same, rfl, fun i r hr => by cases hr⟩

theorem built_step {α : Type} {f : α → HO} {H H1 H2 : Hp} {D p : Addr} {vss : List α} {r : α} (hD : H D = none) (b : BuiltF f H D vss H1) (e : Same H1 H2) (hp : H1 p = none) (hp2 : H2 p = some (f r)) :
    ∃ acc, H2 D = some (.lst acc) ∧ acc.length = vss.length ∧ BuiltF f H D (vss ++ [r]) (upd H2 D (.lst (acc ++ [.ref p]))) := by
  obtain ⟨s, as, h1, h2, h3⟩ := b
  have npD : p ≠ D := (ne_of_none h1 hp).symm
  refine ⟨_, e _ _ h1, by rw [List.length_map]; exact h2, same_put (s.trans e) hD _, as ++ [p], ?_, ?_, fun i q hq => ?_⟩
  · rw [upd_same, List.map_append]
    rfl
  · rw [List.length_append, List.length_append, h2]
    rfl
  · rw [List.getElem?_append] at hq
    rw [List.getElem?_append]
    by_cases c : i < vss.length
    · rw [if_pos c] at hq
      rw [if_pos (by rw [h2]; exact c)]
      obtain ⟨b, b1, b2, b3, b4⟩ := h3 i q hq
      exact ⟨b, b1, by rw [upd_ne b3]; exact e _ _ b2, b3, b4⟩
    · rw [if_neg c] at hq
      rw [if_neg (by rw [h2]; exact c)]
      have i0 : i - vss.length = 0 := by
        have := (List.getElem?_eq_some_iff.mp hq).1
        simp at this
        omega
      rw [i0] at hq
      cases hq
      rw [h2, i0]
      exact ⟨p, rfl, by rw [upd_ne npD]; exact hp2, npD, s.free hp⟩

theorem BuiltF.on {α : Type} {f : α → HO} {H H1 H2 : Hp} {D : Addr} {vss : List α} (B : BuiltF f H D vss H1) (e : Same H1 H2) : BuiltF f H D vss H2 := by
  obtain ⟨s, as, h1, h2, h3⟩ := B
  refine ⟨s.trans e, as, e _ _ h1, h2, fun i r hr => ?_⟩
  obtain ⟨b, b1, b2, b3, b4⟩ := h3 i r hr
  exact ⟨b, b1, e _ _ b2, b3, b4⟩

theorem Built.tab {K : PySem.W.Frag} {H H' : Hp} {D : Addr} {vss : List (List V)} (b : Built H D vss H') : TabV K H' D vss := by
  obtain ⟨s, as, h1, h2, h3⟩ := b
  refine ⟨as, SqL.of h1, h2, fun i r hr => ?_⟩
  obtain ⟨b, b1, b2, _⟩ := h3 i r hr
  exact ⟨b, b1, SqL.of b2⟩

theorem map_int_get {r : List Int} {i : Nat} {x : V} (h : (r.map V.int)[i]? = some x) : ∃ y, r[i]? = some y ∧ x = .int y := by
  rw [List.getElem?_map] at h
  cases e : r[i]? with
  | none => rw [e] at h; cases h
  | some y =>
    rw [e] at h
    exact ⟨y, rfl, (Option.some.inj h).symm⟩

theorem map_ref_get {r : List Addr} {i : Nat} {x : V} (h : (r.map V.ref)[i]? = some x) : ∃ y, r[i]? = some y ∧ x = .ref y := by
  rw [List.getElem?_map] at h
  cases e : r[i]? with
  | none => rw [e] at h; cases h
  | some y =>
    rw [e] at h
    exact ⟨y, rfl, (Option.some.inj h).symm⟩

theorem take_one {α : Type} {xs : List α} {i : Nat} {x : α} (h : xs[i]? = some x) : xs.take (i + 1) = xs.take i ++ [x] := by
  rw [List.take_add_one, h]
  rfl

theorem seqIx {i : Int} {n : Nat} (h0 : 0 ≤ i) (h1 : i < (n : Int)) : seqIndex? i n = some i.toNat := by
  have e1 : ¬ (i < 0) := by omega
  unfold seqIndex?
  simp only [if_neg e1]
  rw [decide_eq_true h0, decide_eq_true h1]
  rfl

theorem map_erase {α β : Type} (f : α → β) : ∀ (l : List α) (k : Nat), (l.map f).eraseIdx k = (l.eraseIdx k).map f
  | [], _ => rfl
  | _ :: _, 0 => rfl
  | a :: l, k + 1 => by
    show f a :: (l.map f).eraseIdx k = f a :: (l.eraseIdx k).map f
    rw [map_erase f l k]

theorem le_line {n : Nat} (h : n ≤ 1000) : n ≤ sizeLine := Nat.le_of_lt (small1000 h)

theorem cut_take (r : List Int) (k : Int) : ∃ m, cutV (r.map V.int) none (some k) = (r.take m).map V.int := by
  refine ⟨HT.sIx (r.map V.int).length (r.map V.int).length (some k) - 0, ?_⟩
  unfold cutV
  have e0 : HT.sIx (r.map V.int).length 0 none = 0 := rfl
  rw [e0, List.drop_zero, List.map_take]
/-! ### Rules within a comprehension's block, whose K is the def's -/
def rLof (K : PySem.W.Frag) : List V → Hp → VK → Prop := fun xs H Q => ∃ p ys, xs = [.ref p] ∧ (SqL K H p ys ∨ SqT K H p ys) ∧ ∀ l, H l = none → Q (.ref l) (upd H l (.lst ys))
theorem call_lof {X : Cx} {K : PySem.W.Frag} (h : X.K = K) : CallR X (.type "list") (rLof K) := by
  subst h
  exact call_list_of

theorem ix_lst {X : Cx} {K : PySem.W.Frag} (h : X.K = K) : IxR X (rIxL K) := by
  subst h
  exact ix_list
theorem in_lst {X : Cx} {K : PySem.W.Frag} (h : X.K = K) : OpR X (compareOp .In) (rIn K false) := by
  subst h
  exact op_in_seq
def rLenOf (K : PySem.W.Frag) : List V → Hp → VK → Prop := fun xs H Q => ∃ p ys, xs = [.ref p] ∧ (SqL K H p ys ∨ SqT K H p ys) ∧ Q (.int ys.length) H
theorem len_lst {X : Cx} {K : PySem.W.Frag} (h : X.K = K) : CallR X (.builtin "len") (rLenOf K) := by
  subst h
  exact call_len_seq

theorem suitsB_self {ws : List (List Int)} (hG : Good ws) {g : Int} (h0 : 0 ≤ g) (h1 : g < (ws.length : Int)) : suitsB ws g g = false := by
  have : ¬ g ∈ rowOf ws g := fun h => ((rowOf_good hG h0 h1).rg g h).2.2 rfl
  unfold suitsB
  rw [decide_eq_false this]
  rfl

end B2

namespace B2
open PySem L2 PyProof.Rows

/-! ### len(set(xs)) of any numbers -/
def metN (us : List Int) : List Int := firstMet (fun i => us.getD i 0) us.length
theorem met_full (us : List Int) : ∀ i, i ≤ us.length → (firstMet (fun i => us.getD i 0) i).length = i → (us.take i).Nodup ∧ firstMet (fun i => us.getD i 0) i = us.take i
  | 0, _, _ => ⟨List.nodup_nil, rfl⟩
  | i + 1, hi, hl => by
    have hg : us[i]? = some (us.getD i 0) := by
      rw [List.getD_eq_getElem?_getD, List.getElem?_eq_getElem (show i < us.length from hi)]
      rfl
    have hle := firstMet_length_le (fun i => us.getD i 0) i
    rw [firstMet_succ] at hl ⊢
    unfold step_dedup at hl ⊢
    by_cases c : (firstMet (fun i => us.getD i 0) i).any (fun x => x == us.getD i 0) = true
    · rw [if_pos c] at hl
      omega
    · rw [if_neg c] at hl ⊢
      rw [List.length_append, List.length_singleton] at hl
      obtain ⟨h1, h2⟩ := met_full us i (by omega) (by omega)
      rw [h2] at c ⊢
      refine ⟨?_, (take_one hg).symm⟩
      rw [take_one hg, List.nodup_append]
      refine ⟨h1, by simp, fun x hx y hy e => ?_⟩
      rw [List.mem_singleton] at hy
      exact c (List.any_eq_true.mpr ⟨x, hx, by rw [e, hy]; exact beq_self_eq_true _⟩)
theorem met_less {us : List Int} (h : ¬ us.Nodup) : (metN us).length < us.length := by
  have h1 := firstMet_length_le (fun i => us.getD i 0) us.length
  refine Classical.byContradiction fun z => h ?_
  have h2 := (met_full us us.length (Nat.le_refl _) (by unfold metN at z; omega)).1
  rw [List.take_length] at h2
  exact h2
theorem met_same {us : List Int} (h : us.Nodup) : (metN us).length = us.length := by
  unfold metN
  rw [RZ.firstMet_nodup h _ (Nat.le_refl _), List.take_length]
def tSetLen (K : PySem.W.Frag) (ta : TE) : TE := fun σ H Q => ta σ H fun x H1 => ∃ (p : Addr) (us : List Int), x = .ref p ∧ SqL K H1 p (us.map V.int) ∧ us.length ≤ 4000 ∧ Q (.int ((metN us).length : Nat)) H1
theorem pe_setLen {X : Cx} {e : Expr} {te : TE} {p1 p2 p3 p4 : Pos} (gl : Gl X "len") (ml : X.mg "len" = none) (gs : Gl X "set") (ms : X.mg "set" = none) (he : PE X e te) (calm : X.calm = true := by rfl)
    (plain : starEach [e] X.env = (false, eval e X.env) :: starEach [] X.env := by rfl) : PE X (.Call (.Name "len" p1) [.Call (.Name "set" p2) [e] [] p3] [] p4) (tSetLen X.K te) := by
  constructor
  intro pins s σ H Q inv hyp
  refine Call_ (ld_blt inv gl ml boot_len (callWith_builtin1 (args_cons ?_ rfl) rfl rfl))
  refine Call_ (ld_blt inv gs ms boot_set (callWith_type1 (args_cons ?_ plain) plain rfl))
  refine thn (he.run pins s σ H _ inv hyp) fun v s1 ⟨x, H1, inv1, rx, hx⟩ => args_nil ?_
  obtain ⟨p, us, ex, hS, small, fin⟩ := hx
  subst ex
  cases rx
  obtain ⟨vs, rv, stands, _⟩ := inv1.list hS
  have size : vs.toArray.size = us.length := by rw [List.size_toArray, ← rv.length, List.length_map]
  refine call_set_list (inv1.ok.hd calm) stands.isList (by simpa using RZ.intsAre_vals rv) (by rw [size]; unfold scanBound; omega) fun h2 tk set2 keep => args_nil ?_
  rw [size] at set2
  obtain ⟨o, es, ep, t, get, exact', dat, _, _, _, fits, count⟩ := set2
  have inv2 : Inv X pins σ H1 { s1 with heap := h2, toks := tk } := inv1.kept fun b o e => keep b o (Heap.lt_size e) e
  have few := firstMet_length_le (fun i => us.getD i 0) us.length
  have count' : es.size = (metN us).length := count
  have few' : (metN us).length ≤ us.length := few
  refine call_len_set get exact' dat fits (by rw [count'] <;> omega) ⟨.int (metN us).length, H1, inv2.tok _, ⟨_, by rw [count']⟩, fin⟩

/-! ### Texts that are put together for an error: which text does not matter -/
def Sm (t : TE) (σ : L2.St) (H : Hp) : Prop := ∀ Q : VK, (∀ y : Str, y.length ≤ 1000 → Q (.str y) H) → t σ H Q
theorem sm_str {c : Str} {σ : L2.St} {H : Hp} (h : c.length ≤ 1000) : Sm (tC (.str c)) σ H := fun Q q => q c h
theorem small_text {g : Int} (h0 : 0 ≤ g) (h7 : g ≤ 7) : (Str.ofString (toString g)).length ≤ 1000 := by
  have : g = 0 ∨ g = 1 ∨ g = 2 ∨ g = 3 ∨ g = 4 ∨ g = 5 ∨ g = 6 ∨ g = 7 := by omega
  rcases this with h | h | h | h | h | h | h | h <;> (subst h; decide +kernel)
theorem small_log {g : Int} (h0 : 0 ≤ g) (h7 : g ≤ 7) : g.natAbs.log2 < 1920 := by
  have : g = 0 ∨ g = 1 ∨ g = 2 ∨ g = 3 ∨ g = 4 ∨ g = 5 ∨ g = 6 ∨ g = 7 := by omega
  rcases this with h | h | h | h | h | h | h | h <;> (subst h; decide +kernel)
theorem sm_fmt {te : TE} {σ : L2.St} {H : Hp} {g : Int} (h : ∀ Q : VK, Q (.int g) H → te σ H Q) (h0 : 0 ≤ g) (h7 : g ≤ 7) : Sm (tFmt te) σ H := fun Q q =>
  h _ (.inr ⟨g, rfl, small_log h0 h7, q _ (small_text h0 h7)⟩)
theorem js_small {σ : L2.St} {H : Hp} : ∀ (ts : List TE) (acc : Str) (Q : Str → Hp → Prop), (∀ t ∈ ts, Sm t σ H) → acc.length + 1000 * ts.length ≤ 1000000 → (∀ out, Q out H) → tJs ts acc σ H Q
  | [], acc, Q, _, _, q => q acc
  | t :: ts, acc, Q, h, hl, q => by
    rw [List.length_cons] at hl
    show t σ H fun x H1 => ∃ y : Str, x = .str y ∧ (acc ++ y).length ≤ sizeLine ∧ tJs ts (acc ++ y) σ H1 Q
    refine h t (List.mem_cons_self ..) _ fun y hy => ⟨y, rfl, ?_, js_small ts (acc ++ y) Q (fun u hu => h u (List.mem_cons_of_mem _ hu)) ?_ q⟩
    · rw [Str.length_append]
      exact Nat.le_of_lt (by unfold sizeLine; omega)
    · rw [Str.length_append]; omega

/-! ### Own errors -/
structure ErrC (K : PySem.W.Frag) (mg : Str → Option Value) (x : Str) (C : Addr) : Prop where
  g : mg x = some (.ref C)
  ex : PySem.W.excIn K C [.type "ValueError", .type "Exception", .type "BaseException", .type "object"] "ValueError.__new__" = true
  k : PySem.W.keepIn K (.ref C) = true
  b : PySem.W.subIn K (.ref C) (.type "BaseException") = some true
  t : PySem.W.typeIn K (.ref C) = some (.type "type")

/-- what a caller wants of a def that may raise -/
structure CalX (P : Program) (w : World) (K : PySem.W.Frag) (mg : Str → Option Value) (base : Heap) (k : Nat) (x : Str) (ps : List Str) (sp : Sp) : Prop where
  ex : ∃ (g : Addr) (gd : FuncData), FnOk P w K mg base (L2.CX P w) k g gd ps sp ∧ mg x = some (.ref g) ∧ PySem.W.keepIn K (.ref g) = true ∧ Binds K gd ps []

/-- isinstance of the error that a suite holds -/
def rIsEG (K : PySem.W.Frag) (cls : Value) (d : Option Addr) (a : Addr) : List V → Hp → VK → Prop := fun xs H Q => ∃ D, cls = .ref D ∧ d = none ∧ ExcC K D ∧ rIsE K D a xs H Q
theorem call_isEG {X : Cx} {K : PySem.W.Frag} (hK : X.K = K) {a : Addr} {oe : Obj} {cls : Value} {d : Option Addr} {pn : List (Addr × Obj)} (hz : Zc cls d oe) (hf : ∃ vs, oe.data = .fields vs) :
    CallR (X.suite a ((a, oe) :: pn)) (.builtin "isinstance") (rIsEG K cls d a) := by
  subst hK
  rintro pins s σ H xs us Q I r ⟨D, e1, e2, C, h⟩
  subst e1 e2
  exact call_isE C hz hf pins s σ H xs us Q I r h
/-- .. against a tuple of classes that was just laid -/
def rIsET (K : PySem.W.Frag) (cls : Value) (d : Option Addr) (a : Addr) : List V → Hp → VK → Prop := fun xs H Q => ∃ D, cls = .ref D ∧ d = none ∧ ExcC K D ∧
  ∃ (tp : Addr) (cs : List V) (ws : List Value) (b : Bool), xs = [.ref a, .ref tp] ∧ H tp = some (.tup cs) ∧ Paired ClsV cs ws ∧ PySem.W.kitAny K (.ref D) ws = some b ∧ Q (.bl b) H
theorem call_isET {X : Cx} {K : PySem.W.Frag} (hK : X.K = K) {a : Addr} {oe : Obj} {cls : Value} {d : Option Addr} {pn : List (Addr × Obj)} (hz : Zc cls d oe) (hf : ∃ vs, oe.data = .fields vs) :
    CallR (X.suite a ((a, oe) :: pn)) (.builtin "isinstance") (rIsET K cls d a) := by
  subst hK
  rintro pins s σ H xs us Q I r ⟨D, e1, e2, C, tp, cs, ws, b, e3, hT, pr, hk, q⟩
  subst e1 e2 e3
  obtain ⟨u1, u2, e4, r1, r2⟩ := vals2 r
  subst e4
  cases r1
  cases (show u2 = Value.ref tp from r2)
  obtain ⟨here, _⟩ := I.pin (a, oe) (List.mem_append.mpr (.inl List.mem_cons_self))
  obtain ⟨vs, dat⟩ := hf
  have inst : PySem.W.InstAt s.heap a oe D none := by
    obtain ⟨oc, od, oda, osl⟩ := oe
    obtain ⟨z1, z2⟩ := hz
    dsimp only at z1 z2 dat
    subst z1 z2 dat
    exact ⟨here, rfl, rfl, trivial⟩
  obtain ⟨_, its, rv, o, g1, g2, n, g3⟩ := (show ObjOk X.prog X.w H s.heap tp (.tup cs) from I.hok tp _ hT)
  have e5 := ClsV.all pr rv
  subst e5
  obtain ⟨oc, od, dt, sl⟩ := o
  simp only at g2 g3
  subst g2 g3
  exact PySem.W.kia_tup (PySem.W.handS_kitx_exc C.hg C.hk C.hs C.hd C.ha C.hn C.ht C.hm) I.kIn inst g1 hk (fun z => nomatch z) fun tk => ⟨.bl b, H, I.kept (t' := tk) fun _ _ z => z, rfl, q⟩

/-- an own class: what isinstance and except say of it -/
structure ClsK (K : PySem.W.Frag) (C : Addr) : Prop where
  d : PySem.W.hasDictIn K C = true
  t : PySem.W.typeIn K (.ref C) = some (.type "type")
  b : PySem.W.subIn K (.ref C) (.type "BaseException") = some true
theorem kit_own {K : PySem.W.Frag} {C D : Addr} {b : Bool} (c : ClsK K C) (s : PySem.W.subIn K (.ref D) (.ref C) = some b) (self : PySem.W.subIn K (.ref D) (.ref D) = some true) : PySem.W.kitOne K (.ref D) (.ref C) = some b := by
  unfold PySem.W.kitOne
  by_cases e : ((Value.ref D : Value) == .ref C) = true
  · rw [if_pos e]
    have e2 : D = C := Value.ref.inj (beq_iff_eq.mp e)
    subst e2
    rw [self] at s
    exact s
  · rw [if_neg e]
    obtain ⟨cd, hc, _⟩ := PySem.W.any_some c.d
    have e2 : ((PySem.W.clsIn K C).isSome && PySem.W.typeIn K (.ref C) == some (.type "type")) = true := by rw [hc, c.t]; rfl
    show (if ((PySem.W.clsIn K C).isSome && PySem.W.typeIn K (.ref C) == some (.type "type")) = true then PySem.W.subIn K (.ref D) (.ref C) else none) = some b
    rw [if_pos e2]
    exact s
theorem kit_val {K : PySem.W.Frag} {D : Addr} (s : PySem.W.subIn K (.ref D) (.type "ValueError") = some true) : PySem.W.kitOne K (.ref D) (.type "ValueError") = some true := by
  unfold PySem.W.kitOne
  have e : ((Value.ref D : Value) == .type "ValueError") = false := by
    apply beq_eq_false_iff_ne.mpr
    intro z
    cases z
  rw [e, if_neg Bool.false_ne_true]
  show (if PySem.W.kitMeta "ValueError" = true then PySem.W.subIn K (.ref D) (.type "ValueError") else none) = some true
  rw [if_pos (by decide +kernel)]
  exact s
theorem exm_own {K : PySem.W.Frag} {C : Addr} {cls : Value} {b : Bool} (c : ClsK K C) (s : PySem.W.subIn K cls (.ref C) = some b) : PySem.W.exmOne K cls (.ref C) = some b := PySem.W.exm_ref c.b c.d c.t s
theorem any_no {K : PySem.W.Frag} {t c : Value} {r : List Value} {b : Bool} (h : PySem.W.kitOne K t c = some false) (h2 : PySem.W.kitAny K t r = some b) : PySem.W.kitAny K t (c :: r) = some b := by
  unfold PySem.W.kitAny
  rw [h]
  exact h2
end B2

namespace B2
open PySem L2

/-- a walk within a comprehension, a loop: what holds between the turns -/
theorem in_it {J : It} {n : Nat} {G : Hp → Prop} {Y : Nat → Hp → V → Hp → Prop} (w : Walk J n G Y) {H1 : Hp} {Qd : Hp → Prop} {Body : (Hp → Prop) → V → Hp → Prop} (Pv : Nat → Hp → Prop)
    (h0 : Pv 0 H1) (hG : ∀ i H, i ≤ n → Pv i H → G H) (hs : ∀ i x H H', i < n → Pv i H → Y i H x H' → Body (Pv (i + 1)) x H') (hd : ∀ H, Pv n H → Qd H) :
    ∃ W : Nat → Nat → Hp → Prop, (∃ m, W 0 m H1) ∧ ∀ j k H, W j k H → (J.stop j H ∧ Qd H) ∨ (J.go j H ∧ ∃ Nx : Hp → Prop, (∀ H', Nx H' → ∃ k', k' < k ∧ W (j + 1) k' H') ∧ ∀ x H', J.yld j H x H' → Body Nx x H') := by
  refine ⟨fun j k H => k = n - j ∧ j ≤ n ∧ Pv j H, ⟨n, rfl, Nat.zero_le _, h0⟩, ?_⟩
  rintro j k H ⟨rfl, hj, p⟩
  have g := hG j H hj p
  by_cases c : j < n
  · refine .inr ⟨w.goes j H c g, Pv (j + 1), fun H' p' => ⟨n - (j + 1), by omega, rfl, c, p'⟩, fun x H' y => ?_⟩
    exact hs j x H H' c p (w.yields j H x H' c g y)
  · have e : j = n := by omega
    subst e
    exact .inl ⟨w.stops H g, hd H p⟩

/-! ### Mates -/
def mt (ms : List (Option Int)) (i : Int) : Option Int := ms.getD i.toNat none

structure OkMates (ws : List (List Int)) (ms : List (Option Int)) : Prop where
  len : ms.length = ws.length
  pr : ∀ i m : Int, 0 ≤ i → i < (ws.length : Int) → mt ms i = some m → 0 ≤ m ∧ m < (ws.length : Int) ∧ mt ms m = some i ∧ suitsB ws i m = true

theorem mt_get {ms : List (Option Int)} {i : Int} (h0 : 0 ≤ i) (h1 : i < (ms.length : Int)) : ms[i.toNat]? = some (mt ms i) := by
  have h : i.toNat < ms.length := by omega
  unfold mt
  rw [List.getD_eq_getElem?_getD, List.getElem?_eq_getElem h]
  rfl

theorem mt_at {ms : List (Option Int)} {i : Int} (h0 : 0 ≤ i) (h1 : i < (ms.length : Int)) : atI (ms.map ov) i = some (ov (mt ms i)) := by
  have e : i = ((i.toNat : Nat) : Int) := by omega
  have h : atI (ms.map ov) ((i.toNat : Nat) : Int) = some (ov (mt ms i)) := atI_nat (by rw [List.getElem?_map, mt_get h0 h1]; rfl)
  rw [← e] at h
  exact h

theorem OkMates.oko {ws : List (List Int)} {ms : List (Option Int)} (o : OkMates ws ms) {i : Int} (h0 : 0 ≤ i) (h1 : i < (ws.length : Int)) : OkO ws.length (mt ms i) := by
  cases e : mt ms i with
  | none => trivial
  | some m =>
    have := o.pr i m h0 h1 e
    exact ⟨this.1, this.2.1⟩

def tupO (p : Int × Int) : HO := .tup [.int p.1, .int p.2]

/-- the two are restless -/
def wild (ws : List (List Int)) (ms : List (Option Int)) (i j : Int) : Bool := aheadB ws i (some j) (mt ms i) && aheadB ws j (some i) (mt ms j)
/-- the restless pairs of i and the t guests behind it -/
def wildIn (ws : List (List Int)) (ms : List (Option Int)) (i : Nat) : Nat → List (Int × Int)
  | 0 => []
  | t + 1 => wildIn ws ms i t ++ (if wild ws ms (i : Int) ((i : Int) + 1 + (t : Int)) = true then [((i : Int), (i : Int) + 1 + (t : Int))] else [])
/-- the restless pairs of the first k guests, of n -/
def wildUp (ws : List (List Int)) (ms : List (Option Int)) (n : Nat) : Nat → List (Int × Int)
  | 0 => []
  | k + 1 => wildUp ws ms n k ++ wildIn ws ms k (n - (k + 1))
def wildAll (ws : List (List Int)) (ms : List (Option Int)) : List (Int × Int) := wildUp ws ms ws.length ws.length

theorem wildIn_le (ws : List (List Int)) (ms : List (Option Int)) (i : Nat) : ∀ t, (wildIn ws ms i t).length ≤ t
  | 0 => Nat.le_refl _
  | t + 1 => by
    have := wildIn_le ws ms i t
    unfold wildIn
    rw [List.length_append]
    split
    · rw [List.length_singleton]; omega
    · rw [List.length_nil]; omega
theorem wildUp_le (ws : List (List Int)) (ms : List (Option Int)) (n : Nat) : ∀ k, (wildUp ws ms n k).length ≤ k * n
  | 0 => Nat.zero_le _
  | k + 1 => by
    have h1 := wildUp_le ws ms n k
    have h2 := wildIn_le ws ms k (n - (k + 1))
    unfold wildUp
    rw [List.length_append, Nat.succ_mul]
    omega

theorem flat_ovs (ms : List (Option Int)) : ∀ v ∈ ms.map ov, plainV v = true := by
  intro v hv
  obtain ⟨i, _, rfl⟩ := List.mem_map.mp hv
  cases i <;> rfl

/-! ### Pairs as data -/
def dP (p : Int × Int) : PyData := .tuple [.int p.1, .int p.2]
def dPs (ps : List (Int × Int)) : PyData := .list (ps.map dP)
theorem dP_lay (p : Int × Int) : (dP p).canLay0 = true ∧ (dP p).depth ≤ 2 := by
  simp [dP, PyData.canLay0, PyData.canLayAll0, PyData.depth, PyData.depthAll]
theorem dPs_lay (ps : List (Int × Int)) : (dPs ps).canLay0 = true ∧ (dPs ps).depth ≤ 3 := by
  have h1 := canLayAll_of (ps.map dP) (fun d hd => by
    obtain ⟨v, _, rfl⟩ := List.mem_map.mp hd
    exact (dP_lay v).1)
  have h2 := depthAll_of 2 (ps.map dP) (fun d hd => by
    obtain ⟨v, _, rfl⟩ := List.mem_map.mp hd
    exact (dP_lay v).2)
  unfold dPs
  simp only [PyData.canLay0, PyData.depth]
  exact ⟨h1, by omega⟩
theorem dPs_shaped (ps : List (Int × Int)) : SeqAt.shaped (dPs ps) = true := shaped_of (dPs_lay ps).1 (Nat.le_trans (dPs_lay ps).2 (by decide))
theorem dPs_refl (ps : List (Int × Int)) : (dPs ps).eqv (dPs ps) = true := SeqAt.eqv_refl _ (dPs_lay ps).1
theorem dPs_nil (ps : List (Int × Int)) : (dPs ps).eqv (dPs []) = ps.isEmpty := by
  cases ps <;> simp [dPs, PyData.eqv, PyData.eqvAll]

/-- at a a list of pairs -/
def PrsAt (H : Hp) (a : Addr) (ps : List (Int × Int)) : Prop :=
  ∃ as : List Addr, H a = some (.lst (as.map V.ref)) ∧ as.length = ps.length ∧ ∀ (i : Nat) (p : Int × Int), ps[i]? = some p → ∃ b, as[i]? = some b ∧ H b = some (tupO p)
theorem PrsAt.same {H H' : Hp} {a : Addr} {ps : List (Int × Int)} (e : Same H H') (t : PrsAt H a ps) : PrsAt H' a ps := by
  obtain ⟨as, h1, h2, h3⟩ := t
  refine ⟨as, e _ _ h1, h2, fun i r hr => ?_⟩
  obtain ⟨b, hb, hs⟩ := h3 i r hr
  exact ⟨b, hb, e _ _ hs⟩
theorem BuiltF.prs {H H' : Hp} {D : Addr} {ps : List (Int × Int)} (b : BuiltF tupO H D ps H') : PrsAt H' D ps := by
  obtain ⟨s, as, h1, h2, h3⟩ := b
  refine ⟨as, h1, h2, fun i r hr => ?_⟩
  obtain ⟨b, b1, b2, _⟩ := h3 i r hr
  exact ⟨b, b1, b2⟩
theorem dpAll_prs {K : PySem.W.Frag} {H : Hp} : ∀ (as : List Addr) (ps : List (Int × Int)), as.length = ps.length →
    (∀ (i : Nat) (p : Int × Int), ps[i]? = some p → ∃ b, as[i]? = some b ∧ H b = some (tupO p)) → DpAll K H (as.map V.ref) (ps.map dP)
  | [], [], _, _ => .nil
  | [], _ :: _, h, _ => by cases h
  | _ :: _, [], h, _ => by cases h
  | a :: as, r :: ps, h, g => by
    obtain ⟨b, hb, hs⟩ := g 0 r rfl
    cases hb
    exact .cons (.tup (SqT.of hs) (.cons (.int _) (.cons (.int _) .nil))) (dpAll_prs as ps (Nat.succ.inj h) fun i q hq => g (i + 1) q hq)
theorem PrsAt.dp {K : PySem.W.Frag} {H : Hp} {a : Addr} {ps : List (Int × Int)} (t : PrsAt H a ps) : Dp K H (.ref a) (dPs ps) := by
  obtain ⟨as, h1, h2, h3⟩ := t
  exact .lst (SqL.of h1) (dpAll_prs as ps h2 h3)
end B2

namespace B2
open PySem L2

/-! ### All mates -/
def joinL (ms : List (Option Int)) (g o : Int) : List (Option Int) := (ms.set g.toNat (some o)).set o.toNat (some g)
def joinsL (ws : List (List Int)) (ms : List (Option Int)) (g : Nat) : Nat → List (List (Option Int))
  | 0 => []
  | t + 1 => joinsL ws ms g t ++ (if (mt ms ((g : Int) + 1 + (t : Int)) = none ∧ suitsB ws (g : Int) ((g : Int) + 1 + (t : Int)) = true) then [joinL ms (g : Int) ((g : Int) + 1 + (t : Int))] else [])
/-- what may come of these mates by what guest g does, behind that it stays as it is -/
def moreL (ws : List (List Int)) (ms : List (Option Int)) (g : Nat) : List (List (Option Int)) := if mt ms (g : Int) = none then joinsL ws ms g (ws.length - (g + 1)) else []
def settledL (ws : List (List Int)) (ms : List (Option Int)) (g : Nat) : List (List (Option Int)) := ms :: moreL ws ms g
def stageL (ws : List (List Int)) : Nat → List (List (Option Int))
  | 0 => [List.replicate ws.length none]
  | g + 1 => (stageL ws g).flatMap fun ms => settledL ws ms g
def allTwos (ws : List (List Int)) : List (List (Option Int)) := stageL ws ws.length
def allCalm (ws : List (List Int)) : List (List (Option Int)) := (allTwos ws).filter fun ms => (wildAll ws ms).isEmpty

theorem mt_none (n : Nat) (i : Int) : mt (List.replicate n none) i = none := by
  unfold mt
  rw [List.getD_eq_getElem?_getD, List.getElem?_replicate]
  split <;> rfl
theorem mt_set {ms : List (Option Int)} {k : Nat} {v : Option Int} {i : Int} (hk : k < ms.length) : mt (ms.set k v) i = if i.toNat = k then v else mt ms i := by
  unfold mt
  rw [List.getD_eq_getElem?_getD, List.getD_eq_getElem?_getD, List.getElem?_set]
  by_cases c : k = i.toNat
  · rw [if_pos c, if_pos c.symm, if_pos hk]; rfl
  · rw [if_neg c, if_neg (fun z => c z.symm)]

theorem OkMates.put {ws : List (List Int)} {ms : List (Option Int)} (o : OkMates ws ms) {g m : Int} (g0 : 0 ≤ g) (g1 : g < (ws.length : Int)) (m0 : 0 ≤ m) (m1 : m < (ws.length : Int)) (ne : m ≠ g)
    (hg : mt ms g = none) (hm : mt ms m = none) (hs : suitsB ws g m = true) : OkMates ws ((ms.set g.toNat (some m)).set m.toNat (some g)) := by
  have hl := o.len
  refine ⟨by rw [List.length_set, List.length_set]; exact hl, fun i k i0 i1 h => ?_⟩
  have h1 : m.toNat < (ms.set g.toNat (some m)).length := by rw [List.length_set]; omega
  have h2 : g.toNat < ms.length := by omega
  rw [mt_set h1, mt_set h2] at h
  by_cases c1 : i.toNat = m.toNat
  · rw [if_pos c1] at h
    cases h
    have e : i = m := by omega
    subst e
    refine ⟨g0, g1, ?_, by rw [suitsB_comm]; exact hs⟩
    rw [mt_set h1, mt_set h2, if_neg (by omega), if_pos rfl]
  · rw [if_neg c1] at h
    by_cases c2 : i.toNat = g.toNat
    · rw [if_pos c2] at h
      cases h
      have e : i = g := by omega
      subst e
      refine ⟨m0, m1, ?_, hs⟩
      rw [mt_set h1, if_pos rfl]
    · rw [if_neg c2] at h
      obtain ⟨p0, p1, p2, p3⟩ := o.pr i k i0 i1 h
      refine ⟨p0, p1, ?_, p3⟩
      have n1 : ¬ k.toNat = m.toNat := fun z => by
        have e : k = m := by omega
        rw [e, hm] at p2
        cases p2
      have n2 : ¬ k.toNat = g.toNat := fun z => by
        have e : k = g := by omega
        rw [e, hg] at p2
        cases p2
      rw [mt_set h1, mt_set h2, if_neg n1, if_neg n2]
      exact p2

theorem ixN_of {n : Nat} {i : Int} (h0 : 0 ≤ i) (h1 : i < (n : Int)) : ixN n i = some i.toNat := by
  unfold ixN
  rw [if_pos h0, if_pos h1]
theorem flat_nones : ∀ n : Nat, (List.replicate n [V.non]).flatten = (List.replicate n (none : Option Int)).map ov
  | 0 => rfl
  | n + 1 => by
    rw [List.replicate_succ, List.flatten_cons, flat_nones n, List.replicate_succ]
    rfl

theorem joins_ok {ws : List (List Int)} {ms : List (Option Int)} (o : OkMates ws ms) {g : Nat} (hn : mt ms (g : Int) = none) (hg : g < ws.length) : ∀ t, g + 1 + t ≤ ws.length → ∀ m ∈ joinsL ws ms g t, OkMates ws m
  | 0, _, m, h => by cases h
  | t + 1, ht, m, h => by
    unfold joinsL at h
    rcases List.mem_append.mp h with h | h
    · exact joins_ok o hn hg t (by omega) m h
    · split at h
      · rename_i c
        rw [List.mem_singleton] at h
        rw [h]
        exact o.put (by omega) (by omega) (by omega) (by omega) (by omega) hn c.1 c.2
      · cases h
theorem joins_le (ws : List (List Int)) (ms : List (Option Int)) (g : Nat) : ∀ t, (joinsL ws ms g t).length ≤ t
  | 0 => Nat.le_refl _
  | t + 1 => by
    have := joins_le ws ms g t
    unfold joinsL
    rw [List.length_append]
    split
    · rw [List.length_singleton]; omega
    · rw [List.length_nil]; omega
theorem settled_ok {ws : List (List Int)} {ms : List (Option Int)} (o : OkMates ws ms) {g : Nat} (hg : g < ws.length) : ∀ m ∈ settledL ws ms g, OkMates ws m := by
  intro m h
  unfold settledL at h
  rcases List.mem_cons.mp h with h | h
  · rw [h]; exact o
  · unfold moreL at h
    split at h
    · rename_i c
      exact joins_ok o c hg _ (by omega) m h
    · cases h
theorem settled_le {ws : List (List Int)} {ms : List (Option Int)} {g : Nat} (hg : g < ws.length) : (settledL ws ms g).length ≤ ws.length := by
  unfold settledL moreL
  rw [List.length_cons]
  split
  · have := joins_le ws ms g (ws.length - (g + 1)); omega
  · rw [List.length_nil]; omega
theorem stage_ok (ws : List (List Int)) : ∀ g, g ≤ ws.length → ∀ m ∈ stageL ws g, OkMates ws m
  | 0, _, m, h => by
    unfold stageL at h
    rw [List.mem_singleton] at h
    rw [h]
    exact ⟨List.length_replicate, fun i k _ _ h => by rw [mt_none] at h; cases h⟩
  | g + 1, hg, m, h => by
    unfold stageL at h
    obtain ⟨a, ha, hm⟩ := List.mem_flatMap.mp h
    exact settled_ok (stage_ok ws g (by omega) a ha) (by omega) m hm
theorem flatMap_le {α β : Type} (f : α → List β) (k : Nat) : ∀ l : List α, (∀ a ∈ l, (f a).length ≤ k) → (l.flatMap f).length ≤ l.length * k
  | [], _ => Nat.zero_le _
  | a :: l, h => by
    have h1 := h a (List.mem_cons_self ..)
    have h2 := flatMap_le f k l fun b hb => h b (List.mem_cons_of_mem _ hb)
    rw [List.flatMap_cons, List.length_append, List.length_cons, Nat.succ_mul]
    omega
theorem stage_le (ws : List (List Int)) (h6 : ws.length ≤ 6) : ∀ g, g ≤ ws.length → (stageL ws g).length ≤ 6 ^ g
  | 0, _ => Nat.le_refl _
  | g + 1, hg => by
    have h1 := stage_le ws h6 g (by omega)
    have h2 := flatMap_le (fun ms => settledL ws ms g) 6 (stageL ws g) fun a _ => Nat.le_trans (settled_le (by omega)) h6
    unfold stageL
    rw [Nat.pow_succ]
    exact Nat.le_trans h2 (Nat.mul_le_mul_right 6 h1)
theorem stage_small (ws : List (List Int)) (h6 : ws.length ≤ 6) (g : Nat) (hg : g ≤ ws.length) : (stageL ws g).length ≤ 46656 :=
  Nat.le_trans (stage_le ws h6 g hg) (Nat.le_trans (Nat.pow_le_pow_right (by decide) (Nat.le_trans hg h6)) (by decide))

/-- mates as an object -/
def fm (ms : List (Option Int)) : HO := .lst (ms.map ov)

theorem built_put {α : Type} {f : α → HO} {H H1 : Hp} {D b : Addr} {vss : List α} {r : α} (hD : H D = none) (B : BuiltF f H D vss H1) (hb : H1 b = some (f r)) (nb : b ≠ D) (h0 : H b = none) :
    ∃ acc, H1 D = some (.lst acc) ∧ acc.length = vss.length ∧ BuiltF f H D (vss ++ [r]) (upd H1 D (.lst (acc ++ [.ref b]))) := by
  obtain ⟨s, as, h1, h2, h3⟩ := B
  refine ⟨_, h1, by rw [List.length_map]; exact h2, same_put s hD _, as ++ [b], ?_, ?_, fun i q hq => ?_⟩
  · rw [upd_same, List.map_append]
    rfl
  · rw [List.length_append, List.length_append, h2]
    rfl
  · rw [List.getElem?_append] at hq
    rw [List.getElem?_append]
    by_cases c : i < vss.length
    · rw [if_pos c] at hq
      rw [if_pos (by rw [h2]; exact c)]
      obtain ⟨b, b1, b2, b3, b4⟩ := h3 i q hq
      exact ⟨b, b1, by rw [upd_ne b3]; exact b2, b3, b4⟩
    · rw [if_neg c] at hq
      rw [if_neg (by rw [h2]; exact c)]
      have i0 : i - vss.length = 0 := by
        have := (List.getElem?_eq_some_iff.mp hq).1
        simp at this
        omega
      rw [i0] at hq
      cases hq
      rw [h2, i0]
      exact ⟨b, rfl, by rw [upd_ne nb]; exact hb, nb, h0⟩

theorem BuiltF.back {α : Type} {f : α → HO} {H0 H H1 : Hp} {D : Addr} {vss : List α} (s : Same H0 H) (B : BuiltF f H D vss H1) : BuiltF f H0 D vss H1 := by
  obtain ⟨e, as, h1, h2, h3⟩ := B
  refine ⟨s.trans e, as, h1, h2, fun i r hr => ?_⟩
  obtain ⟨b, b1, b2, b3, b4⟩ := h3 i r hr
  exact ⟨b, b1, b2, b3, s.free b4⟩

theorem big_line {n : Nat} (h : n ≤ 1000000) : n < sizeLine := by
  unfold sizeLine
  omega
theorem pi_lst {X : Cx} {K : PySem.W.Frag} (h : X.K = K) {tg l : Expr} {tl : TE} (e : PE X l tl) : PI X tg l (iList K tl) := by
  subst h
  exact pi_list e
theorem eq_dat {X : Cx} {K : PySem.W.Frag} (h : X.K = K) (hu : X.A.units + 64 < cLine) : OpR X (compareOp .Eq) (rEqD K) := by
  subst h
  exact op_eqD hu
end B2

namespace B2
open PySem L2

/-! ### How many mates, and in which order: the mathematics -/
def rngL (lo : Int) (k : Nat) : List Int := (List.range k).map fun (j : Nat) => lo + (j : Int)
def sumL (f : Int → Int) : List Int → Int
  | [] => 0
  | x :: r => f x + sumL f r
theorem sumL_append (f : Int → Int) : ∀ a b : List Int, sumL f (a ++ b) = sumL f a + sumL f b
  | [], b => by show sumL f b = 0 + sumL f b; omega
  | x :: a, b => by
    show f x + sumL f (a ++ b) = f x + sumL f a + sumL f b
    rw [sumL_append f a b]
    omega
theorem sumL_congr {f h : Int → Int} : ∀ l : List Int, (∀ x ∈ l, f x = h x) → sumL f l = sumL h l
  | [], _ => rfl
  | x :: r, e => by
    show f x + sumL f r = h x + sumL h r
    rw [e x (List.mem_cons_self ..), sumL_congr r fun y hy => e y (List.mem_cons_of_mem _ hy)]
theorem sumL_if (p : Int → Bool) (f : Int → Int) : ∀ l : List Int, sumL (fun m => if p m = true then f m else 0) l = sumL f (l.filter p)
  | [] => rfl
  | x :: r => by
    have ih := sumL_if p f r
    show (if p x = true then f x else 0) + sumL _ r = _
    rw [ih, List.filter_cons]
    by_cases c : p x = true
    · rw [if_pos c, if_pos c]; rfl
    · rw [if_neg c, if_neg c]; omega

theorem rngL_succ (lo : Int) (k : Nat) : rngL lo (k + 1) = rngL lo k ++ [lo + (k : Int)] := by
  unfold rngL
  rw [List.range_succ, List.map_append]
  rfl
theorem rngL_cons (lo : Int) (k : Nat) : rngL lo (k + 1) = lo :: rngL (lo + 1) k := by
  unfold rngL
  rw [List.range_succ_eq_map, List.map_cons, List.map_map]
  congr 1
  · show lo + 0 = lo
    omega
  · apply List.map_congr_left
    intro j _
    show lo + ((j + 1 : Nat) : Int) = lo + 1 + (j : Int)
    omega
theorem rngL_mem {lo : Int} {k : Nat} {x : Int} (h : x ∈ rngL lo k) : lo ≤ x ∧ x < lo + (k : Int) := by
  unfold rngL at h
  obtain ⟨j, hj, rfl⟩ := List.mem_map.mp h
  have := List.mem_range.mp hj
  omega
theorem rngL_len (lo : Int) (k : Nat) : (rngL lo k).length = k := by
  unfold rngL
  rw [List.length_map, List.length_range]
theorem rngL_lt (lo : Int) (k : Nat) : (rngL lo k).Pairwise (· < ·) := by
  unfold rngL
  rw [List.pairwise_map]
  exact List.Pairwise.imp (fun {i j} (h : i < j) => by omega) List.pairwise_lt_range

/-- may g share with o -/
def mayJ (ws : List (List Int)) (ms : List (Option Int)) (g : Int) (o : Int) : Bool := suitsB ws g o && (mt ms o).isNone
theorem joins_is (ws : List (List Int)) (ms : List (Option Int)) (g : Nat) : ∀ t, joinsL ws ms g t = ((rngL ((g : Int) + 1) t).filter (mayJ ws ms (g : Int))).map fun o => joinL ms (g : Int) o
  | 0 => rfl
  | t + 1 => by
    rw [rngL_succ, List.filter_append, List.map_append, ← joins_is ws ms g t]
    have e : joinsL ws ms g (t + 1) = joinsL ws ms g t ++ (if (mt ms ((g : Int) + 1 + (t : Int)) = none ∧ suitsB ws (g : Int) ((g : Int) + 1 + (t : Int)) = true) then [joinL ms (g : Int) ((g : Int) + 1 + (t : Int))] else []) := rfl
    rw [e]
    congr 1
    rw [List.filter_cons]
    unfold mayJ
    by_cases c : mt ms ((g : Int) + 1 + (t : Int)) = none ∧ suitsB ws (g : Int) ((g : Int) + 1 + (t : Int)) = true
    · rw [if_pos c, c.1, c.2]
      rfl
    · rw [if_neg c, if_neg]
      · rfl
      · intro z
        rw [Bool.and_eq_true] at z
        exact c ⟨Option.isNone_iff_eq_none.mp z.2, z.1⟩

/-- all that comes of these mates by what the last k guests do -/
def procL (ws : List (List Int)) : Nat → List (Option Int) → List (List (Option Int))
  | 0, ms => [ms]
  | k + 1, ms => (settledL ws ms (ws.length - (k + 1))).flatMap (procL ws k)
theorem proc_stage (ws : List (List Int)) : ∀ k, k ≤ ws.length → (stageL ws (ws.length - k)).flatMap (procL ws k) = allTwos ws
  | 0, _ => by
    show (stageL ws ws.length).flatMap (fun ms => [ms]) = stageL ws ws.length
    induction stageL ws ws.length with
    | nil => rfl
    | cons a l ih => rw [List.flatMap_cons, ih]; rfl
  | k + 1, h => by
    rw [← proc_stage ws k (by omega)]
    have e : ws.length - k = (ws.length - (k + 1)) + 1 := by omega
    have e2 : stageL ws ((ws.length - (k + 1)) + 1) = (stageL ws (ws.length - (k + 1))).flatMap fun ms => settledL ws ms (ws.length - (k + 1)) := rfl
    rw [e, e2, List.flatMap_assoc]
    rfl
theorem all_proc (ws : List (List Int)) : allTwos ws = procL ws ws.length (List.replicate ws.length none) := by
  have h := proc_stage ws ws.length (Nat.le_refl _)
  rw [Nat.sub_self] at h
  have e : stageL ws 0 = [List.replicate ws.length none] := rfl
  rw [e, List.flatMap_cons, List.flatMap_nil, List.append_nil] at h
  exact h.symm

/-- how many mates there are of those in the list -/
def countL (ws : List (List Int)) : Nat → List Int → Int
  | 0, _ => 1
  | _ + 1, [] => 1
  | k + 1, x :: r => countL ws k r + sumL (fun m => if suitsB ws x m = true then countL ws k (r.filter fun y => decide (y ≠ m)) else 0) r
theorem count_fuel (ws : List (List Int)) : ∀ (k : Nat) (l : List Int), l.length ≤ k → countL ws (k + 1) l = countL ws k l
  | 0, [], _ => rfl
  | 0, _ :: _, h => by simp at h
  | k + 1, [], _ => rfl
  | k + 1, x :: r, h => by
    have hr : r.length ≤ k := Nat.le_of_succ_le_succ h
    show countL ws (k + 1) r + sumL (fun m => if suitsB ws x m = true then countL ws (k + 1) (r.filter fun y => decide (y ≠ m)) else 0) r =
      countL ws k r + sumL (fun m => if suitsB ws x m = true then countL ws k (r.filter fun y => decide (y ≠ m)) else 0) r
    rw [count_fuel ws k r hr]
    congr 1
    apply sumL_congr
    intro m _
    by_cases c : suitsB ws x m = true
    · rw [if_pos c, if_pos c, count_fuel ws k _ (Nat.le_trans (List.length_filter_le _ _) hr)]
    · rw [if_neg c, if_neg c]

def freeL (ms : List (Option Int)) (lo : Int) (k : Nat) : List Int := (rngL lo k).filter fun i => (mt ms i).isNone

theorem mt_join {ms : List (Option Int)} {g o i : Int} (g0 : 0 ≤ g) (g1 : g < (ms.length : Int)) (o0 : 0 ≤ o) (o1 : o < (ms.length : Int)) (i0 : 0 ≤ i) :
    mt (joinL ms g o) i = if i = o then some g else if i = g then some o else mt ms i := by
  unfold joinL
  rw [mt_set (by rw [List.length_set]; omega), mt_set (by omega)]
  by_cases c : i = o
  · rw [if_pos c, if_pos (by rw [c])]
  · rw [if_neg c, if_neg (by omega)]
    by_cases c2 : i = g
    · rw [if_pos c2, if_pos (by rw [c2])]
    · rw [if_neg c2, if_neg (by omega)]

theorem free_join {ms : List (Option Int)} {g : Nat} {o : Int} {k : Nat} (hk : g + 1 + k = ms.length) (ho : o ∈ rngL ((g : Int) + 1) k) :
    freeL (joinL ms (g : Int) o) ((g : Int) + 1) k = (freeL ms ((g : Int) + 1) k).filter fun y => decide (y ≠ o) := by
  unfold freeL
  rw [List.filter_filter]
  apply List.filter_congr
  intro x hx
  have hx' := rngL_mem hx
  have ho' := rngL_mem ho
  rw [mt_join (by omega) (by omega) (by omega) (by omega) (by omega)]
  by_cases c : x = o
  · rw [if_pos c, decide_eq_false (fun z => z c)]
    rfl
  · rw [if_neg c, if_neg (by omega), decide_eq_true c, Bool.true_and]

theorem join_len (ms : List (Option Int)) (g o : Int) : (joinL ms g o).length = ms.length := by
  unfold joinL
  rw [List.length_set, List.length_set]

theorem len_flat (f : List (Option Int) → List (List (Option Int))) : ∀ (l : List Int) (h : Int → List (Option Int)), (((l.map h).flatMap f).length : Int) = sumL (fun m => ((f (h m)).length : Int)) l
  | [], _ => rfl
  | x :: r, h => by
    rw [List.map_cons, List.flatMap_cons, List.length_append]
    have := len_flat f r h
    show (((f (h x)).length + ((r.map h).flatMap f).length : Nat) : Int) = ((f (h x)).length : Int) + sumL (fun m => ((f (h m)).length : Int)) r
    omega

/-- as many as are counted -/
theorem proc_count (ws : List (List Int)) : ∀ (k : Nat) (ms : List (Option Int)), k ≤ ws.length → ms.length = ws.length →
    ((procL ws k ms).length : Int) = countL ws k (freeL ms (((ws.length - k : Nat)) : Int) k)
  | 0, ms, _, _ => rfl
  | k + 1, ms, hk, hl => by
    have hg : ∃ g : Nat, ws.length - (k + 1) = g ∧ ws.length - k = g + 1 ∧ g + 1 + k = ws.length := ⟨ws.length - (k + 1), rfl, by omega, by omega⟩
    obtain ⟨g, eg, eg1, egk⟩ := hg
    have ih : ∀ ms : List (Option Int), ms.length = ws.length → ((procL ws k ms).length : Int) = countL ws k (freeL ms ((g : Int) + 1) k) := fun ms h => by
      have := proc_count ws k ms (by omega) h
      rw [eg1] at this
      exact this
    show ((((settledL ws ms (ws.length - (k + 1))).flatMap (procL ws k)).length : Nat) : Int) = _
    rw [eg]
    have ekg : ws.length - (g + 1) = k := by omega
    unfold settledL moreL
    rw [ekg, List.flatMap_cons, List.length_append]
    have ef : freeL ms ((g : Nat) : Int) (k + 1) = if mt ms (g : Int) = none then (g : Int) :: freeL ms ((g : Int) + 1) k else freeL ms ((g : Int) + 1) k := by
      unfold freeL
      rw [rngL_cons, List.filter_cons]
      by_cases c : mt ms (g : Int) = none
      · rw [if_pos c, c]; rfl
      · rw [if_neg c, if_neg (fun z => c (Option.isNone_iff_eq_none.mp z))]
    rw [ef]
    have h1 := ih ms hl
    have hfl : (freeL ms ((g : Int) + 1) k).length ≤ k := by
      unfold freeL
      exact Nat.le_trans (List.length_filter_le _ _) (by rw [rngL_len]; exact Nat.le_refl _)
    by_cases c : mt ms (g : Int) = none
    · rw [if_pos c, if_pos c, joins_is]
      have h2 := len_flat (procL ws k) ((rngL ((g : Int) + 1) k).filter (mayJ ws ms (g : Int))) (fun o => joinL ms (g : Int) o)
      show (((procL ws k ms).length + _ : Nat) : Int) = countL ws k (freeL ms ((g : Int) + 1) k) + sumL (fun m => if suitsB ws (g : Int) m = true then countL ws k ((freeL ms ((g : Int) + 1) k).filter fun y => decide (y ≠ m)) else 0) (freeL ms ((g : Int) + 1) k)
      rw [sumL_if]
      have e3 : (freeL ms ((g : Int) + 1) k).filter (suitsB ws (g : Int)) = (rngL ((g : Int) + 1) k).filter (mayJ ws ms (g : Int)) := by
        unfold freeL
        rw [List.filter_filter]
        rfl
      rw [e3]
      have e4 : sumL (fun m => ((procL ws k (joinL ms (g : Int) m)).length : Int)) ((rngL ((g : Int) + 1) k).filter (mayJ ws ms (g : Int))) =
          sumL (fun m => countL ws k ((freeL ms ((g : Int) + 1) k).filter fun y => decide (y ≠ m))) ((rngL ((g : Int) + 1) k).filter (mayJ ws ms (g : Int))) := by
        apply sumL_congr
        intro m hm
        have hm' := (List.mem_filter.mp hm).1
        rw [ih (joinL ms (g : Int) m) (by rw [join_len]; exact hl), free_join (by omega) hm']
      omega
    · rw [if_neg c, if_neg c, List.flatMap_nil, count_fuel ws k _ hfl]
      show (((procL ws k ms).length + 0 : Nat) : Int) = _
      omega

theorem all_count (ws : List (List Int)) : ((allTwos ws).length : Int) = countL ws ws.length (rngL 0 ws.length) := by
  rw [all_proc, proc_count ws ws.length _ (Nat.le_refl _) List.length_replicate, Nat.sub_self]
  congr 1
  unfold freeL
  apply List.filter_eq_self.mpr
  intro x _
  rw [mt_none]
  rfl

/-! the order -/
def keyO (o : Option Int) : Int := o.getD (-1)
/-- the first place at which they differ has less at a -/
def ltK (n : Nat) (a b : List (Option Int)) : Prop := ∃ i : Nat, i < n ∧ (∀ j : Nat, j < i → mt a (j : Int) = mt b (j : Int)) ∧ keyO (mt a (i : Int)) < keyO (mt b (i : Int))

theorem proc_order (ws : List (List Int)) : ∀ (k : Nat) (ms : List (Option Int)), k ≤ ws.length → ms.length = ws.length →
    (∀ m ∈ procL ws k ms, m.length = ws.length ∧ ∀ i : Nat, i < ws.length - k → mt m (i : Int) = mt ms (i : Int)) ∧ (procL ws k ms).Pairwise (ltK ws.length)
  | 0, ms, _, hl => by
    refine ⟨fun m h => ?_, List.pairwise_singleton _ _⟩
    have e : m = ms := List.mem_singleton.mp h
    rw [e]
    exact ⟨hl, fun i _ => rfl⟩
  | k + 1, ms, hk, hl => by
    obtain ⟨g, eg, eg1, egk⟩ : ∃ g : Nat, ws.length - (k + 1) = g ∧ ws.length - k = g + 1 ∧ g + 1 + k = ws.length := ⟨ws.length - (k + 1), rfl, by omega, by omega⟩
    have ih := fun m h => proc_order ws k m (by omega) h
    rw [eg1] at ih
    rw [eg]
    have eP : procL ws (k + 1) ms = (settledL ws ms g).flatMap (procL ws k) := by
      rw [← eg]
      rfl
    rw [eP]
    have ekg : ws.length - (g + 1) = k := by omega
    -- what a choice changes
    have hs : ∀ s ∈ settledL ws ms g, s.length = ws.length ∧ ∀ i : Nat, i < g → mt s (i : Int) = mt ms (i : Int) := by
      intro s h
      unfold settledL moreL at h
      rw [ekg] at h
      rcases List.mem_cons.mp h with h | h
      · rw [h]; exact ⟨hl, fun i _ => rfl⟩
      · split at h
        · rw [joins_is] at h
          obtain ⟨o, ho, rfl⟩ := List.mem_map.mp h
          have ho' := rngL_mem (List.mem_filter.mp ho).1
          refine ⟨by rw [join_len]; exact hl, fun i hi => ?_⟩
          rw [mt_join (by omega) (by omega) (by omega) (by omega) (by omega), if_neg (by omega), if_neg (by omega)]
        · cases h
    have hp : (settledL ws ms g).Pairwise fun s t => keyO (mt s (g : Int)) < keyO (mt t (g : Int)) := by
      unfold settledL moreL
      rw [ekg]
      refine List.pairwise_cons.mpr ⟨fun t ht => ?_, ?_⟩
      · split at ht
        · rename_i c
          rw [joins_is] at ht
          obtain ⟨o, ho, rfl⟩ := List.mem_map.mp ht
          have ho' := rngL_mem (List.mem_filter.mp ho).1
          rw [c, mt_join (by omega) (by omega) (by omega) (by omega) (by omega), if_neg (by omega), if_pos rfl]
          show (-1 : Int) < o
          omega
        · cases ht
      · split
        · rw [joins_is, List.pairwise_map]
          refine List.Pairwise.imp_of_mem (fun {a b} ha hb hab => ?_) ((rngL_lt ((g : Int) + 1) k).sublist List.filter_sublist)
          have ha' := rngL_mem (List.mem_filter.mp ha).1
          have hb' := rngL_mem (List.mem_filter.mp hb).1
          rw [mt_join (by omega) (by omega) (by omega) (by omega) (by omega), mt_join (by omega) (by omega) (by omega) (by omega) (by omega), if_neg (by omega), if_pos rfl, if_neg (by omega), if_pos rfl]
          exact hab
        · exact List.Pairwise.nil
    refine ⟨fun m h => ?_, ?_⟩
    · obtain ⟨s, hs1, hm⟩ := List.mem_flatMap.mp h
      obtain ⟨q1, q2⟩ := hs s hs1
      obtain ⟨p1, p2⟩ := (ih s q1).1 m hm
      exact ⟨p1, fun i hi => (p2 i (by omega)).trans (q2 i hi)⟩
    · rw [List.pairwise_flatMap]
      refine ⟨fun s h => (ih s (hs s h).1).2, List.Pairwise.imp_of_mem (fun {s t} h1 h2 hst => ?_) hp⟩
      intro x hx y hy
      obtain ⟨a1, a2⟩ := hs s h1
      obtain ⟨b1, b2⟩ := hs t h2
      obtain ⟨c1, c2⟩ := (ih s a1).1 x hx
      obtain ⟨d1, d2⟩ := (ih t b1).1 y hy
      refine ⟨g, by omega, fun j hj => ?_, ?_⟩
      · rw [c2 j (by omega), d2 j (by omega), a2 j hj, b2 j hj]
      · rw [c2 g (by omega), d2 g (by omega)]
        exact hst

theorem all_order (ws : List (List Int)) : (allTwos ws).Pairwise (ltK ws.length) := by
  rw [all_proc]
  exact (proc_order ws ws.length _ (Nat.le_refl _) List.length_replicate).2
end B2

namespace B2
open PySem L2

/-! ### All calm mates leave the same guests alone: the mathematics -/
theorem nodup_le : ∀ (n : Nat) (r : List Int), r.Nodup → (∀ x ∈ r, 0 ≤ x ∧ x < (n : Int)) → r.length ≤ n
  | 0, r, _, h => by
    cases r with
    | nil => exact Nat.le_refl _
    | cons x r =>
      have := h x (List.mem_cons_self ..)
      omega
  | n + 1, r, nd, h => by
    have h1 := nodup_le n (r.filter fun x => decide ¬((x == (n : Int)) = true)) (nd.sublist List.filter_sublist) (fun x hx => by
      obtain ⟨a, b⟩ := List.mem_filter.mp hx
      have := h x a
      have c : ¬ (x == (n : Int)) = true := of_decide_eq_true b
      have d : x ≠ (n : Int) := fun z => c (by rw [z]; exact beq_self_eq_true _)
      omega)
    have h2 := List.length_eq_countP_add_countP (fun x : Int => x == (n : Int)) (l := r)
    have h3 : r.countP (fun x : Int => x == (n : Int)) ≤ 1 := List.nodup_iff_count.mp nd (n : Int)
    rw [List.countP_eq_length_filter (p := fun a => decide ¬((a == (n : Int)) = true))] at h2
    omega

theorem wildIn_nil {ws : List (List Int)} {ms : List (Option Int)} {i : Nat} : ∀ {t : Nat}, wildIn ws ms i t = [] → ∀ k, k < t → wild ws ms (i : Int) ((i : Int) + 1 + (k : Int)) = false
  | 0, _, k, hk => by omega
  | t + 1, h, k, hk => by
    unfold wildIn at h
    rw [List.append_eq_nil_iff] at h
    by_cases c : k < t
    · exact wildIn_nil h.1 k c
    · have e : k = t := by omega
      subst e
      cases z : wild ws ms (i : Int) ((i : Int) + 1 + (k : Int)) with
      | false => rfl
      | true =>
        have h2 := h.2
        rw [z] at h2
        cases h2
theorem wildUp_nil {ws : List (List Int)} {ms : List (Option Int)} {n : Nat} : ∀ {k : Nat}, wildUp ws ms n k = [] → ∀ i, i < k → wildIn ws ms i (n - (i + 1)) = []
  | 0, _, i, hi => by omega
  | k + 1, h, i, hi => by
    unfold wildUp at h
    rw [List.append_eq_nil_iff] at h
    by_cases c : i < k
    · exact wildUp_nil h.1 i c
    · have e : i = k := by omega
      subst e
      exact h.2

/-- no two different guests would rather have each other -/
def Calm (ws : List (List Int)) (ms : List (Option Int)) : Prop := ∀ i j : Int, 0 ≤ i → i < (ws.length : Int) → 0 ≤ j → j < (ws.length : Int) → i ≠ j → wild ws ms i j = false
theorem wild_comm (ws : List (List Int)) (ms : List (Option Int)) (i j : Int) : wild ws ms i j = wild ws ms j i := Bool.and_comm _ _
theorem calm_of {ws : List (List Int)} {ms : List (Option Int)} (h : (wildAll ws ms).isEmpty = true) : Calm ws ms := by
  have h0 : wildUp ws ms ws.length ws.length = [] := List.isEmpty_iff.mp h
  have key : ∀ i j : Int, 0 ≤ i → i < j → j < (ws.length : Int) → wild ws ms i j = false := fun i j i0 ij j1 => by
    have h1 := wildUp_nil h0 i.toNat (by omega)
    have h2 := wildIn_nil h1 (j - i - 1).toNat (by omega)
    have e1 : ((i.toNat : Nat) : Int) = i := by omega
    have e2 : ((i.toNat : Nat) : Int) + 1 + (((j - i - 1).toNat : Nat) : Int) = j := by omega
    rw [e2, e1] at h2
    exact h2
  intro i j i0 i1 j0 j1 ne
  by_cases c : i < j
  · exact key i j i0 c j1
  · rw [wild_comm]
    exact key j i j0 (by omega) i1

theorem ahead_total {ws : List (List Int)} {g a b : Int} (ha : suitsB ws g a = true) (hb : suitsB ws g b = true) (ne : a ≠ b) (h : aheadB ws g (some a) (some b) = false) : aheadB ws g (some b) (some a) = true := by
  have e1 : aheadB ws g (some a) (some b) = if a = b then false else if suitsB ws g a = true then (if suitsB ws g b = true then decide ((rowOf ws g).idxOf a < (rowOf ws g).idxOf b) else true) else false := rfl
  have e2 : aheadB ws g (some b) (some a) = if b = a then false else if suitsB ws g b = true then (if suitsB ws g a = true then decide ((rowOf ws g).idxOf b < (rowOf ws g).idxOf a) else true) else false := rfl
  rw [e1, if_neg ne, if_pos ha, if_pos hb] at h
  rw [e2, if_neg (fun z => ne z.symm), if_pos hb, if_pos ha]
  have h' : ¬ (rowOf ws g).idxOf a < (rowOf ws g).idxOf b := of_decide_eq_false h
  apply decide_eq_true
  have h3 := (suitsB_mem ha).1
  have h4 := (suitsB_mem hb).1
  have h5 : (rowOf ws g).idxOf a ≠ (rowOf ws g).idxOf b := fun z => by
    have p1 := (index_at a (rowOf ws g) h3).1
    have p2 := (index_at b (rowOf ws g) h4).1
    rw [z, p2] at p1
    cases p1
    exact ne rfl
  omega

theorem ahead_same (ws : List (List Int)) (g : Int) (x : Option Int) : aheadB ws g x x = false := by
  cases x with
  | none => rfl
  | some a =>
    show (if a = a then false else _) = false
    rw [if_pos rfl]

section
variable {ws : List (List Int)} {M : Bool → List (Option Int)}

/-- where the walk stands: a guest who would rather have its mate by p than that by the other -/
structure On (ws : List (List Int)) (M : Bool → List (Option Int)) (s : Int × Bool) : Prop where
  lo : 0 ≤ s.1
  hi : s.1 < (ws.length : Int)
  is : ∃ u, mt (M s.2) s.1 = some u
  ra : aheadB ws s.1 (mt (M s.2) s.1) (mt (M (!s.2)) s.1) = true

def goOn (M : Bool → List (Option Int)) (s : Int × Bool) : Int × Bool := ((mt (M s.2) s.1).getD 0, !s.2)

theorem on_go (hG : Good ws) (hO : ∀ p, OkMates ws (M p)) (hC : ∀ p, Calm ws (M p)) {s : Int × Bool} (h : On ws M s) : On ws M (goOn M s) := by
  obtain ⟨v, p⟩ := s
  obtain ⟨v0, v1, ⟨u, hu⟩, ra⟩ := h
  simp only at v0 v1 hu ra
  obtain ⟨u0, u1, hv, su⟩ := (hO p).pr v u v0 v1 hu
  have su' : suitsB ws u v = true := by rw [suitsB_comm]; exact su
  have e : goOn M (v, p) = (u, !p) := by unfold goOn; simp only [hu]; rfl
  rw [e]
  have nvu : v ≠ u := fun z => by
    subst z
    rw [suitsB_self hG v0 v1] at su
    cases su
  have hw := hC (!p) v u v0 v1 u0 u1 nvu
  unfold wild at hw
  rw [hu] at ra
  rw [ra, Bool.true_and] at hw
  cases hq : mt (M (!p)) u with
  | none =>
    rw [hq] at hw
    have : aheadB ws u (some v) none = suitsB ws u v := rfl
    rw [this, su'] at hw
    cases hw
  | some w =>
    rw [hq] at hw
    obtain ⟨w0, w1, hwu, sw⟩ := (hO (!p)).pr u w u0 u1 hq
    have nwv : v ≠ w := fun z => by
      subst z
      rw [hwu] at ra
      rw [ahead_same] at ra
      cases ra
    refine ⟨u0, u1, ⟨w, hq⟩, ?_⟩
    show aheadB ws u (mt (M (!p)) u) (mt (M (!!p)) u) = true
    rw [Bool.not_not, hq, hv]
    exact ahead_total su' sw nwv hw

theorem go_inj (hO : ∀ p, OkMates ws (M p)) {s t : Int × Bool} (hs : On ws M s) (ht : On ws M t) (e : goOn M s = goOn M t) : s = t := by
  obtain ⟨v, p⟩ := s
  obtain ⟨v', p'⟩ := t
  obtain ⟨v0, v1, ⟨u, hu⟩, _⟩ := hs
  obtain ⟨w0, w1, ⟨u', hu'⟩, _⟩ := ht
  simp only at v0 v1 hu w0 w1 hu'
  unfold goOn at e
  simp only [hu, hu', Option.getD_some, Prod.mk.injEq] at e
  obtain ⟨e1, e2⟩ := e
  have e3 : p = p' := by cases p <;> cases p' <;> first | rfl | cases e2
  subst e3
  subst e1
  have a := ((hO p).pr v u v0 v1 hu).2.2.1
  have b := ((hO p).pr v' u w0 w1 hu').2.2.1
  rw [a] at b
  cases b
  rfl

def walkOn (M : Bool → List (Option Int)) (a : Int) : Nat → Int × Bool
  | 0 => (a, false)
  | k + 1 => goOn M (walkOn M a k)

theorem walk_on (hG : Good ws) (hO : ∀ p, OkMates ws (M p)) (hC : ∀ p, Calm ws (M p)) {a : Int} (h0 : On ws M (a, false)) : ∀ k, On ws M (walkOn M a k)
  | 0 => h0
  | k + 1 => on_go hG hO hC (walk_on hG hO hC h0 k)

theorem walk_new (hG : Good ws) (hO : ∀ p, OkMates ws (M p)) (hC : ∀ p, Calm ws (M p)) {a : Int} (h0 : On ws M (a, false)) (hn : mt (M true) a = none) : ∀ i k, walkOn M a i ≠ walkOn M a (i + (k + 1))
  | 0, k => by
    intro e
    rw [Nat.zero_add] at e
    obtain ⟨v0, v1, ⟨u, hu⟩, _⟩ := walk_on hG hO hC h0 k
    generalize hs : walkOn M a k = s at v0 v1 hu
    obtain ⟨v, p⟩ := s
    simp only at v0 v1 hu
    have e' : (a, false) = goOn M (v, p) := by
      have : walkOn M a (k + 1) = goOn M (walkOn M a k) := rfl
      rw [this, hs] at e
      exact e
    unfold goOn at e'
    simp only [hu, Option.getD_some, Prod.mk.injEq] at e'
    obtain ⟨e1, e2⟩ := e'
    have hp : p = true := by cases p <;> first | rfl | cases e2
    subst hp
    subst e1
    have := ((hO true).pr v a v0 v1 hu).2.2.1
    rw [hn] at this
    cases this
  | i + 1, k => by
    intro e
    have e1 : i + 1 + (k + 1) = (i + (k + 1)) + 1 := by omega
    rw [e1] at e
    exact walk_new hG hO hC h0 hn i k (go_inj hO (walk_on hG hO hC h0 i) (walk_on hG hO hC h0 _) e)

theorem no_walk (hG : Good ws) (hO : ∀ p, OkMates ws (M p)) (hC : ∀ p, Calm ws (M p)) {a : Int} (h0 : On ws M (a, false)) (hn : mt (M true) a = none) : False := by
  let f : Nat → Int := fun k => 2 * (walkOn M a k).1 + (if (walkOn M a k).2 = true then 1 else 0)
  have finj : ∀ i j, i < j → f i ≠ f j := fun i j hij e => by
    have ne := walk_new hG hO hC h0 hn i (j - i - 1)
    have ej : i + (j - i - 1 + 1) = j := by omega
    rw [ej] at ne
    apply ne
    have e' : 2 * (walkOn M a i).1 + (if (walkOn M a i).2 = true then 1 else 0) = 2 * (walkOn M a j).1 + (if (walkOn M a j).2 = true then 1 else 0) := e
    generalize walkOn M a i = s at e'
    generalize walkOn M a j = t at e'
    obtain ⟨v, p⟩ := s
    obtain ⟨v', p'⟩ := t
    simp only at e'
    cases p <;> cases p' <;> simp at e' ⊢ <;> omega
  have nd : ((List.range (2 * ws.length + 1)).map f).Nodup := by
    unfold List.Nodup
    rw [List.pairwise_map]
    exact List.Pairwise.imp (fun {i j} h => finj i j h) List.pairwise_lt_range
  have := nodup_le (2 * ws.length) _ nd (fun x hx => by
    obtain ⟨k, _, rfl⟩ := List.mem_map.mp hx
    obtain ⟨v0, v1, _, _⟩ := walk_on hG hO hC h0 k
    show 0 ≤ 2 * (walkOn M a k).1 + _ ∧ 2 * (walkOn M a k).1 + _ < _
    split <;> omega)
  rw [List.length_map, List.length_range] at this
  omega
end

theorem alone_half {ws : List (List Int)} (hG : Good ws) {m1 m2 : List (Option Int)} (o1 : OkMates ws m1) (o2 : OkMates ws m2) (c1 : Calm ws m1) (c2 : Calm ws m2) {a : Int} (a0 : 0 ≤ a) (a1 : a < (ws.length : Int))
    (h : mt m2 a = none) : mt m1 a = none := by
  cases e : mt m1 a with
  | none => rfl
  | some b =>
    exfalso
    have hsu := (o1.pr a b a0 a1 e).2.2.2
    let M : Bool → List (Option Int) := fun p => if p = true then m2 else m1
    have hO : ∀ p, OkMates ws (M p) := fun p => by cases p; exact o1; exact o2
    have hC : ∀ p, Calm ws (M p) := fun p => by cases p; exact c1; exact c2
    refine no_walk (M := M) hG hO hC (a := a) ⟨a0, a1, ⟨b, e⟩, ?_⟩ h
    show aheadB ws a (mt m1 a) (mt m2 a) = true
    rw [e, h]
    exact hsu
/-- all calm mates leave the same guests alone -/
theorem same_alone {ws : List (List Int)} (hG : Good ws) {m1 m2 : List (Option Int)} (o1 : OkMates ws m1) (o2 : OkMates ws m2) (c1 : Calm ws m1) (c2 : Calm ws m2) {a : Int} (a0 : 0 ≤ a) (a1 : a < (ws.length : Int)) :
    (mt m1 a).isNone = (mt m2 a).isNone := by
  cases e1 : mt m1 a with
  | none => rw [alone_half hG o2 o1 c2 c1 a0 a1 e1]
  | some b =>
    cases e2 : mt m2 a with
    | none =>
      have := alone_half hG o1 o2 c1 c2 a0 a1 e2
      rw [e1] at this
      cases this
    | some c => rfl
end B2

namespace B2
open PySem L2

/-! ### Tables and the mathematics of parties -/

/-! #### All mates there are stand in allTwos -/
theorem ext_mt {a b : List (Option Int)} (hl : a.length = b.length) (h : ∀ i : Int, 0 ≤ i → i < (a.length : Int) → mt a i = mt b i) : a = b := by
  apply List.ext_getElem?
  intro i
  by_cases c : i < a.length
  · have h1 := mt_get (ms := a) (i := (i : Int)) (by omega) (by omega)
    have h2 := mt_get (ms := b) (i := (i : Int)) (by omega) (by omega)
    rw [Int.toNat_natCast] at h1 h2
    rw [h1, h2, h i (by omega) (by omega)]
  · rw [List.getElem?_eq_none (by omega), List.getElem?_eq_none (by omega)]

/-- of these mates only those of whom one is ahead of g -/
def upTo (g : Nat) (ms : List (Option Int)) : List (Option Int) :=
  (List.range ms.length).map fun (i : Nat) => match mt ms (i : Int) with
    | none => none
    | some m => if i < g ∨ m < (g : Int) then some m else none
theorem upTo_len (g : Nat) (ms : List (Option Int)) : (upTo g ms).length = ms.length := by
  unfold upTo
  rw [List.length_map, List.length_range]
theorem upTo_at {g : Nat} {ms : List (Option Int)} {i : Int} (i0 : 0 ≤ i) (i1 : i < (ms.length : Int)) :
    mt (upTo g ms) i = match mt ms i with
      | none => none
      | some m => if i < (g : Int) ∨ m < (g : Int) then some m else none := by
  have e : (upTo g ms)[i.toNat]? = some (match mt ms ((i.toNat : Nat) : Int) with
    | none => none
    | some m => if i.toNat < g ∨ m < (g : Int) then some m else none) := by
    unfold upTo
    rw [List.getElem?_map, List.getElem?_range (by omega)]
    rfl
  have e2 : ((i.toNat : Nat) : Int) = i := by omega
  rw [e2] at e
  have e3 : mt (upTo g ms) i = (match mt ms i with
    | none => none
    | some m => if i.toNat < g ∨ m < (g : Int) then some m else none) := by
    show List.getD _ _ _ = _
    rw [List.getD_eq_getElem?_getD, e]
    rfl
  rw [e3]
  cases mt ms i with
  | none => rfl
  | some m =>
    have : (i.toNat < g ∨ m < (g : Int)) ↔ (i < (g : Int) ∨ m < (g : Int)) := by omega
    show (if _ then _ else _) = if _ then _ else _
    by_cases c : i < (g : Int) ∨ m < (g : Int)
    · rw [if_pos c, if_pos (this.mpr c)]
    · rw [if_neg c, if_neg (fun z => c (this.mp z))]
theorem upTo_zero {ws : List (List Int)} {ms : List (Option Int)} (o : OkMates ws ms) : upTo 0 ms = List.replicate ws.length none := by
  have hl := o.len
  refine ext_mt (by rw [upTo_len, List.length_replicate, hl]) fun i i0 i1 => ?_
  rw [upTo_len] at i1
  rw [upTo_at i0 i1, mt_none]
  cases e : mt ms i with
  | none => rfl
  | some m =>
    have := o.pr i m i0 (by omega) e
    show (if _ then _ else _) = _
    rw [if_neg (by omega)]
theorem upTo_all {ws : List (List Int)} {ms : List (Option Int)} (o : OkMates ws ms) : upTo ws.length ms = ms := by
  have hl := o.len
  refine ext_mt (upTo_len _ _) fun i i0 i1 => ?_
  rw [upTo_len] at i1
  rw [upTo_at i0 i1]
  cases e : mt ms i with
  | none => rfl
  | some m =>
    show (if _ then _ else _) = _
    rw [if_pos (by omega)]
theorem upTo_step {ws : List (List Int)} (hG : Good ws) {ms : List (Option Int)} (o : OkMates ws ms) {g : Nat} (hg : g < ws.length) : upTo (g + 1) ms ∈ settledL ws (upTo g ms) g := by
  have hl := o.len
  unfold settledL
  by_cases c : ∃ m : Int, mt ms (g : Int) = some m ∧ (g : Int) < m
  · obtain ⟨m, hm, lt⟩ := c
    obtain ⟨m0, m1, hm', hs⟩ := o.pr (g : Int) m (by omega) (by omega) hm
    refine List.mem_cons_of_mem _ ?_
    unfold moreL
    have e0 : mt (upTo g ms) (g : Int) = none := by
      rw [upTo_at (by omega) (by omega), hm]
      show (if _ then _ else _) = _
      rw [if_neg (by omega)]
    rw [if_pos e0, joins_is]
    refine List.mem_map.mpr ⟨m, List.mem_filter.mpr ⟨?_, ?_⟩, ?_⟩
    · unfold rngL
      refine List.mem_map.mpr ⟨(m - (g : Int) - 1).toNat, List.mem_range.mpr (by omega), by omega⟩
    · unfold mayJ
      rw [hs, Bool.true_and, upTo_at m0 (by omega), hm']
      show ((if _ then _ else _ : Option Int)).isNone = true
      rw [if_neg (by omega)]
      rfl
    · refine (ext_mt (by rw [upTo_len, join_len, upTo_len]) fun i i0 i1 => ?_).symm
      rw [upTo_len] at i1
      rw [mt_join (by omega) (by rw [upTo_len]; omega) m0 (by rw [upTo_len]; omega) i0, upTo_at i0 i1, upTo_at i0 i1]
      by_cases c1 : i = m
      · rw [if_pos c1, c1, hm']
        show (if _ then _ else _) = _
        rw [if_pos (by omega)]
      · rw [if_neg c1]
        by_cases c2 : i = (g : Int)
        · rw [if_pos c2, c2, hm]
          show (if _ then _ else _) = _
          rw [if_pos (by omega)]
        · rw [if_neg c2]
          cases e : mt ms i with
          | none => rfl
          | some k =>
            have hk := o.pr i k i0 (by omega) e
            show (if _ then _ else _) = if _ then _ else _
            have ne : k ≠ (g : Int) := fun z => by
              rw [z] at hk
              rw [hm] at hk
              exact c1 (Option.some.inj hk.2.2.1).symm
            have : (i < ((g + 1 : Nat) : Int) ∨ k < ((g + 1 : Nat) : Int)) ↔ (i < (g : Int) ∨ k < (g : Int)) := by omega
            by_cases c3 : i < (g : Int) ∨ k < (g : Int)
            · rw [if_pos c3, if_pos (this.mpr c3)]
            · rw [if_neg c3, if_neg (fun z => c3 (this.mp z))]
  · refine List.mem_cons.mpr (.inl ?_)
    refine ext_mt (by rw [upTo_len, upTo_len]) fun i i0 i1 => ?_
    rw [upTo_len] at i1
    rw [upTo_at i0 i1, upTo_at i0 i1]
    cases e : mt ms i with
    | none => rfl
    | some k =>
      have hk := o.pr i k i0 (by omega) e
      show (if _ then _ else _) = if _ then _ else _
      have n1 : ¬ (i = (g : Int) ∧ (g : Int) < k) := fun z => c ⟨k, by rw [← z.1]; exact e, z.2⟩
      have n2 : ¬ (k = (g : Int) ∧ (g : Int) < i) := fun z => c ⟨i, by rw [← z.1]; exact hk.2.2.1, z.2⟩
      have n3 : ¬ (i = (g : Int) ∧ k = (g : Int)) := fun z => by
        have q := hk.2.2.2
        rw [z.1, z.2, suitsB_self hG (by omega) (by omega)] at q
        cases q
      have : (i < ((g + 1 : Nat) : Int) ∨ k < ((g + 1 : Nat) : Int)) ↔ (i < (g : Int) ∨ k < (g : Int)) := by omega
      by_cases c3 : i < (g : Int) ∨ k < (g : Int)
      · rw [if_pos c3, if_pos (this.mpr c3)]
      · rw [if_neg c3, if_neg (fun z => c3 (this.mp z))]
theorem all_in {ws : List (List Int)} (hG : Good ws) {ms : List (Option Int)} (o : OkMates ws ms) : ms ∈ allTwos ws := by
  have key : ∀ g, g ≤ ws.length → upTo g ms ∈ stageL ws g := by
    intro g
    induction g with
    | zero => exact fun _ => by rw [upTo_zero o]; exact List.mem_singleton.mpr rfl
    | succ g ih => exact fun hg => List.mem_flatMap.mpr ⟨_, ih (by omega), upTo_step hG o (by omega)⟩
  have := key ws.length (Nat.le_refl _)
  rw [upTo_all o] at this
  exact this
end B2

namespace B2
open PySem L2
def top (i : Nat) : Stmt := PySem.Challenge.pw_bedtwos_k10_whole_inn.main.body.getD i (.Pass ⟨0, 0, 0, 0⟩)
abbrev s_is_guest : Stmt := top 6
abbrev s_need_row : Stmt := top 7
abbrev s_need_wishes : Stmt := top 8
abbrev s_need_guest : Stmt := top 9
abbrev s_in_both : Stmt := top 10
abbrev s_is_ahead : Stmt := top 11
abbrev s_restless_pairs : Stmt := top 13
abbrev s_joined : Stmt := top 14
abbrev s_settled : Stmt := top 15
abbrev s_all_twos : Stmt := top 16
abbrev s_all_calm : Stmt := top 17
abbrev s_cell_at : Stmt := top 21
abbrev s_row_by : Stmt := top 22
abbrev s_wishes_by : Stmt := top 23
abbrev s_whole : Stmt := top 24
abbrev s_lsuits : Stmt := top 25
abbrev s_lrather : Stmt := top 26
abbrev s_lrestless : Stmt := top 27
abbrev s_lmates : Stmt := top 28
abbrev s_lfirst : Stmt := top 29
abbrev s_lrefused : Stmt := top 30
abbrev s_lheld : Stmt := top 31
abbrev s_ldeeds : Stmt := top 32
abbrev s_law : Stmt := top 33
abbrev s_inn_init : Stmt := inClass (top 19) 0
abbrev s_inn_turn : Stmt := inClass (top 19) 1
abbrev s_inn_twos : Stmt := inClass (top 19) 2
abbrev s_inn_table : Stmt := inClass (top 19) 3
abbrev s_inn_settle : Stmt := inClass (top 19) 4
/-- the names of the machine's own -/
structure Own (mg : Str → Option Value) : Prop where
  len : mg "len" = none
  rng : mg "range" = none
  isI : mg "isinstance" = none
  int : mg "int" = none
  bool : mg "bool" = none
  list : mg "list" = none
  set : mg "set" = none
  enm : mg "enumerate" = none
  all : mg "all" = none
end B2

namespace B2
open PySem L2

/-- what a caller wants of a def: it stands under its name, it keeps its promise -/
structure Cal (P : Program) (w : World) (K : PySem.W.Frag) (mg : Str → Option Value) (base : Heap) (k : Nat) (x : Str) (ps : List Str) (sp : Sp) : Prop where
  ex : ∃ (g : Addr) (gd : FuncData), FnOk P w K mg base CX0 k g gd ps sp ∧ mg x = some (.ref g) ∧ PySem.W.keepIn K (.ref g) = true ∧ Binds K gd ps []

theorem kit_ii {K : PySem.W.Frag} : PySem.W.kitOne K (.type "int") (.type "int") = some true := kit_ty (by decide +kernel)
theorem kit_ib {K : PySem.W.Frag} : PySem.W.kitOne K (.type "int") (.type "bool") = some false := kit_ty (by decide +kernel)
theorem kit_bb {K : PySem.W.Frag} : PySem.W.kitOne K (.type "bool") (.type "bool") = some true := kit_ty (by decide +kernel)
theorem kit_ll {K : PySem.W.Frag} : PySem.W.kitOne K (.type "list") (.type "list") = some true := kit_ty (by decide +kernel)
theorem ty_list {K : PySem.W.Frag} {H : Hp} {a : Addr} {xs : List V} (h : SqL K H a xs) : TyX K H (.ref a) (.type "list") := by
  rcases h with h | ⟨o, its, n, h, hc, _⟩
  · rcases h with h | ⟨o, h⟩
    · exact .base (.lst h)
    · exact .base (.frz h)
  · exact .kList h hc
end B2

namespace B2
open PySem L2

/-- no whole number: another kind, or a truth -/
def NotInt (K : PySem.W.Frag) (H : Hp) (x : V) : Prop := ∃ t, TyX K H x t ∧ (PySem.W.kitOne K t (.type "int") = some false ∨ (PySem.W.kitOne K t (.type "int") = some true ∧ PySem.W.kitOne K t (.type "bool") = some true))
def NotList (K : PySem.W.Frag) (H : Hp) (x : V) : Prop := ∃ t, TyX K H x t ∧ PySem.W.kitOne K t (.type "list") = some false
/-- no wish of guest g, one of n -/
def BadWish (K : PySem.W.Frag) (H : Hp) (n : Nat) (g : Int) (x : V) : Prop := NotInt K H x ∨ ∃ y : Int, x = V.int y ∧ ¬ (0 ≤ y ∧ y < (n : Int) ∧ y ≠ g)
/-- what can't be the list of guest g, one of n -/
def RowBad (K : PySem.W.Frag) (H : Hp) (n : Nat) (g : Int) (v : V) : Prop :=
  NotList K H v ∨
  (∃ (b : Addr) (xs : List V) (j : Nat) (x : V), v = V.ref b ∧ SqL K H b xs ∧ xs[j]? = some x ∧ (∀ i, i < j → ∃ y : Int, xs[i]? = some (V.int y) ∧ 0 ≤ y ∧ y < (n : Int) ∧ y ≠ g) ∧ BadWish K H n g x) ∨
  (∃ (b : Addr) (ns : List Int), v = V.ref b ∧ SqL K H b (ns.map V.int) ∧ (∀ y ∈ ns, 0 ≤ y ∧ y < (n : Int) ∧ y ≠ g) ∧ ¬ ns.Nodup ∧ ns.length ≤ 64)
/-- what is no table of wishes -/
def TabBad (K : PySem.W.Frag) (H : Hp) (v : V) : Prop :=
  NotList K H v ∨
  (∃ (a : Addr) (xs : List V), v = V.ref a ∧ SqL K H a xs ∧ (xs.length = 0 ∨ xs.length = 7)) ∨
  (∃ (a : Addr) (xs : List V) (g : Nat) (x : V), v = V.ref a ∧ SqL K H a xs ∧ 1 ≤ xs.length ∧ xs.length ≤ 6 ∧ xs[g]? = some x ∧
    (∀ i, i < g → ∃ (b : Addr) (r : List Int), xs[i]? = some (V.ref b) ∧ SqL K H b (r.map V.int) ∧ GoodRow xs.length (i : Int) r) ∧ RowBad K H xs.length (g : Int) x)

theorem tyOf_same {K : PySem.W.Frag} {H H' : Hp} {x : V} {t : Value} (e : Same H H') (h : TyOf K H x t) : TyOf K H' x t := by
  cases h with
  | non => exact .non
  | bl b => exact .bl b
  | int i => exact .int i
  | str s => exact .str s
  | flt f => exact .flt f
  | lst h => exact .lst (e _ _ h)
  | frz h => exact .frz (e _ _ h)
  | tup h => exact .tup (e _ _ h)
  | dK h => exact .dK (e _ _ h)
  | dT h => exact .dT (e _ _ h)
  | ins h a b c d f => exact .ins (e _ _ h) a b c d f
theorem tyX_same {K : PySem.W.Frag} {H H' : Hp} {x : V} {t : Value} (e : Same H H') (h : TyX K H x t) : TyX K H' x t := by
  cases h with
  | base h => exact .base (tyOf_same e h)
  | byt b => exact .byt b
  | set h => exact .set (e _ _ h)
  | kList h c => exact .kList h c
  | kTuple h c => exact .kTuple h c
  | kDict h c => exact .kDict h c
  | fTuple h => exact .fTuple (e _ _ h)
  | fDict h => exact .fDict (e _ _ h)
theorem NotInt.same {K : PySem.W.Frag} {H H' : Hp} {x : V} (h : NotInt K H x) (e : Same H H') : NotInt K H' x := by
  obtain ⟨t, ty, r⟩ := h
  exact ⟨t, tyX_same e ty, r⟩
theorem NotList.same {K : PySem.W.Frag} {H H' : Hp} {x : V} (h : NotList K H x) (e : Same H H') : NotList K H' x := by
  obtain ⟨t, ty, r⟩ := h
  exact ⟨t, tyX_same e ty, r⟩
theorem RowBad.same {K : PySem.W.Frag} {H H' : Hp} {n : Nat} {g : Int} {v : V} (h : RowBad K H n g v) (e : Same H H') : RowBad K H' n g v := by
  rcases h with h | ⟨b, xs, j, x, e1, hS, hj, hb, hbad⟩ | ⟨b, ns, e1, hS, r⟩
  · exact .inl (h.same e)
  · refine .inr (.inl ⟨b, xs, j, x, e1, e.seq hS, hj, hb, ?_⟩)
    rcases hbad with z | z
    · exact .inl (z.same e)
    · exact .inr z
  · exact .inr (.inr ⟨b, ns, e1, e.seq hS, r⟩)

section
variable {P : Program} {w : World} {K : PySem.W.Frag} {mg : Str → Option Value} {base : Heap}

/-! ### is_guest -/
theorem sc_is_guest : FnScope ["number", "many"] ["number", "many"] (defScope s_is_guest) := ⟨rfl, rfl, rfl, by decide +kernel, rfl, by decide +kernel, by decide +kernel⟩
def sp_is_guestX (K : PySem.W.Frag) : Sp := fun vs H Q _ => ∃ (x : V) (n : Int), vs = [x, .int n] ∧ ((∃ i : Int, x = V.int i ∧ Q (.bl (decide (0 ≤ i ∧ i < n))) H) ∨ (NotInt K H x ∧ Q (.bl false) H))
theorem ok_is_guestX {f : Addr} {fd : FuncData} (F : Fun K "is_guest" "is_guest" s_is_guest f fd) (T : Own mg) : FnOk P w K mg base CX0 1 f fd ["number", "many"] (sp_is_guestX K) := by
  refine F.ok sc_is_guest (fun vs H Q E h => ?_) (fun cdv A outer s H vs Q E hr h => ?_)
  · obtain ⟨i, n, rfl, _⟩ := h
    rfl
  obtain ⟨x, n, rfl, q⟩ := h
  refine ⟨_, pss_cons (ps_if (PW.pt (pw_or (pt_not (pt_val (pe_callB call_isi (by rfl) T.isI (by decide +kernel) (pa_cons (pv 0) (pa_cons (pe_bltn (v := .ty "int") (by rfl) T.int (by decide +kernel) rfl) pa_nil)))))
      (pw_or1 (pt_val (pe_callB call_isi (by rfl) T.isI (by decide +kernel) (pa_cons (pv 0) (pa_cons (pe_bltn (v := .ty "bool") (by rfl) T.bool (by decide +kernel) rfl) pa_nil))))))) (pss_one (ps_ret pe_bl)) pss_nil)
    (pss_one (ps_ret (pe_chain op_le op_lt pe_int (pv 0) (pv 1)))), ?_⟩
  rcases q with ⟨i, rfl, q⟩ | ⟨⟨t, ty, h | ⟨h1, h2⟩⟩, q⟩
  · refine ⟨_, rfl, _, _, _, _, _, rfl, .ty _, .base (.int i), kit_ii, _, rfl, iteF ⟨_, rfl, _, _, _, _, _, rfl, .ty _, .base (.int i), kit_ib, _, rfl, iteF ⟨_, rfl, _, _, rfl, rfl, _, rfl, ?_⟩⟩⟩
    refine ite2 (fun c => ?_) (fun c => ?_)
    · have c' : (0 : Int) ≤ i := of_decide_eq_true c
      refine ⟨_, rfl, _, _, rfl, rfl, ?_⟩
      have e : decide (i < n) = decide (0 ≤ i ∧ i < n) := by
        by_cases h : i < n
        · rw [decide_eq_true h, decide_eq_true ⟨c', h⟩]
        · rw [decide_eq_false h, decide_eq_false (fun z => h z.2)]
      show Q (.bl (decide (i < n))) H
      rw [e]; exact q
    · have c' : ¬ (0 : Int) ≤ i := of_decide_eq_false (Bool.eq_false_iff.mpr c)
      have e : decide (0 ≤ i ∧ i < n) = false := decide_eq_false (fun z => c' z.1)
      rw [e] at q; exact q
  · exact ⟨_, rfl, _, _, _, _, _, rfl, .ty _, ty, h, _, rfl, iteT q⟩
  · exact ⟨_, rfl, _, _, _, _, _, rfl, .ty _, ty, h1, _, rfl, iteF ⟨_, rfl, _, _, _, _, _, rfl, .ty _, ty, h2, _, rfl, iteT q⟩⟩

/-! ### need_row -/
theorem sc_need_row : FnScope ["row", "guest", "many", "wish"] ["row", "guest", "many"] (defScope s_need_row) := ⟨rfl, rfl, rfl, by decide +kernel, rfl, by decide +kernel, by decide +kernel⟩
def sp_need_rowX (K : PySem.W.Frag) (C : Addr) : Sp := fun vs H Q E => ∃ (v : V) (g : Int) (n : Nat), vs = [v, .int g, .int n] ∧ 0 ≤ g ∧ g ≤ 7 ∧
  ((∃ (b : Addr) (r : List Int), v = V.ref b ∧ SqL K H b (r.map V.int) ∧ GoodRow n g r ∧ Q .non H) ∨ (RowBad K H n g v ∧ E (.ref C) none H))
theorem ok_need_rowX {C : Addr} {f : Addr} {fd : FuncData} (F : Fun K "need_row" "need_row" s_need_row f fd) (T : Own mg) (W : ErrC K mg "BadWishes" C) (C1 : Cal P w K mg base 1 "is_guest" ["number", "many"] (sp_is_guestX K)) :
    FnOk P w K mg base (L2.CX P w) 2 f fd ["row", "guest", "many"] (sp_need_rowX K C) := by
  obtain ⟨g1, gd1, G1, m1, k1, b1⟩ := C1
  refine F.okX sc_need_row (fun vs H Q E h => ?_) (fun cdv A outer s H vs Q E hr h => ?_)
  · obtain ⟨v, g, n, rfl, _⟩ := h
    rfl
  obtain ⟨v, g, n, rfl, g0, g7, q⟩ := h
  refine ⟨_, pss_cons (ps_if (pt_not (pt_val (pe_callB call_isi (by rfl) T.isI (by decide +kernel) (pa_cons (pv 0) (pa_cons (pe_bltn (v := .ty "list") (by rfl) T.list (by decide +kernel) rfl) pa_nil)))))
      (pss_one (ps_raise rfl (takes_of rfl rfl rfl rfl) (pmk_ownA PySem.F.excBase_ValueError W.ex W.g W.k (raises_own W.b W.t) (by rfl) (pa_cons (pe_joined (.cons pe_str (.cons (pe_fmt (pv 1)) (.cons pe_str .nil)))) pa_nil)))) pss_nil)
    (pss_cons (ps_for (passes_of rfl) rfl (pi_list (pv 0)) (pg_name (i := 3) sc_need_row.nd rfl (Or.inl rfl))
      (pss_one (ps_if (PW.pt (pw_or (pt_not (pt_val (pe_call G1 hr (by rfl) m1 k1 b1 .nil pass0 (pa_cons (pv 3) (pa_cons (pv 2) pa_nil)))))
        (pw_or1 (pt_cmpR op_eq (pv 3) (pv 1) (nomark _)))))
        (pss_one (ps_raise rfl (takes_of rfl rfl rfl rfl) (pmk_ownA PySem.F.excBase_ValueError W.ex W.g W.k (raises_own W.b W.t) (by rfl) (pa_cons (pe_joined (.cons pe_str (.cons (pe_fmt (pv 1)) (.cons pe_str .nil)))) pa_nil)))) pss_nil)))
    (pss_one (ps_if (pt_cmpR op_lt (pe_setLen (by rfl) T.len (by rfl) T.set (pv 0)) (pe_callB call_len_seq (by rfl) T.len PySem.boot_len (pa_cons (pv 0) pa_nil)) (nomark _))
      (pss_one (ps_raise rfl (takes_of rfl rfl rfl rfl) (pmk_ownA PySem.F.excBase_ValueError W.ex W.g W.k (raises_own W.b W.t) (by rfl) (pa_cons (pe_joined (.cons pe_str (.cons (pe_fmt (pv 1)) (.cons pe_str .nil)))) pa_nil)))) pss_nil))), ?_⟩
  -- an error's text
  have txt : ∀ (σ : St) (c1 c2 : Str) (Q2 : Str → Hp → Prop), σ[1]? = some (some (.int g)) → c1.length ≤ 1000 → c2.length ≤ 1000 → (∀ out, Q2 out H) → tJs [tC (.str c1), tFmt (tVar 1), tC (.str c2)] Str.empty σ H Q2 := fun σ c1 c2 Q2 h1 l1 l2 q2 =>
    js_small _ _ _ (fun t ht => by
      rcases List.mem_cons.mp ht with e | ht
      · rw [e]; exact sm_str l1
      rcases List.mem_cons.mp ht with e | ht
      · rw [e]; exact sm_fmt (g := g) (fun Q q => ⟨_, h1, q⟩) g0 g7
      rw [List.mem_singleton] at ht
      rw [ht]; exact sm_str l2) (by rw [show Str.empty.length = 0 from rfl]; show 0 + 1000 * 3 ≤ 1000000; decide) q2
  rcases q with ⟨b, r, rfl, hS, hG, q⟩ | ⟨hB, q⟩
  · refine ⟨_, rfl, _, _, _, _, _, rfl, .ty _, ty_list hS, kit_ll, _, rfl, iteF ?_⟩
    refine ⟨_, rfl, b, rfl, ⟨_, hS⟩, for_list (K := K) (a := b) (xs := r.map V.int) (fun i σ H' => H' = H ∧ ∃ z, σ = [some (.ref b), some (.int g), some (.int n), z])
      ⟨rfl, none, rfl⟩ (fun i σ H' _ h => by rw [h.1]; exact hS) ?_ ?_⟩
    · rintro i x σ H' hx ⟨rfl, z, rfl⟩
      obtain ⟨y, hy, rfl⟩ := map_int_get hx
      obtain ⟨y0, y1, y2⟩ := hG.rg y (List.mem_of_getElem? hy)
      refine ⟨_, rfl, _, rfl, _, n, rfl, .inl ⟨y, rfl, _, rfl, ?_⟩⟩
      rw [decide_eq_true (And.intro y0 y1)]
      refine iteF ⟨_, rfl, _, rfl, rfl, _, rfl, ?_⟩
      rw [decide_eq_false (fun z => y2 (by cases z; rfl))]
      exact iteF ⟨rfl, _, rfl⟩
    · rintro σ H' ⟨rfl, z, rfl⟩
      have hl := hG.sm
      refine ⟨_, rfl, b, r, rfl, hS, by omega, _, rfl, b, _, rfl, .inl hS, _, _, rfl, rfl, _, rfl, ?_⟩
      rw [met_same hG.nd, List.length_map, decide_eq_false (show ¬ ((r.length : Nat) : Int) < ((r.length : Nat) : Int) by omega)]
      exact iteF q
  · rcases hB with ⟨t, ty, hk⟩ | ⟨b, xs, j, x, rfl, hS, hj, hbef, hbad⟩ | ⟨b, ns, rfl, hS, hv, hnd, hl⟩
    · refine ⟨_, rfl, _, _, _, _, _, rfl, .ty _, ty, hk, _, rfl, iteT ?_⟩
      exact txt _ _ _ _ rfl (by decide +kernel) (by decide +kernel) fun out => ⟨(by show 1 ≤ sizeLine; decide), q⟩
    · refine ⟨_, rfl, _, _, _, _, _, rfl, .ty _, ty_list hS, kit_ll, _, rfl, iteF ?_⟩
      refine ⟨_, rfl, b, rfl, ⟨_, hS⟩, for_list (K := K) (a := b) (xs := xs) (fun i σ H' => H' = H ∧ i ≤ j ∧ ∃ z, σ = [some (.ref b), some (.int g), some (.int n), z])
        ⟨rfl, Nat.zero_le _, none, rfl⟩ (fun i σ H' _ h => by rw [h.1]; exact hS) ?_ ?_⟩
      · rintro i u σ H' hu ⟨rfl, hij, z, rfl⟩
        by_cases c : i = j
        · subst c
          rw [hj] at hu
          cases hu
          rcases hbad with hN | ⟨y, rfl, hy⟩
          · refine ⟨_, rfl, _, rfl, _, n, rfl, .inr ⟨hN, _, rfl, iteT ?_⟩⟩
            exact txt _ _ _ _ rfl (by decide +kernel) (by decide +kernel) fun out => ⟨(by show 1 ≤ sizeLine; decide), q⟩
          · refine ⟨_, rfl, _, rfl, _, n, rfl, .inl ⟨y, rfl, _, rfl, ?_⟩⟩
            by_cases c2 : 0 ≤ y ∧ y < (n : Int)
            · rw [decide_eq_true c2]
              refine iteF ⟨_, rfl, _, rfl, rfl, _, rfl, ?_⟩
              have e : y = g := Classical.byContradiction fun z => hy ⟨c2.1, c2.2, z⟩
              rw [decide_eq_true (show V.int y = V.int g by rw [e])]
              exact iteT (txt _ _ _ _ rfl (by decide +kernel) (by decide +kernel) fun out => ⟨(by show 1 ≤ sizeLine; decide), q⟩)
            · rw [decide_eq_false c2]
              exact iteT (txt _ _ _ _ rfl (by decide +kernel) (by decide +kernel) fun out => ⟨(by show 1 ≤ sizeLine; decide), q⟩)
        · obtain ⟨y, hy, y0, y1, y2⟩ := hbef i (by omega)
          rw [hu] at hy
          cases hy
          refine ⟨_, rfl, _, rfl, _, n, rfl, .inl ⟨y, rfl, _, rfl, ?_⟩⟩
          rw [decide_eq_true (And.intro y0 y1)]
          refine iteF ⟨_, rfl, _, rfl, rfl, _, rfl, ?_⟩
          rw [decide_eq_false (fun z => y2 (by cases z; rfl))]
          exact iteF ⟨rfl, by omega, _, rfl⟩
      · rintro σ H' ⟨_, hij, _⟩
        have := (List.getElem?_eq_some_iff.mp hj).1
        omega
    · refine ⟨_, rfl, _, _, _, _, _, rfl, .ty _, ty_list hS, kit_ll, _, rfl, iteF ?_⟩
      refine ⟨_, rfl, b, rfl, ⟨_, hS⟩, for_list (K := K) (a := b) (xs := ns.map V.int) (fun i σ H' => H' = H ∧ ∃ z, σ = [some (.ref b), some (.int g), some (.int n), z])
        ⟨rfl, none, rfl⟩ (fun i σ H' _ h => by rw [h.1]; exact hS) ?_ ?_⟩
      · rintro i x σ H' hx ⟨rfl, z, rfl⟩
        obtain ⟨y, hy, rfl⟩ := map_int_get hx
        obtain ⟨y0, y1, y2⟩ := hv y (List.mem_of_getElem? hy)
        refine ⟨_, rfl, _, rfl, _, n, rfl, .inl ⟨y, rfl, _, rfl, ?_⟩⟩
        rw [decide_eq_true (And.intro y0 y1)]
        refine iteF ⟨_, rfl, _, rfl, rfl, _, rfl, ?_⟩
        rw [decide_eq_false (fun z => y2 (by cases z; rfl))]
        exact iteF ⟨rfl, _, rfl⟩
      · rintro σ H' ⟨rfl, z, rfl⟩
        refine ⟨_, rfl, b, ns, rfl, hS, by omega, _, rfl, b, _, rfl, .inl hS, _, _, rfl, rfl, _, rfl, ?_⟩
        have hlt := met_less hnd
        rw [List.length_map, decide_eq_true (show (((metN ns).length : Nat) : Int) < ((ns.length : Nat) : Int) by omega)]
        refine iteT ?_
        exact txt _ _ _ _ rfl (by decide +kernel) (by decide +kernel) fun out => ⟨(by show 1 ≤ sizeLine; decide), q⟩

/-! ### need_wishes -/
theorem sc_need_wishes : FnScope ["wishes", "many", "guest", "row"] ["wishes"] (defScope s_need_wishes) := ⟨rfl, rfl, rfl, by decide +kernel, rfl, by decide +kernel, by decide +kernel⟩
def sp_need_wishesX (K : PySem.W.Frag) (C : Addr) : Sp := fun vs H Q E => ∃ (v : V), vs = [v] ∧
  ((∃ a ws, v = V.ref a ∧ Tab K H a ws ∧ Good ws ∧ ∀ H', Same H H' → Q .non H') ∨ (TabBad K H v ∧ ∀ H', Same H H' → E (.ref C) none H'))
theorem ok_need_wishesX {C : Addr} {f : Addr} {fd : FuncData} (F : Fun K "need_wishes" "need_wishes" s_need_wishes f fd) (T : Own mg) (M : ∃ t, mg "MOST_GUESTS" = some (.int 6 t)) (W : ErrC K mg "BadWishes" C) (C1 : CalX P w K mg base 2 "need_row" ["row", "guest", "many"] (sp_need_rowX K C)) :
    FnOk P w K mg base (L2.CX P w) 3 f fd ["wishes"] (sp_need_wishesX K C) := by
  obtain ⟨g1, gd1, G1, m1, k1, b1⟩ := C1
  obtain ⟨t, mM⟩ := M
  refine F.okX sc_need_wishes (fun vs H Q E h => ?_) (fun cdv A outer s H vs Q E hr h => ?_)
  · obtain ⟨v, rfl, _⟩ := h
    rfl
  obtain ⟨v, rfl, q⟩ := h
  refine ⟨_, pss_cons (ps_if (pt_not (pt_val (pe_callB call_isi (by rfl) T.isI (by decide +kernel) (pa_cons (pv 0) (pa_cons (pe_bltn (v := .ty "list") (by rfl) T.list (by decide +kernel) rfl) pa_nil)))))
      (pss_one (ps_raise rfl (takes_of rfl rfl rfl rfl) (pmk_own PySem.F.excBase_ValueError W.ex W.g W.k (raises_own W.b W.t) (by rfl)))) pss_nil)
    (pss_cons (ps_set (i := 1) sc_need_wishes.nd rfl (Or.inl rfl) (pe_callB call_len_seq (by rfl) T.len PySem.boot_len (pa_cons (pv 0) pa_nil)))
    (pss_cons (ps_if (pt_not (pt_chain op_le op_le pe_int (pv 1) (pe_glob (v := .int 6) rfl mM ⟨_, rfl⟩)))
      (pss_one (ps_raise rfl (takes_of rfl rfl rfl rfl) (pmk_ownA PySem.F.excBase_ValueError W.ex W.g W.k (raises_own W.b W.t) (by rfl)
        (pa_cons (pe_joined (.cons pe_str (.cons (pe_fmt (pe_glob (v := .int 6) rfl mM ⟨_, rfl⟩)) (.cons pe_str (.cons (pe_fmt (pv 1)) .nil))))) pa_nil)))) pss_nil)
    (pss_one (ps_for (passes_of rfl) rfl (pi_enum (by rfl) T.enm (pa_cons (pv 0) pa_nil))
      (pg_tup (by rfl) (pgs_cons (pg_name (i := 2) sc_need_wishes.nd rfl (Or.inl rfl)) (pgs_cons (pg_name (i := 3) sc_need_wishes.nd rfl (Or.inl rfl)) pgs_nil)))
      (pss_one (ps_expr (pe_call G1 hr (by rfl) m1 k1 b1 .nil (passes_call (takes_of rfl rfl rfl rfl) fun _ _ _ _ h => h) (pa_cons (pv 3) (pa_cons (pv 2) (pa_cons (pv 1) pa_nil)))))))))), ?_⟩
  -- the rows one by one, until one is bad
  rcases q with ⟨a, ws, rfl, hT, hG, q⟩ | ⟨⟨t, ty, hk⟩ | ⟨a, xs, rfl, hS, hl⟩ | ⟨a, xs, g, x, rfl, hS, l1, l6, hg, hbef, hbad⟩, q⟩
  · obtain ⟨as, h1, h2, h3⟩ := id hT
    have hl : (as.map V.ref).length = ws.length := by rw [List.length_map]; exact h2
    have lo := hG.lo
    have hi := hG.hi
    refine ⟨_, rfl, _, _, _, _, _, rfl, .ty _, ty_list h1, kit_ll, _, rfl, iteF ?_⟩
    refine ⟨_, rfl, a, _, rfl, .inl h1, ?_⟩
    rw [hl]
    refine ⟨_, rfl, _, _, rfl, rfl, _, rfl, ?_⟩
    rw [decide_eq_true (show (1 : Int) ≤ ((ws.length : Nat) : Int) by omega)]
    refine iteT ⟨_, _, rfl, rfl, _, rfl, ?_⟩
    rw [decide_eq_true (show ((ws.length : Nat) : Int) ≤ 6 by omega)]
    refine iteF ?_
    refine ⟨_, rfl, a, _, rfl, h1, for_it walk_enum (fun i σ H' => Same H H' ∧ ∃ y z, σ = [some (.ref a), some (.int ws.length), y, z])
      ⟨Same.refl H, none, none, rfl⟩ (fun i σ H' _ h => h.1.seq h1) ?_ ?_⟩
    · rintro i x σ H' H2 hi' ⟨hs, y, z, rfl⟩ ⟨t, x1, x2, rfl, ht, rfl, ex1, ex2⟩
      rw [hl] at hi'
      cases ex1
      obtain ⟨b, hb, hsb⟩ := h3 i ws[i] (List.getElem?_eq_getElem hi')
      change (as.map V.ref)[i]? = some x2 at ex2
      rw [List.getElem?_map, hb] at ex2
      cases ex2
      have hs2 := hs.trans (same_new ht (.tup [V.int (i : Nat), V.ref b]))
      refine ⟨t, _, rfl, SqT.of upd_same, rfl, _, _, rfl, _, _, rfl, rfl, ?_⟩
      exact ⟨_, rfl, _, rfl, _, rfl, _, (i : Int), ws.length, rfl, by omega, by omega, .inl ⟨b, ws[i], rfl, hs2.seq hsb, hG.row i _ (List.getElem?_eq_getElem hi'), hs2, _, _, rfl⟩⟩
    · rintro σ H' ⟨hs, y, z, rfl⟩
      exact q H' hs
  · exact ⟨_, rfl, _, _, _, _, _, rfl, .ty _, ty, hk, _, rfl, iteT (q H (Same.refl H))⟩
  · refine ⟨_, rfl, _, _, _, _, _, rfl, .ty _, ty_list hS, kit_ll, _, rfl, iteF ?_⟩
    refine ⟨_, rfl, a, _, rfl, .inl hS, ?_⟩
    have txt : tJs [tC (.str ("there are from one to " : Str)), tFmt (tC (.int 6)), tC (.str (" guests, not " : Str)), tFmt (tVar 1)] Str.empty [some (V.ref a), some (.int (xs.length : Nat)), none, none] H (fun out H1 => ([V.str out] : List V).length ≤ sizeLine ∧ E (.ref C) none H1) :=
      js_small _ _ _ (fun t ht => by
        rcases List.mem_cons.mp ht with e | ht
        · rw [e]; exact sm_str (by decide +kernel)
        rcases List.mem_cons.mp ht with e | ht
        · rw [e]; exact sm_fmt (g := 6) (fun Q q => q) (by decide) (by decide)
        rcases List.mem_cons.mp ht with e | ht
        · rw [e]; exact sm_str (by decide +kernel)
        rw [List.mem_singleton] at ht
        rw [ht]
        exact sm_fmt (g := ((xs.length : Nat) : Int)) (fun Q q => ⟨_, rfl, q⟩) (by omega) (by omega)) (by rw [show Str.empty.length = 0 from rfl]; show 0 + 1000 * 4 ≤ 1000000; decide) fun out => ⟨(by show 1 ≤ sizeLine; decide), q H (Same.refl H)⟩
    refine ⟨_, rfl, _, _, rfl, rfl, _, rfl, ?_⟩
    rcases hl with hl | hl
    · rw [decide_eq_false (show ¬ (1 : Int) ≤ ((xs.length : Nat) : Int) by omega)]
      exact ⟨_, rfl, txt⟩
    · rw [decide_eq_true (show (1 : Int) ≤ ((xs.length : Nat) : Int) by omega)]
      refine iteT ⟨_, _, rfl, rfl, _, rfl, ?_⟩
      rw [decide_eq_false (show ¬ ((xs.length : Nat) : Int) ≤ 6 by omega)]
      exact txt
  · refine ⟨_, rfl, _, _, _, _, _, rfl, .ty _, ty_list hS, kit_ll, _, rfl, iteF ?_⟩
    refine ⟨_, rfl, a, _, rfl, .inl hS, ?_⟩
    refine ⟨_, rfl, _, _, rfl, rfl, _, rfl, ?_⟩
    rw [decide_eq_true (show (1 : Int) ≤ ((xs.length : Nat) : Int) by omega)]
    refine iteT ⟨_, _, rfl, rfl, _, rfl, ?_⟩
    rw [decide_eq_true (show ((xs.length : Nat) : Int) ≤ 6 by omega)]
    refine iteF ?_
    refine ⟨_, rfl, a, _, rfl, hS, for_it walk_enum (fun i σ H' => Same H H' ∧ i ≤ g ∧ ∃ y z, σ = [some (.ref a), some (.int xs.length), y, z])
      ⟨Same.refl H, Nat.zero_le _, none, none, rfl⟩ (fun i σ H' _ h => h.1.seq hS) ?_ ?_⟩
    · rintro i u σ H' H2 hi' ⟨hs, hig, y, z, rfl⟩ ⟨t, x1, x2, rfl, ht, rfl, ex1, ex2⟩
      cases ex1
      change xs[i]? = some x2 at ex2
      have hs2 := hs.trans (same_new ht (.tup [V.int (i : Nat), x2]))
      refine ⟨t, _, rfl, SqT.of upd_same, rfl, _, _, rfl, _, _, rfl, rfl, ?_⟩
      by_cases c : i = g
      · subst c
        rw [hg] at ex2
        cases ex2
        exact ⟨_, rfl, _, rfl, _, rfl, _, (i : Int), xs.length, rfl, by omega, by omega, .inr ⟨hbad.same hs2, q _ hs2⟩⟩
      · obtain ⟨b, r, hb, hsb, hgr⟩ := hbef i (by omega)
        rw [hb] at ex2
        cases ex2
        exact ⟨_, rfl, _, rfl, _, rfl, _, (i : Int), xs.length, rfl, by omega, by omega, .inl ⟨b, r, rfl, hs2.seq hsb, hgr, hs2, by omega, _, _, rfl⟩⟩
    · rintro σ H' ⟨hs, hig, _⟩
      have := (List.getElem?_eq_some_iff.mp hg).1
      omega

/-! ### Whoever asks need_wishes first refuses as it does -/
theorem pe_no {X : Cx} {e : Expr} : PE X e (fun _ _ _ => False) := ⟨fun _ _ _ _ _ _ h => h.elim⟩
theorem pt_no {X : Cx} {e : Expr} : PT X e (fun _ _ _ => False) := ⟨fun _ _ _ _ _ _ h => h.elim⟩
def sp_bad (K : PySem.W.Frag) (C : Addr) (n : Nat) : Sp := fun vs H _ E => vs.length = n ∧ ∃ v r, vs = v :: r ∧ TabBad K H v ∧ ∀ H', Same H H' → E (.ref C) none H'

theorem pss_no {X : Cx} {st : List Stmt} : PSs X st (fun _ _ _ => False) := ⟨fun _ _ _ _ _ _ h => h.elim⟩
end
end B2

namespace B2
open PySem L2
/-! ### What the defs that may raise promise to those who hand in what is right -/
theorem codeAny_up {P : Program} {w : World} {K : PySem.W.Frag} {mg : Str → Option Value} {base : Heap} {k : Nat} {f : Addr} {fd : FuncData} {ps : List Str} {sp : Sp} (F : FnOk P w K mg base CX0 k f fd ps sp) : FnOk P w K mg base (L2.CX P w) k f fd ps sp := by
  refine ⟨F.len, fun A outer s H args us vs Q E hr he hb hv hs => ?_⟩
  refine codeAny_mono (F.run A outer s H args us vs Q E hr he hb hv hs) fun r s' c => ?_
  cases r with
  | ok v => cases v <;> exact c
  | error e => exact (show False from c).elim
theorem fn_calm {P : Program} {w : World} {K : PySem.W.Frag} {mg : Str → Option Value} {base : Heap} {k : Nat} {f : Addr} {fd : FuncData} {ps : List Str} {sp sp' : Sp} (F : FnOk P w K mg base (L2.CX P w) k f fd ps sp)
    (h : ∀ vs H Q E, sp' vs H Q E → sp vs H Q (fun _ _ _ => False)) : FnOk P w K mg base CX0 k f fd ps sp' := by
  refine ⟨fun vs H Q E q => F.len vs H Q _ (h _ _ _ _ q), fun A outer s H args us vs Q E hr he hb hv hs => ?_⟩
  refine codeAny_mono (F.run A outer s H args us vs Q _ hr he hb hv (h _ _ _ _ hs)) fun r s' c => ?_
  cases r with
  | ok v => cases v <;> exact c
  | error e =>
    obtain ⟨_, _, _, _, _, _, _, _, _, _, _, _, z⟩ := (show L2.CX P w outer H s (fun _ _ _ => False) e s' from c)
    exact z.elim
theorem CalX.calm {P : Program} {w : World} {K : PySem.W.Frag} {mg : Str → Option Value} {base : Heap} {k : Nat} {x : Str} {ps : List Str} {sp sp' : Sp} (C : CalX P w K mg base k x ps sp)
    (h : ∀ vs H Q E, sp' vs H Q E → sp vs H Q (fun _ _ _ => False)) : Cal P w K mg base k x ps sp' := by
  obtain ⟨g, gd, G, m, kk, b⟩ := C
  exact ⟨g, gd, fn_calm G h, m, kk, b⟩
theorem CalX.imp {P : Program} {w : World} {K : PySem.W.Frag} {mg : Str → Option Value} {base : Heap} {k : Nat} {x : Str} {ps : List Str} {sp sp' : Sp} (C : CalX P w K mg base k x ps sp)
    (h : ∀ vs H Q E, sp' vs H Q E → sp vs H Q E) : CalX P w K mg base k x ps sp' := by
  obtain ⟨g, gd, G, m, kk, b⟩ := C
  exact ⟨g, gd, G.imp h, m, kk, b⟩
theorem Cal.imp {P : Program} {w : World} {K : PySem.W.Frag} {mg : Str → Option Value} {base : Heap} {k : Nat} {x : Str} {ps : List Str} {sp sp' : Sp} (C : Cal P w K mg base k x ps sp)
    (h : ∀ vs H Q E, sp' vs H Q E → sp vs H Q E) : Cal P w K mg base k x ps sp' := by
  obtain ⟨g, gd, G, m, kk, b⟩ := C
  exact ⟨g, gd, G.imp h, m, kk, b⟩
end B2

namespace B2
open PySem L2
section
variable {P : Program} {w : World} {K : PySem.W.Frag} {mg : Str → Option Value} {base : Heap}
def sp_is_guest : Sp := fun vs H Q _ => ∃ (i n : Int), vs = [.int i, .int n] ∧ Q (.bl (decide (0 ≤ i ∧ i < n))) H
theorem cal_is_guest (D : Cal P w K mg base 1 "is_guest" ["number", "many"] (sp_is_guestX K)) : Cal P w K mg base 1 "is_guest" ["number", "many"] sp_is_guest :=
  D.imp fun vs H Q E ⟨i, n, e, q⟩ => ⟨.int i, n, e, .inl ⟨i, rfl, q⟩⟩
def sp_need_wishes (K : PySem.W.Frag) : Sp := fun vs H Q _ => ∃ (a : Addr) (ws : List (List Int)), vs = [.ref a] ∧ Tab K H a ws ∧ Good ws ∧ ∀ H', Same H H' → Q .non H'
theorem cal_need_wishes {C : Addr} (D : CalX P w K mg base 3 "need_wishes" ["wishes"] (sp_need_wishesX K C)) : Cal P w K mg base 3 "need_wishes" ["wishes"] (sp_need_wishes K) :=
  D.calm fun vs H Q E ⟨a, ws, e, hT, hG, q⟩ => ⟨.ref a, e, .inl ⟨a, ws, rfl, hT, hG, q⟩⟩

/-! ### need_guest -/
theorem sc_need_guest : FnScope ["wishes", "guest"] ["wishes", "guest"] (defScope s_need_guest) := ⟨rfl, rfl, rfl, by decide +kernel, rfl, by decide +kernel, by decide +kernel⟩
/-- no guest, of n -/
def GuestBad (K : PySem.W.Frag) (H : Hp) (n : Nat) (x : V) : Prop := NotInt K H x ∨ ∃ i : Int, x = V.int i ∧ ¬ (0 ≤ i ∧ i < (n : Int))
theorem GuestBad.same {H H' : Hp} {n : Nat} {x : V} (h : GuestBad K H n x) (e : Same H H') : GuestBad K H' n x := by
  rcases h with h | h
  · exact .inl (h.same e)
  · exact .inr h
def sp_need_guestX (K : PySem.W.Frag) (C : Addr) : Sp := fun vs H Q E => ∃ (a : Addr) (xs : List V) (x : V), vs = [.ref a, x] ∧ SqL K H a xs ∧ 1 ≤ xs.length ∧ xs.length ≤ 6 ∧
  ((∃ i : Int, x = V.int i ∧ 0 ≤ i ∧ i < (xs.length : Int) ∧ Q .non H) ∨ (GuestBad K H xs.length x ∧ E (.ref C) none H))
theorem ok_need_guestX {C : Addr} {f : Addr} {fd : FuncData} (F : Fun K "need_guest" "need_guest" s_need_guest f fd) (T : Own mg) (W : ErrC K mg "BadGuest" C) (C1 : Cal P w K mg base 1 "is_guest" ["number", "many"] (sp_is_guestX K)) :
    FnOk P w K mg base (L2.CX P w) 2 f fd ["wishes", "guest"] (sp_need_guestX K C) := by
  obtain ⟨g1, gd1, G1, m1, k1, b1⟩ := C1
  refine F.okX sc_need_guest (fun vs H Q E h => ?_) (fun cdv A outer s H vs Q E hr h => ?_)
  · obtain ⟨a, xs, x, rfl, _⟩ := h
    rfl
  obtain ⟨a, xs, x, rfl, hS, l1, l6, q⟩ := h
  refine ⟨_, pss_one (ps_if (pt_not (pt_val (pe_call G1 hr (by rfl) m1 k1 b1 .nil pass0 (pa_cons (pv 1) (pa_cons (pe_callB call_len_seq (by rfl) T.len PySem.boot_len (pa_cons (pv 0) pa_nil)) pa_nil)))))
    (pss_one (ps_raise rfl (takes_of rfl rfl rfl rfl) (pmk_ownA PySem.F.excBase_ValueError W.ex W.g W.k (raises_own W.b W.t) (by rfl)
      (pa_cons (pe_joined (.cons pe_str (.cons (pe_fmt (pe_op op_sub (pe_callB call_len_seq (by rfl) T.len PySem.boot_len (pa_cons (pv 0) pa_nil)) pe_int)) .nil))) pa_nil)))) pss_nil), ?_⟩
  rcases q with ⟨i, rfl, i0, i1, q⟩ | ⟨hN | ⟨i, rfl, hi⟩, q⟩
  · refine ⟨_, rfl, _, rfl, a, xs, rfl, .inl hS, _, _, rfl, .inl ⟨i, rfl, _, rfl, ?_⟩⟩
    rw [decide_eq_true (And.intro i0 i1)]
    exact iteF q
  · refine ⟨_, rfl, _, rfl, a, xs, rfl, .inl hS, _, _, rfl, .inr ⟨hN, _, rfl, iteT ?_⟩⟩
    exact js_small _ _ _ (fun t ht => by
      rcases List.mem_cons.mp ht with e | ht
      · rw [e]; exact sm_str (by decide +kernel)
      rw [List.mem_singleton] at ht
      rw [ht]; exact sm_fmt (g := (xs.length : Int) - 1) (fun Q q => ⟨_, rfl, a, xs, rfl, .inl hS, _, _, rfl, rfl, q⟩) (by omega) (by omega)) (by rw [show Str.empty.length = 0 from rfl]; show 0 + 1000 * 2 ≤ 1000000; decide) fun out => ⟨(by show 1 ≤ sizeLine; decide), q⟩
  · refine ⟨_, rfl, _, rfl, a, xs, rfl, .inl hS, _, _, rfl, .inl ⟨i, rfl, _, rfl, ?_⟩⟩
    rw [decide_eq_false hi]
    exact iteT (js_small _ _ _ (fun t ht => by
      rcases List.mem_cons.mp ht with e | ht
      · rw [e]; exact sm_str (by decide +kernel)
      rw [List.mem_singleton] at ht
      rw [ht]; exact sm_fmt (g := (xs.length : Int) - 1) (fun Q q => ⟨_, rfl, a, xs, rfl, .inl hS, _, _, rfl, rfl, q⟩) (by omega) (by omega)) (by rw [show Str.empty.length = 0 from rfl]; show 0 + 1000 * 2 ≤ 1000000; decide) fun out => ⟨(by show 1 ≤ sizeLine; decide), q⟩)
end
end B2

namespace B2
open PySem L2
section
variable {P : Program} {w : World} {K : PySem.W.Frag} {mg : Str → Option Value} {base : Heap}

/-! ### in_both -/
theorem sc_in_both : FnScope ["wishes", "one", "other"] ["wishes", "one", "other"] (defScope s_in_both) := ⟨rfl, rfl, rfl, by decide +kernel, rfl, by decide +kernel, by decide +kernel⟩
def sp_in_both (K : PySem.W.Frag) : Sp := fun vs H Q _ => ∃ (a : Addr) (ws : List (List Int)) (i j : Int), vs = [.ref a, .int i, .int j] ∧ Tab K H a ws ∧
  0 ≤ i ∧ i < (ws.length : Int) ∧ 0 ≤ j ∧ j < (ws.length : Int) ∧ Q (.bl (suitsB ws i j)) H
theorem ok_in_both {f : Addr} {fd : FuncData} (F : Fun K "in_both" "in_both" s_in_both f fd) : FnOk P w K mg base CX0 1 f fd ["wishes", "one", "other"] (sp_in_both K) := by
  refine F.ok sc_in_both (fun vs H Q E h => ?_) (fun cdv A outer s H vs Q E hr h => ?_)
  · obtain ⟨a, ws, i, j, rfl, _⟩ := h
    rfl
  obtain ⟨a, ws, i, j, rfl, hT, i0, i1, j0, j1, q⟩ := h
  refine ⟨_, pss_one (ps_ret (pe_and (pe_cmpR op_in_seq (pv 2) (pe_ix ix_list (pv 0) (pv 1) (fun _ _ => rfl)) (by rfl))
    (pe_one (pe_cmpR op_in_seq (pv 1) (pe_ix ix_list (pv 0) (pv 2) (fun _ _ => rfl)) (by rfl))))), ?_⟩
  obtain ⟨as, h1, h2, h3⟩ := hT.at
  obtain ⟨bi, hbi, hsi⟩ := h3 i i0 i1
  obtain ⟨bj, hbj, hsj⟩ := h3 j j0 j1
  refine ⟨_, rfl, _, rfl, _, rfl, a, _, _, _, rfl, rfl, h1, hbi, bi, _, rfl, .inl hsi, rfl, flat_ints _, _, rfl, ?_⟩
  show if inV (.int j) ((rowOf ws i).map V.int) = true then _ else _
  rw [inV_int]
  refine ite2 (fun c => ?_) (fun c => ?_)
  · refine ⟨_, rfl, _, rfl, _, rfl, a, _, _, _, rfl, rfl, h1, hbj, bj, _, rfl, .inl hsj, rfl, flat_ints _, ?_⟩
    show Q (.bl (inV (.int i) ((rowOf ws j).map V.int))) H
    rw [inV_int]
    have e : suitsB ws i j = decide (i ∈ rowOf ws j) := by unfold suitsB; rw [c, Bool.true_and]
    rw [← e]; exact q
  · have e : suitsB ws i j = false := by unfold suitsB; rw [Bool.eq_false_iff.mpr c, Bool.false_and]
    rw [e] at q; exact q

/-! ### is_ahead -/
theorem sc_is_ahead : FnScope ["wishes", "guest", "one", "other", "row"] ["wishes", "guest", "one", "other"] (defScope s_is_ahead) := ⟨rfl, rfl, rfl, by decide +kernel, rfl, by decide +kernel, by decide +kernel⟩
def sp_is_ahead (K : PySem.W.Frag) : Sp := fun vs H Q _ => ∃ (a : Addr) (ws : List (List Int)) (g : Int) (x y : Option Int), vs = [.ref a, .int g, ov x, ov y] ∧ Tab K H a ws ∧
  0 ≤ g ∧ g < (ws.length : Int) ∧ OkO ws.length x ∧ OkO ws.length y ∧ Q (.bl (aheadB ws g x y)) H
theorem ok_is_ahead {f : Addr} {fd : FuncData} (F : Fun K "is_ahead" "is_ahead" s_is_ahead f fd) (C1 : Cal P w K mg base 1 "in_both" ["wishes", "one", "other"] (sp_in_both K)) :
    FnOk P w K mg base CX0 2 f fd ["wishes", "guest", "one", "other"] (sp_is_ahead K) := by
  obtain ⟨g1, gd1, G1, m1, k1, b1⟩ := C1
  refine F.ok sc_is_ahead (fun vs H Q E h => ?_) (fun cdv A outer s H vs Q E hr h => ?_)
  · obtain ⟨a, ws, g, x, y, rfl, _⟩ := h
    rfl
  obtain ⟨a, ws, g, x, y, rfl, hT, g0, g1, hx, hy, q⟩ := h
  refine ⟨_, pss_cons (ps_if (PW.pt (pw_or (pt_cmpR op_eq (pv 2) (pv 3) (nomark _)) (pw_or (pt_cmpR op_isN (pv 2) pe_non (nomark _))
      (pw_or1 (pt_not (pt_val (pe_call G1 hr (by rfl) m1 k1 b1 .nil pass0 (pa_cons (pv 0) (pa_cons (pv 1) (pa_cons (pv 2) pa_nil))))))))))
      (pss_one (ps_ret pe_bl)) pss_nil)
    (pss_cons (ps_if (PW.pt (pw_or (pt_cmpR op_isN (pv 3) pe_non (nomark _))
      (pw_or1 (pt_not (pt_val (pe_call G1 hr (by rfl) m1 k1 b1 .nil pass0 (pa_cons (pv 0) (pa_cons (pv 1) (pa_cons (pv 3) pa_nil)))))))))
      (pss_one (ps_ret pe_bl)) pss_nil)
    (pss_cons (ps_set (i := 4) sc_is_ahead.nd rfl (Or.inl rfl) (pe_ix ix_list (pv 0) (pv 1) (fun _ _ => rfl)))
    (pss_one (ps_ret (pe_cmpR op_lt
      (pe_bm PySem.F.plainAttrs_list PySem.F.slot_list_index PySem.F.type_list_index mt_index (pv 4) (pa_cons (pv 2) pa_nil))
      (pe_bm PySem.F.plainAttrs_list PySem.F.slot_list_index PySem.F.type_list_index mt_index (pv 4) (pa_cons (pv 3) pa_nil)) (nomark _)))))), ?_⟩
  refine ⟨_, rfl, _, rfl, (by cases x <;> cases y <;> rfl), _, rfl, ?_⟩
  rw [ov_dec]
  refine ite2 (fun c => ?_) (fun c => ?_)
  · have c' : x = y := of_decide_eq_true c
    subst c'
    have e : aheadB ws g x x = false := by
      cases x with
      | none => rfl
      | some a =>
        show (if a = a then false else _) = false
        rw [if_pos rfl]
    rw [e] at q; exact q
  have c' : ¬ x = y := of_decide_eq_false (Bool.eq_false_iff.mpr c)
  refine ⟨_, rfl, rfl, _, rfl, ?_⟩
  cases x with
  | none => exact iteT q
  | some x =>
  refine iteF ?_
  refine ⟨_, rfl, _, rfl, _, rfl, a, ws, g, x, rfl, hT, g0, g1, hx.1, hx.2, _, rfl, ?_⟩
  cases e1 : suitsB ws g x with
  | false =>
    refine iteT ?_
    have e : aheadB ws g (some x) y = false := by
      cases y with
      | none => exact e1
      | some y =>
        show (if x = y then false else _) = false
        rw [if_neg (fun z => c' (congrArg some z)), e1]
        rfl
    rw [e] at q; exact q
  | true =>
  refine iteF ?_
  refine ⟨_, rfl, rfl, _, rfl, ?_⟩
  cases y with
  | none =>
    have e : aheadB ws g (some x) none = true := e1
    rw [e] at q
    exact iteT q
  | some y =>
  refine iteF ?_
  refine ⟨_, rfl, _, rfl, _, rfl, a, ws, g, y, rfl, hT, g0, g1, hy.1, hy.2, _, rfl, ?_⟩
  have e0 : aheadB ws g (some x) (some y) = if suitsB ws g y = true then decide ((rowOf ws g).idxOf x < (rowOf ws g).idxOf y) else true := by
    show (if x = y then false else _) = _
    rw [if_neg (fun z => c' (congrArg some z)), if_pos e1]
  rw [e0] at q
  cases e2 : suitsB ws g y with
  | false =>
    rw [e2] at q
    exact iteT q
  | true =>
  rw [e2, if_pos rfl] at q
  refine iteF ?_
  obtain ⟨as, h1, h2, h3⟩ := hT.at
  obtain ⟨b, hb, hs⟩ := h3 g g0 g1
  obtain ⟨p1, p2⟩ := index_at x (rowOf ws g) (suitsB_mem e1).1
  obtain ⟨r1, r2⟩ := index_at y (rowOf ws g) (suitsB_mem e2).1
  refine ⟨_, rfl, _, rfl, a, _, _, _, rfl, rfl, h1, hb, ?_⟩
  refine ⟨_, rfl, .inl ⟨rfl, _, hs⟩, _, rfl, b, _, _, _, _, rfl, rfl, hs, rfl, flat_ints _, p1, (by show (x == x) = true; exact beq_self_eq_true x), p2, ?_⟩
  refine ⟨_, rfl, .inl ⟨rfl, _, hs⟩, _, rfl, b, _, _, _, _, rfl, rfl, hs, rfl, flat_ints _, r1, (by show (y == y) = true; exact beq_self_eq_true y), r2, ?_⟩
  refine ⟨_, _, rfl, rfl, ?_⟩
  have e3 : decide ((((rowOf ws g).idxOf x : Nat) : Int) < (((rowOf ws g).idxOf y : Nat) : Int)) = decide ((rowOf ws g).idxOf x < (rowOf ws g).idxOf y) := by
    by_cases z : (rowOf ws g).idxOf x < (rowOf ws g).idxOf y
    · rw [decide_eq_true z, decide_eq_true (by omega)]
    · rw [decide_eq_false z, decide_eq_false (by omega)]
  show Q (.bl (decide ((((rowOf ws g).idxOf x : Nat) : Int) < (((rowOf ws g).idxOf y : Nat) : Int)))) H
  rw [e3]; exact q
end
end B2

namespace B2
open PySem L2
section
variable {P : Program} {w : World} {K : PySem.W.Frag} {mg : Str → Option Value} {base : Heap}

/-! ### restless_pairs -/
theorem sc_restless_pairs : FnScope ["wishes", "mates", "many", "one", "other"] ["wishes", "mates"] (defScope s_restless_pairs) := ⟨rfl, rfl, rfl, by decide +kernel, rfl, by decide +kernel, by decide +kernel⟩
def sp_pairs (K : PySem.W.Frag) : Sp := fun vs H Q _ => ∃ (a b : Addr) (ws : List (List Int)) (ms : List (Option Int)), vs = [.ref a, .ref b] ∧ Tab K H a ws ∧ Good ws ∧ SqL K H b (ms.map ov) ∧ OkMates ws ms ∧
  ∀ (H' : Hp) (p : Addr), H p = none → BuiltF tupO H p (wildAll ws ms) H' → Q (.ref p) H'
theorem ok_restless_pairs {f : Addr} {fd : FuncData} (F : Fun K "restless_pairs" "restless_pairs" s_restless_pairs f fd) (T : Own mg) (C1 : Cal P w K mg base 2 "is_ahead" ["wishes", "guest", "one", "other"] (sp_is_ahead K)) :
    FnOk P w K mg base CX0 3 f fd ["wishes", "mates"] (sp_pairs K) := by
  obtain ⟨g1, gd1, G1, m1, k1, b1⟩ := C1
  refine F.ok sc_restless_pairs (fun vs H Q E h => ?_) (fun cdv A outer s H vs Q E hr h => ?_)
  · obtain ⟨a, b, ws, ms, rfl, _⟩ := h
    rfl
  obtain ⟨a, b, ws, ms, rfl, hT, hG, hM, hO, q⟩ := h
  refine ⟨_, pss_cons (ps_set (i := 2) sc_restless_pairs.nd rfl (Or.inr rfl) (pe_callB call_len_seq (by rfl) T.len PySem.boot_len (pa_cons (pv 0) pa_nil)))
    (pss_one (ps_ret (pe_lc2 (own := [("one", 3), ("other", 4)]) (vs1 := [4]) (g := gName 3) (tt := tYes) (g1 := gName 4) rfl sc_restless_pairs.nd (pi_range1 rfl T.rng (pa_cons (pv 2) pa_nil))
      (blkOk_by (N := ["wishes", "mates", "many", "one", "other"]) (sc := defScope s_restless_pairs) (by decide +kernel)) (by decide)
      (fun _ _ _ _ _ => pg_name (i := 3) sc_restless_pairs.nd rfl (Or.inl rfl)) (fun _ _ _ _ _ => pts_nil)
      (fun _ _ _ _ _ => pi_range2 (by rfl) T.rng (pa_cons (pe_op op_add (pv 3) pe_int) (pa_cons (pv 2) pa_nil)))
      (fun _ _ _ _ _ => pg_name (i := 4) sc_restless_pairs.nd rfl (Or.inl rfl))
      (fun _ _ _ _ _ => pts_one (PW.pt (pw_and (pt_val (pe_call G1 hr (by rfl) m1 k1 b1 .nil pass0 (pa_cons (pv 0) (pa_cons (pv 3) (pa_cons (pv 4) (pa_cons (pe_ix (ix_lst (K := K) rfl) (pv 1) (pv 3) (fun _ _ => rfl)) pa_nil))))))
        (pw_and1 (pt_val (pe_call G1 hr (by rfl) m1 k1 b1 .nil pass0 (pa_cons (pv 0) (pa_cons (pv 4) (pa_cons (pv 3) (pa_cons (pe_ix (ix_lst (K := K) rfl) (pv 1) (pv 4) (fun _ _ => rfl)) pa_nil))))))))))
      (fun _ _ _ _ _ => pe_tup (pa_cons (pv 3) (pa_cons (pv 4) pa_nil)))))), ?_⟩
  obtain ⟨as, h1, h2, h3⟩ := id hT
  have hl : (as.map V.ref).length = ws.length := by rw [List.length_map]; exact h2
  have hi := hG.hi
  have hml := hO.len
  refine ⟨_, rfl, a, _, rfl, .inl h1, ?_⟩
  rw [hl]
  refine ⟨_, rfl, (ws.length : Int), rfl, by omega, by omega, fun D hD => ?_⟩
  refine in_it (walk_range (lo := 0) (n := ((ws.length : Nat) : Int).toNat)) (fun i H' => BuiltF tupO H D (wildUp ws ms ws.length i) H')
    (built_start hD) (fun _ _ _ _ => trivial) ?_ ?_
  · rintro i x H1 H2 hin hB ⟨rfl, hx⟩
    obtain rfl : x = V.int (i : Int) := by
      rw [hx]
      show V.int (0 + (i : Int)) = _
      rw [Int.zero_add]
    clear hx
    have hin' : i < ws.length := by omega
    refine ⟨rfl, ?_⟩
    refine ⟨_, rfl, _, _, rfl, rfl, _, rfl, _, _, rfl, ⟨by omega, by omega, by omega, by omega⟩, ?_⟩
    have en : (((ws.length : Nat) : Int) - ((i : Int) + 1)).toNat = ws.length - (i + 1) := by omega
    refine in_it (walk_range (lo := (i : Int) + 1) (n := (((ws.length : Nat) : Int) - ((i : Int) + 1)).toNat)) (fun t H' => BuiltF tupO H D (wildUp ws ms ws.length i ++ wildIn ws ms i t) H')
      (by show BuiltF tupO H D (wildUp ws ms ws.length i ++ []) H2; rw [List.append_nil]; exact hB) (fun _ _ _ _ => trivial) ?_ ?_
    · rintro t x H3 H4 hlt hB2 ⟨rfl, rfl⟩
      have hT4 := hT.same hB2.1
      have hM4 := hB2.1.seq hM
      refine ⟨rfl, ?_⟩
      refine ⟨_, rfl, _, rfl, _, rfl, _, rfl, _, rfl, b, _, _, _, rfl, rfl, hM4, mt_at (ms := ms) (i := (i : Int)) (by omega) (by omega), ?_⟩
      refine ⟨a, ws, (i : Int), some ((i : Int) + 1 + (t : Int)), mt ms (i : Int), rfl, hT4, by omega, by omega, ⟨by omega, by omega⟩, hO.oko (by omega) (by omega), _, rfl, ?_⟩
      have ew : wildIn ws ms i (t + 1) = wildIn ws ms i t ++ (if wild ws ms (i : Int) ((i : Int) + 1 + (t : Int)) = true then [((i : Int), (i : Int) + 1 + (t : Int))] else []) := rfl
      have eu : wild ws ms (i : Int) ((i : Int) + 1 + (t : Int)) = (aheadB ws (i : Int) (some ((i : Int) + 1 + (t : Int))) (mt ms (i : Int)) && aheadB ws ((i : Int) + 1 + (t : Int)) (some (i : Int)) (mt ms ((i : Int) + 1 + (t : Int)))) := rfl
      rw [ew, eu]
      cases e1 : aheadB ws (i : Int) (some ((i : Int) + 1 + (t : Int))) (mt ms (i : Int)) with
      | false =>
        rw [Bool.false_and]
        show BuiltF tupO H D (wildUp ws ms ws.length i ++ (wildIn ws ms i t ++ [])) H4
        rw [List.append_nil]
        exact hB2
      | true =>
        rw [Bool.true_and]
        refine ⟨_, rfl, _, rfl, _, rfl, _, rfl, _, rfl, b, _, _, _, rfl, rfl, hM4, mt_at (ms := ms) (i := (i : Int) + 1 + (t : Int)) (by omega) (by omega), ?_⟩
        refine ⟨a, ws, (i : Int) + 1 + (t : Int), some (i : Int), mt ms ((i : Int) + 1 + (t : Int)), rfl, hT4, by omega, by omega, ⟨by omega, by omega⟩, hO.oko (by omega) (by omega), _, rfl, ?_⟩
        cases e2 : aheadB ws ((i : Int) + 1 + (t : Int)) (some (i : Int)) (mt ms ((i : Int) + 1 + (t : Int))) with
        | false =>
          show BuiltF tupO H D (wildUp ws ms ws.length i ++ (wildIn ws ms i t ++ [])) H4
          rw [List.append_nil]
          exact hB2
        | true =>
          refine ⟨_, rfl, _, rfl, (by show 2 ≤ sizeLine; decide), fun p hp => ?_⟩
          obtain ⟨acc, z1, z2, z3⟩ := built_step (r := ((i : Int), (i : Int) + 1 + (t : Int))) hD hB2 (same_new hp _) hp upd_same
          refine ⟨acc, z1, ?_, ?_⟩
          · have l1 := wildUp_le ws ms ws.length i
            have l2 := wildIn_le ws ms i t
            have l3 : i * ws.length ≤ 6 * 6 := Nat.mul_le_mul (by omega) (by omega)
            rw [z2, List.length_append]
            exact small1000 (by omega)
          · show BuiltF tupO H D (wildUp ws ms ws.length i ++ (wildIn ws ms i t ++ [((i : Int), (i : Int) + 1 + (t : Int))])) _
            rw [← List.append_assoc]
            exact z3
    · intro H' h
      rw [en] at h
      exact h
  · intro H' h
    have e : ((ws.length : Nat) : Int).toNat = ws.length := by omega
    rw [e] at h
    exact q H' D hD h
end
end B2

namespace B2
open PySem L2
section
variable {P : Program} {w : World} {K : PySem.W.Frag} {mg : Str → Option Value} {base : Heap}

/-! ### joined -/
theorem sc_joined : FnScope ["mates", "one", "other", "changed"] ["mates", "one", "other"] (defScope s_joined) := ⟨rfl, rfl, rfl, by decide +kernel, rfl, by decide +kernel, by decide +kernel⟩
def sp_joined (K : PySem.W.Frag) : Sp := fun vs H Q _ => ∃ (b : Addr) (ms : List (Option Int)) (i j : Int), vs = [.ref b, .int i, .int j] ∧ SqL K H b (ms.map ov) ∧ 0 ≤ i ∧ i < (ms.length : Int) ∧ 0 ≤ j ∧ j < (ms.length : Int) ∧
  ∀ (H' : Hp) (p : Addr), Same H H' → H p = none → H' p = some (fm (joinL ms i j)) → Q (.ref p) H'
theorem ok_joined {f : Addr} {fd : FuncData} (F : Fun K "joined" "joined" s_joined f fd) (T : Own mg) : FnOk P w K mg base CX0 1 f fd ["mates", "one", "other"] (sp_joined K) := by
  refine F.ok sc_joined (fun vs H Q E h => ?_) (fun cdv A outer s H vs Q E hr h => ?_)
  · obtain ⟨b, ms, i, j, rfl, _⟩ := h
    rfl
  obtain ⟨b, ms, i, j, rfl, hM, i0, i1, j0, j1, q⟩ := h
  refine ⟨_, pss_cons (ps_set (i := 3) sc_joined.nd rfl (Or.inl rfl) (pe_callTy (T := "list") (call_lof (K := K) rfl) (by rfl) T.list (by decide +kernel) (pa_cons (pv 0) pa_nil)))
    (pss_cons (ps_asg (pv 2) (pg_sub (pv 3) (pv 1) set_list))
    (pss_cons (ps_asg (pv 1) (pg_sub (pv 3) (pv 2) set_list))
    (pss_one (ps_ret (pv 3))))), ?_⟩
  refine ⟨_, rfl, b, _, rfl, .inl hM, fun p hp => ?_⟩
  refine ⟨_, rfl, _, rfl, _, rfl, p, _, _, _, rfl, rfl, upd_same, ixN_of i0 (by rw [List.length_map]; exact i1), ?_⟩
  refine ⟨_, rfl, _, rfl, _, rfl, p, _, _, _, rfl, rfl, upd_same, ixN_of j0 (by rw [List.length_set, List.length_map]; exact j1), ?_⟩
  refine ⟨_, rfl, q _ p (same_put (same_put (same_new hp _) hp _) hp _) hp ?_⟩
  rw [upd_same]
  unfold fm joinL
  rw [List.map_set, List.map_set]
  rfl

/-! ### settled -/
theorem sc_settled : FnScope ["wishes", "mates", "guest", "found", "other"] ["wishes", "mates", "guest"] (defScope s_settled) := ⟨rfl, rfl, rfl, by decide +kernel, rfl, by decide +kernel, by decide +kernel⟩
/-- at p the mates at b, then new ones -/
def MoreAt (H : Hp) (b p : Addr) (ls : List (List (Option Int))) (H' : Hp) : Prop :=
  Same H H' ∧ ∃ bs : List Addr, H' p = some (.lst (V.ref b :: bs.map V.ref)) ∧ bs.length = ls.length ∧ ∀ (i : Nat) (r : List (Option Int)), ls[i]? = some r → ∃ c, bs[i]? = some c ∧ H' c = some (fm r) ∧ c ≠ p ∧ H c = none
def sp_settled (K : PySem.W.Frag) : Sp := fun vs H Q _ => ∃ (a b : Addr) (ws : List (List Int)) (ms : List (Option Int)) (g : Nat), vs = [.ref a, .ref b, .int g] ∧ Tab K H a ws ∧ ws.length ≤ 6 ∧ SqL K H b (ms.map ov) ∧ OkMates ws ms ∧ g < ws.length ∧
  ∀ (H' : Hp) (p : Addr), H p = none → MoreAt H b p (moreL ws ms g) H' → Q (.ref p) H'
theorem ok_settled {f : Addr} {fd : FuncData} (F : Fun K "settled" "settled" s_settled f fd) (T : Own mg) (C1 : Cal P w K mg base 1 "in_both" ["wishes", "one", "other"] (sp_in_both K))
    (C2 : Cal P w K mg base 1 "joined" ["mates", "one", "other"] (sp_joined K)) : FnOk P w K mg base CX0 2 f fd ["wishes", "mates", "guest"] (sp_settled K) := by
  obtain ⟨g1, gd1, G1, m1, k1, b1⟩ := C1
  obtain ⟨g2, gd2, G2, m2, k2, b2⟩ := C2
  refine F.ok sc_settled (fun vs H Q E h => ?_) (fun cdv A outer s H vs Q E hr h => ?_)
  · obtain ⟨a, b, ws, ms, g, rfl, _⟩ := h
    rfl
  obtain ⟨a, b, ws, ms, g, rfl, hT, h6, hM, hO, hg, q⟩ := h
  refine ⟨_, pss_cons (ps_set (i := 3) sc_settled.nd rfl (Or.inl rfl) (pe_lst (pa_cons (pv 1) pa_nil)))
    (pss_cons (ps_if (pt_cmpR op_isN (pe_ix ix_list (pv 1) (pv 2) (fun _ _ => rfl)) pe_non (nomark _))
      (pss_one (ps_for PassesOwn.never rfl (pi_range2 (by rfl) T.rng (pa_cons (pe_op op_add (pv 2) pe_int) (pa_cons (pe_callB call_len_seq (by rfl) T.len PySem.boot_len (pa_cons (pv 0) pa_nil)) pa_nil))) (pg_name (i := 4) sc_settled.nd rfl (Or.inl rfl))
        (pss_one (ps_if (PW.pt (pw_and (pt_cmpR op_isN (pe_ix ix_list (pv 1) (pv 4) (fun _ _ => rfl)) pe_non (nomark _))
          (pw_and1 (pt_val (pe_call G1 hr (by rfl) m1 k1 b1 .nil pass0 (pa_cons (pv 0) (pa_cons (pv 2) (pa_cons (pv 4) pa_nil))))))))
          (pss_one (ps_expr (pe_bm PySem.F.plainAttrs_list PySem.F.slot_list_append PySem.F.type_list_append mt_append (pv 3)
            (pa_cons (pe_call G2 hr (by rfl) m2 k2 b2 .nil pass0 (pa_cons (pv 1) (pa_cons (pv 2) (pa_cons (pv 4) pa_nil)))) pa_nil)))) pss_nil)))) pss_nil)
    (pss_one (ps_ret (pv 3)))), ?_⟩
  have hml := hO.len
  obtain ⟨as, h1, h2, h3⟩ := id hT
  have hl : (as.map V.ref).length = ws.length := by rw [List.length_map]; exact h2
  refine ⟨_, rfl, (by show 1 ≤ sizeLine; decide), fun D hD => ?_⟩
  have s0 := same_new hD (.lst [V.ref b])
  refine ⟨_, rfl, _, rfl, b, _, _, _, rfl, rfl, s0.seq hM, mt_at (ms := ms) (i := (g : Int)) (by omega) (by omega), rfl, _, rfl, ?_⟩
  rw [ov_non]
  cases e1 : mt ms (g : Int) with
  | some k =>
    have e2 : moreL ws ms g = [] := by unfold moreL; rw [e1]; rfl
    refine iteF ⟨_, rfl, q _ D hD ?_⟩
    rw [e2]
    exact ⟨s0, [], upd_same, rfl, fun i r h => by cases h⟩
  | none =>
  have e2 : moreL ws ms g = joinsL ws ms g (ws.length - (g + 1)) := by unfold moreL; rw [if_pos e1]
  refine iteT ?_
  refine ⟨_, rfl, _, _, rfl, rfl, _, rfl, a, _, rfl, .inl (s0.seq h1), _, _, rfl, ⟨by omega, by omega, by rw [hl]; omega, by rw [hl]; omega⟩, ?_⟩
  rw [hl]
  have en : (((ws.length : Nat) : Int) - ((g : Int) + 1)).toNat = ws.length - (g + 1) := by omega
  refine for_range (lo := (g : Int) + 1) (n := (((ws.length : Nat) : Int) - ((g : Int) + 1)).toNat) (fun t σ H' => MoreAt H b D (joinsL ws ms g t) H' ∧ ∃ z, σ = [some (.ref a), some (.ref b), some (.int g), some (.ref D), z])
    ⟨⟨s0, [], upd_same, rfl, fun i r h => by cases h⟩, none, rfl⟩ ?_ ?_
  · rintro t σ H1 hlt ⟨⟨s1, bs, y1, y2, y3⟩, z, rfl⟩
    have hM1 := s1.seq hM
    have hjl := joins_le ws ms g t
    refine ⟨_, rfl, _, rfl, b, _, _, _, rfl, rfl, hM1, mt_at (ms := ms) (i := (g : Int) + 1 + (t : Int)) (by omega) (by omega), rfl, _, rfl, ?_⟩
    rw [ov_non]
    have ej : joinsL ws ms g (t + 1) = joinsL ws ms g t ++ (if (mt ms ((g : Int) + 1 + (t : Int)) = none ∧ suitsB ws (g : Int) ((g : Int) + 1 + (t : Int)) = true) then [joinL ms (g : Int) ((g : Int) + 1 + (t : Int))] else []) := rfl
    cases e3 : mt ms ((g : Int) + 1 + (t : Int)) with
    | some k =>
      refine iteF ⟨?_, _, rfl⟩
      rw [ej, e3, if_neg (by intro z; cases z.1), List.append_nil]
      exact ⟨s1, bs, y1, y2, y3⟩
    | none =>
    refine iteT ?_
    refine ⟨_, rfl, _, rfl, _, rfl, a, ws, (g : Int), (g : Int) + 1 + (t : Int), rfl, hT.same s1, by omega, by omega, by omega, by omega, _, rfl, ?_⟩
    cases e4 : suitsB ws (g : Int) ((g : Int) + 1 + (t : Int)) with
    | false =>
      refine iteF ⟨?_, _, rfl⟩
      rw [ej, e3, e4, if_neg (by intro z; cases z.2), List.append_nil]
      exact ⟨s1, bs, y1, y2, y3⟩
    | true =>
    refine iteT ?_
    refine ⟨_, rfl, .inl ⟨rfl, _, SqL.of y1⟩, _, rfl, _, rfl, _, rfl, b, ms, (g : Int), (g : Int) + 1 + (t : Int), rfl, hM1, by omega, by omega, by omega, by omega, fun H2 p s2 hp hp2 => ?_⟩
    have y12 := s2 _ _ y1
    have npD : p ≠ D := (ne_of_none y1 hp).symm
    refine ⟨D, _, _, rfl, rfl, y12, ?_, ?_, _, rfl⟩
    · rw [List.length_cons, List.length_map, y2]
      exact small1000 (by omega)
    rw [ej, e3, e4, if_pos ⟨rfl, rfl⟩]
    refine ⟨same_put (s1.trans s2) hD _, bs ++ [p], ?_, ?_, fun i r hr' => ?_⟩
    · rw [upd_same, List.map_append]
      rfl
    · rw [List.length_append, List.length_append, y2]
      rfl
    · rw [List.getElem?_append] at hr'
      rw [List.getElem?_append]
      by_cases c : i < (joinsL ws ms g t).length
      · rw [if_pos c] at hr'
        rw [if_pos (by rw [y2]; exact c)]
        obtain ⟨c1, c2, c3, c4, c5⟩ := y3 i r hr'
        exact ⟨c1, c2, by rw [upd_ne c4]; exact s2 _ _ c3, c4, c5⟩
      · rw [if_neg c] at hr'
        rw [if_neg (by rw [y2]; exact c)]
        have i0 : i - (joinsL ws ms g t).length = 0 := by
          have := (List.getElem?_eq_some_iff.mp hr').1
          simp at this
          omega
        rw [i0] at hr'
        cases hr'
        rw [y2, i0]
        exact ⟨p, rfl, by rw [upd_ne npD]; exact hp2, npD, s1.free hp⟩
  · rintro σ H' ⟨h, z, rfl⟩
    rw [en, ← e2] at h
    exact ⟨_, rfl, q H' D hD h⟩

/-! ### all_twos -/
theorem sc_all_twos : FnScope ["wishes", "found", "guest", "mates", "further"] ["wishes"] (defScope s_all_twos) := ⟨rfl, rfl, rfl, by decide +kernel, rfl, by decide +kernel, by decide +kernel⟩
def sp_all_twos (K : PySem.W.Frag) : Sp := fun vs H Q _ => ∃ (a : Addr) (ws : List (List Int)), vs = [.ref a] ∧ Tab K H a ws ∧ Good ws ∧
  ∀ (H' : Hp) (p : Addr), H p = none → BuiltF fm H p (allTwos ws) H' → Q (.ref p) H'
theorem ok_all_twos {f : Addr} {fd : FuncData} (F : Fun K "all_twos" "all_twos" s_all_twos f fd) (T : Own mg) (C1 : Cal P w K mg base 3 "need_wishes" ["wishes"] (sp_need_wishes K))
    (C2 : Cal P w K mg base 2 "settled" ["wishes", "mates", "guest"] (sp_settled K)) : FnOk P w K mg base CX0 4 f fd ["wishes"] (sp_all_twos K) := by
  obtain ⟨g1, gd1, G1, m1, k1, b1⟩ := C1
  obtain ⟨g2, gd2, G2, m2, k2, b2⟩ := C2
  refine F.ok sc_all_twos (fun vs H Q E h => ?_) (fun cdv A outer s H vs Q E hr h => ?_)
  · obtain ⟨a, ws, rfl, _⟩ := h
    rfl
  obtain ⟨a, ws, rfl, hT, hG, q⟩ := h
  have hr2 : Room 2 _ := hr.mono (by decide)
  refine ⟨_, pss_cons (ps_expr (pe_call G1 hr (by rfl) m1 k1 b1 .nil pass0 (pa_cons (pv 0) pa_nil)))
    (pss_cons (ps_set (i := 1) sc_all_twos.nd rfl (Or.inl rfl) (pe_lst (pa_cons (pe_op op_rep (pe_lst (pa_cons pe_non pa_nil)) (pe_callB call_len_seq (by rfl) T.len PySem.boot_len (pa_cons (pv 0) pa_nil))) pa_nil)))
    (pss_cons (ps_for PassesOwn.never rfl (pi_range1 rfl T.rng (pa_cons (pe_callB call_len_seq (by rfl) T.len PySem.boot_len (pa_cons (pv 0) pa_nil)) pa_nil)) (pg_name (i := 2) sc_all_twos.nd rfl (Or.inr rfl))
      (pss_one (ps_setLc2 (i := 1) (own := [("mates", 3), ("further", 4)]) (vs1 := [4]) (g := gName 3) (tt := tYes) (g1 := gName 4) (tt1 := tYes) rfl sc_all_twos.nd rfl rfl (sw_true rfl rfl rfl (by decide +kernel)) (pi_list (pv 1))
        (blkOk_by (N := ["wishes", "found", "guest", "mates", "further"]) (sc := defScope s_all_twos) (by decide +kernel)) (by decide)
        (fun _ _ _ _ _ => pg_name (i := 3) sc_all_twos.nd rfl (Or.inl rfl)) (fun _ _ _ _ _ => pts_nil)
        (fun _ _ _ _ _ => pi_lst (K := K) rfl (pe_call G2 hr2 (by rfl) m2 k2 b2 .nil pass0 (pa_cons (pv 0) (pa_cons (pv 3) (pa_cons (pv 2) pa_nil)))))
        (fun _ _ _ _ _ => pg_name (i := 4) sc_all_twos.nd rfl (Or.inl rfl)) (fun _ _ _ _ _ => pts_nil) (fun _ _ _ _ _ => pv 4))))
    (pss_one (ps_ret (pv 1))))), ?_⟩
  obtain ⟨as0, h1, h2, h3⟩ := id hT
  have hl : (as0.map V.ref).length = ws.length := by rw [List.length_map]; exact h2
  have h6 := hG.hi
  refine ⟨_, rfl, a, ws, rfl, hT, hG, fun H1 s1 => ?_⟩
  refine ⟨(by show 1 ≤ sizeLine; decide), fun N hN => ?_⟩
  have s2 := s1.trans (same_new hN (.lst [V.non]))
  refine ⟨_, rfl, a, _, rfl, .inl (s2.seq h1), ?_⟩
  rw [hl]
  refine ⟨N, (ws.length : Int), _, rfl, rfl, upd_same, by omega, by omega, ?_, fun R hR => ?_⟩
  · show 1 * ((ws.length : Nat) : Int).toNat ≤ sizeLine
    exact le_line (by omega)
  have en : ((ws.length : Nat) : Int).toNat = ws.length := by omega
  rw [en, flat_nones]
  refine ⟨(by show 1 ≤ sizeLine; decide), fun D0 hD0 => ?_⟩
  have s3 := s2.trans (same_new hR (.lst ((List.replicate ws.length (none : Option Int)).map ov)))
  have s4 := s3.trans (same_new hD0 (.lst [V.ref R]))
  have nRD : R ≠ D0 := ne_of_none upd_same hD0
  refine ⟨_, rfl, a, _, rfl, .inl (s4.seq h1), (((as0.map V.ref).length : Nat) : Int), rfl, by rw [hl]; omega, by rw [hl]; omega, ?_⟩
  refine for_range (lo := 0) (n := (((as0.map V.ref).length : Nat) : Int).toNat) (fun g σ H' => ∃ (D : Addr) (y : Option V), σ = [some (.ref a), some (.ref D), y, none, none] ∧ H D = none ∧ BuiltF fm H D (stageL ws g) H')
    ⟨D0, none, rfl, s3.free hD0, s4, [R], upd_same, rfl, fun i r hr' => ?_⟩ ?_ ?_
  · have hi0 : i = 0 := by
      have := (List.getElem?_eq_some_iff.mp hr').1
      have e : (stageL ws 0).length = 1 := rfl
      omega
    subst hi0
    cases hr'
    exact ⟨R, rfl, by rw [upd_ne nRD]; exact upd_same, nRD, s2.free hR⟩
  · rintro g σ H2 hin ⟨D, y, rfl, hD, hB⟩
    have hg : g < ws.length := by rw [hl] at hin; omega
    have ei : (0 : Int) + (g : Int) = (g : Int) := Int.zero_add _
    rw [ei]
    obtain ⟨e2, as, d1, d2, d3⟩ := id hB
    have hsm := stage_small ws h6 g (by omega)
    refine ⟨_, rfl, D, rfl, ⟨_, SqL.of d1⟩, fun D2 hD2 => ?_⟩
    have hD20 : H D2 = none := e2.free hD2
    refine in_it (walk_list (xs := as.map V.ref)) (fun i H' => Same H2 H' ∧ BuiltF fm H D2 (((stageL ws g).take i).flatMap fun ms => settledL ws ms g) H')
      ⟨same_new hD2 _, (built_start hD2).back e2⟩ (fun i H' _ h => h.1.seq (SqL.of d1)) ?_ ?_
    · rintro i x H3 _ hi ⟨e3, hB3⟩ ⟨rfl, hx⟩
      obtain ⟨b, hb, rfl⟩ := map_ref_get hx
      have hi' : i < (stageL ws g).length := by rw [← d2]; exact (List.getElem?_eq_some_iff.mp hb).1
      obtain ⟨b', hb', c2, c3, c4⟩ := d3 i (stageL ws g)[i] (List.getElem?_eq_getElem hi')
      rw [hb] at hb'
      cases hb'
      have hOk := stage_ok ws g (by omega) _ (List.getElem_mem hi')
      have hge : (stageL ws g)[i]? = some (stageL ws g)[i] := List.getElem?_eq_getElem hi'
      generalize (stageL ws g)[i] = ms at c2 hOk hge
      refine ⟨rfl, ?_⟩
      have hT3 := (hT.same e2).same e3
      have hb3 := e3 _ _ c2
      refine ⟨_, rfl, _, rfl, _, rfl, a, b, ws, ms, g, rfl, hT3, h6, SqL.of hb3, hOk, hg, fun H4 p hp hM => ?_⟩
      obtain ⟨e4, bs, r1, r2, r3⟩ := hM
      obtain ⟨hB31, as2, hB32, hB33, hB34⟩ := id hB3
      have npD2 : p ≠ D2 := (ne_of_none hB32 hp).symm
      have hcs : ∀ (j : Nat) (r : List (Option Int)), (settledL ws ms g)[j]? = some r → ∃ c, (b :: bs)[j]? = some c ∧ H4 c = some (fm r) ∧ c ≠ D2 ∧ H c = none := by
        intro j r hj
        unfold settledL at hj
        cases j with
        | zero =>
          cases hj
          exact ⟨b, rfl, e4 _ _ hb3, ne_of_none c2 hD2, c4⟩
        | succ j =>
          rw [List.getElem?_cons_succ] at hj
          obtain ⟨c, q1, q2, q3, q4⟩ := r3 j r hj
          exact ⟨c, q1, q2, (ne_of_none hB32 q4).symm, (e2.trans e3).free q4⟩
      have hcl : (b :: bs).length = (settledL ws ms g).length := by unfold settledL; rw [List.length_cons, List.length_cons, r2]
      have r1' : H4 p = some (.lst ((b :: bs).map V.ref)) := r1
      generalize b :: bs = cs at hcs hcl r1'
      have hst := settled_le (ws := ws) (ms := ms) hg
      have hpl := flatMap_le (fun ms => settledL ws ms g) 6 ((stageL ws g).take i) fun _ _ => Nat.le_trans (settled_le hg) h6
      rw [List.length_take] at hpl
      have hpl2 : (((stageL ws g).take i).flatMap fun ms => settledL ws ms g).length ≤ 300000 := by omega
      refine ⟨p, rfl, ⟨_, SqL.of r1'⟩, ?_⟩
      refine in_it (walk_list (xs := cs.map V.ref)) (fun t H' => Same H2 H' ∧ BuiltF fm H D2 ((((stageL ws g).take i).flatMap fun ms => settledL ws ms g) ++ (settledL ws ms g).take t) H' ∧ H' p = some (.lst (cs.map V.ref)) ∧
          ∀ (j : Nat) (r : List (Option Int)), (settledL ws ms g)[j]? = some r → ∃ c, cs[j]? = some c ∧ H' c = some (fm r) ∧ c ≠ D2 ∧ H c = none)
        ⟨e3.trans e4, by rw [List.take_zero, List.append_nil]; exact hB3.on e4, r1', hcs⟩ (fun t H' _ h => SqL.of h.2.2.1) ?_ ?_
      · rintro t x H5 _ ht ⟨f1, f2, f3, f4⟩ ⟨rfl, hx5⟩
        obtain ⟨c, hc, rfl⟩ := map_ref_get hx5
        have ht' : t < (settledL ws ms g).length := by rw [← hcl]; exact (List.getElem?_eq_some_iff.mp hc).1
        obtain ⟨c', hc', q2, q3, q4⟩ := f4 t (settledL ws ms g)[t] (List.getElem?_eq_getElem ht')
        rw [hc] at hc'
        cases hc'
        refine ⟨rfl, ?_⟩
        obtain ⟨acc, z1, z2, z3⟩ := built_put hD20 f2 q2 q3 q4
        refine ⟨_, rfl, acc, z1, ?_, ?_, ?_, by rw [upd_ne npD2]; exact f3, fun j r hj => ?_⟩
        · rw [z2, List.length_append, List.length_take]
          exact big_line (by omega)
        · exact same_put f1 hD2 _
        · rw [take_one (List.getElem?_eq_getElem ht'), ← List.append_assoc]
          exact z3
        · obtain ⟨c, u1, u2, u3, u4⟩ := f4 j r hj
          exact ⟨c, u1, by rw [upd_ne u3]; exact u2, u3, u4⟩
      · rintro H5 ⟨f1, f2, f3, f4⟩
        refine ⟨f1, ?_⟩
        have e9 : (settledL ws ms g).take (cs.map V.ref).length = settledL ws ms g := List.take_of_length_le (by rw [List.length_map, hcl]; exact Nat.le_refl _)
        rw [e9] at f2
        rw [take_one hge, List.flatMap_append]
        have e : (List.flatMap (fun ms => settledL ws ms g) [ms]) = settledL ws ms g := by
          rw [List.flatMap_cons, List.flatMap_nil, List.append_nil]
        rw [e]
        exact f2
    · rintro H3 ⟨e3, hB3⟩
      rw [List.take_of_length_le (by rw [List.length_map, d2]; exact Nat.le_refl _)] at hB3
      exact ⟨D2, _, rfl, hD20, hB3⟩
  · rintro σ H' ⟨D, y, rfl, hD, hB⟩
    have e : (((as0.map V.ref).length : Nat) : Int).toNat = ws.length := by rw [hl]; omega
    rw [e] at hB
    exact ⟨_, rfl, q H' D hD hB⟩

/-! ### all_calm -/
theorem sc_all_calm : FnScope ["wishes", "mates"] ["wishes"] (defScope s_all_calm) := ⟨rfl, rfl, rfl, by decide +kernel, rfl, by decide +kernel, by decide +kernel⟩
def sp_all_calm (K : PySem.W.Frag) : Sp := fun vs H Q _ => ∃ (a : Addr) (ws : List (List Int)), vs = [.ref a] ∧ Tab K H a ws ∧ Good ws ∧
  ∀ (H' : Hp) (p : Addr), H p = none → BuiltF fm H p (allCalm ws) H' → Q (.ref p) H'
theorem ok_all_calm {f : Addr} {fd : FuncData} (F : Fun K "all_calm" "all_calm" s_all_calm f fd) (C1 : Cal P w K mg base 4 "all_twos" ["wishes"] (sp_all_twos K))
    (C2 : Cal P w K mg base 3 "restless_pairs" ["wishes", "mates"] (sp_pairs K)) : FnOk P w K mg base CX0 5 f fd ["wishes"] (sp_all_calm K) := by
  obtain ⟨g1, gd1, G1, m1, k1, b1⟩ := C1
  obtain ⟨g2, gd2, G2, m2, k2, b2⟩ := C2
  refine F.ok sc_all_calm (fun vs H Q E h => ?_) (fun cdv A outer s H vs Q E hr h => ?_)
  · obtain ⟨a, ws, rfl, _⟩ := h
    rfl
  obtain ⟨a, ws, rfl, hT, hG, q⟩ := h
  have hr3 : Room 3 _ := hr.mono (by decide)
  have hu := hr.units
  refine ⟨_, pss_one (ps_ret (pe_lc (own := [("mates", 1)]) (g := gName 1) rfl sc_all_calm.nd (pi_list (pe_call G1 hr (by rfl) m1 k1 b1 .nil pass0 (pa_cons (pv 0) pa_nil)))
      (blkOk_by (N := ["wishes", "mates"]) (sc := defScope s_all_calm) (by decide +kernel))
      (fun _ _ _ _ _ => pg_name (i := 1) sc_all_calm.nd rfl (Or.inl rfl))
      (fun _ _ _ _ _ => pts_one (pt_cmpR (eq_dat (K := K) rfl hu) (pe_call G2 hr3 (by rfl) m2 k2 b2 .nil pass0 (pa_cons (pv 0) (pa_cons (pv 1) pa_nil))) (pe_lst pa_nil) (nomark _)))
      (fun _ _ _ _ _ => pv 1))), ?_⟩
  have h6 := hG.hi
  refine ⟨_, rfl, a, ws, rfl, hT, hG, fun H1 p hp hB => ?_⟩
  obtain ⟨e1, as, d1, d2, d3⟩ := hB
  refine ⟨p, rfl, ⟨_, SqL.of d1⟩, fun D hD => ?_⟩
  have hD0 : H D = none := e1.free hD
  have hsm := stage_small ws h6 ws.length (Nat.le_refl _)
  refine lc_list (K := K) (a := p) (xs := as.map V.ref) (fun i H' => Same H1 H' ∧ BuiltF fm H D (((allTwos ws).take i).filter fun ms => (wildAll ws ms).isEmpty) H')
    ⟨same_new hD _, (built_start hD).back e1⟩ (fun i H' _ h => h.1.seq (SqL.of d1)) ?_ ?_
  · rintro i x H2 hx ⟨e2, hB2⟩
    obtain ⟨b, hb, rfl⟩ := map_ref_get hx
    have hi' : i < (allTwos ws).length := by rw [← d2]; exact (List.getElem?_eq_some_iff.mp hb).1
    obtain ⟨b', hb', c2, c3, c4⟩ := d3 i (allTwos ws)[i] (List.getElem?_eq_getElem hi')
    rw [hb] at hb'
    cases hb'
    have hOk := stage_ok ws ws.length (Nat.le_refl _) _ (List.getElem_mem hi')
    have hge : (allTwos ws)[i]? = some (allTwos ws)[i] := List.getElem?_eq_getElem hi'
    generalize (allTwos ws)[i] = ms at c2 hOk hge
    rw [take_one hge, List.filter_append]
    have hfl : (((allTwos ws).take i).filter fun ms => (wildAll ws ms).isEmpty).length ≤ 46656 := by
      refine Nat.le_trans (List.length_filter_le _ _) ?_
      rw [List.length_take]
      unfold allTwos
      omega
    refine ⟨rfl, ?_⟩
    have hT2 := (hT.same e1).same e2
    refine ⟨_, rfl, _, rfl, a, b, ws, ms, rfl, hT2, hG, SqL.of (e2 _ _ c2), hOk, fun H3 r hr' hR => ?_⟩
    refine ⟨(by show 0 ≤ sizeLine; decide), fun e he => ?_⟩
    have s4 : Same H3 (upd H3 e (.lst [])) := same_new he _
    have e4 := hR.1.trans s4
    refine ⟨dPs (wildAll ws ms), dPs [], (hR.prs.same s4).dp, .lst (SqL.of upd_same) .nil, dPs_shaped _, dPs_shaped _, _, rfl, ?_⟩
    rw [dPs_nil]
    cases ew : (wildAll ws ms).isEmpty with
    | false =>
      refine iteF ⟨e2.trans e4, ?_⟩
      have e : [ms].filter (fun ms => (wildAll ws ms).isEmpty) = [] := by
        rw [List.filter_cons, ew]; rfl
      rw [e, List.append_nil]
      exact hB2.on e4
    | true =>
      have e : [ms].filter (fun ms => (wildAll ws ms).isEmpty) = [ms] := by
        rw [List.filter_cons, ew]; rfl
      rw [e]
      obtain ⟨acc, z1, z2, z3⟩ := built_put hD0 (hB2.on e4) (e4 _ _ (e2 _ _ c2)) (ne_of_none c2 hD) c4
      refine ⟨_, rfl, acc, z1, ?_, ?_, z3⟩
      · rw [z2]
        exact big_line (by omega)
      · exact same_put (e2.trans e4) hD _
  · rintro H2 ⟨e2, hB2⟩
    rw [List.take_of_length_le (by rw [List.length_map, d2]; exact Nat.le_refl _)] at hB2
    exact q H2 D hD0 hB2
end
end B2

namespace B2
open PySem L2

theorem BuiltF.tabM {K : PySem.W.Frag} {H H' : Hp} {D : Addr} {mss : List (List (Option Int))} (b : BuiltF fm H D mss H') : TabV K H' D (mss.map fun ms => ms.map ov) := by
  obtain ⟨s, as, h1, h2, h3⟩ := b
  refine ⟨as, SqL.of h1, by rw [List.length_map]; exact h2, fun i r hr => ?_⟩
  rw [List.getElem?_map] at hr
  cases e : mss[i]? with
  | none => rw [e] at hr; cases hr
  | some q =>
    rw [e] at hr
    cases hr
    obtain ⟨c, c1, c2, _⟩ := h3 i q e
    exact ⟨c, c1, SqL.of c2⟩
theorem plain_mates (mss : List (List (Option Int))) : ∀ r ∈ (mss.map fun ms => ms.map ov), ∀ v ∈ r, plainV v = true := by
  intro r hr v hv
  obtain ⟨q, _, rfl⟩ := List.mem_map.mp hr
  exact flat_ovs q v hv
end B2

namespace B2
open PySem L2
/-! ### Mates as data -/
theorem eqv_ov : ∀ a b : Option Int, (dV (ov a)).eqv (dV (ov b)) = decide (a = b)
  | none, none => by simp [dV, ov, PyData.eqv]
  | none, some j => by simp [dV, ov, PyData.eqv]
  | some i, none => by simp [dV, ov, PyData.eqv]
  | some i, some j => by
    by_cases h : i = j
    · subst h; simp [dV, ov, PyData.eqv]
    · simp [dV, ov, PyData.eqv, h]
theorem eqvAll_ov : ∀ a b : List (Option Int), PyData.eqvAll ((a.map ov).map dV) ((b.map ov).map dV) = decide (a = b)
  | [], [] => by simp [PyData.eqvAll]
  | [], _ :: _ => by simp [PyData.eqvAll]
  | _ :: _, [] => by simp [PyData.eqvAll]
  | x :: a, y :: b => by
    rw [List.map_cons, List.map_cons, List.map_cons, List.map_cons, PyData.eqvAll, eqv_ov, eqvAll_ov a b]
    by_cases h : x = y
    · by_cases h2 : a = b
      · simp [h, h2]
      · simp [h, h2]
    · simp [h]
theorem dL_eqv (a b : List (Option Int)) : (dL (a.map ov)).eqv (dL (b.map ov)) = decide (a = b) := by
  unfold dL
  rw [PyData.eqv]
  exact eqvAll_ov a b
theorem any_mates (ms : List (Option Int)) : ∀ mss : List (List (Option Int)), (((mss.map fun (m : List (Option Int)) => m.map ov).map dL).any fun z => PyData.eqv z (dL (ms.map ov))) = decide (ms ∈ mss)
  | [] => by simp
  | m :: mss => by
    rw [List.map_cons, List.map_cons, List.any_cons, any_mates ms mss, dL_eqv]
    by_cases h : m = ms
    · simp [h]
    · by_cases h2 : ms ∈ mss
      · simp [h2]
      · have h' : ¬ ms = m := fun z => h z.symm
        simp [h, h2, h']
theorem any_none : ∀ mss : List (List (Option Int)), (((mss.map fun (m : List (Option Int)) => m.map ov).map dL).any fun z => PyData.eqv z PyData.none) = false
  | [] => by simp
  | m :: mss => by
    rw [List.map_cons, List.map_cons, List.any_cons, any_none mss]
    have : (dL (m.map ov)).eqv PyData.none = false := by unfold dL; simp [PyData.eqv]
    rw [this]; rfl

/-! ### A table when one guest's list is another -/
theorem good_set {ws : List (List Int)} (hG : Good ws) {g : Nat} {r : List Int} (hr : GoodRow ws.length (g : Int) r) : Good (ws.set g r) := by
  refine ⟨by rw [List.length_set]; exact hG.lo, by rw [List.length_set]; exact hG.hi, fun i q h => ?_⟩
  rw [List.length_set]
  rw [List.getElem?_set] at h
  by_cases c : g = i
  · rw [if_pos c] at h
    split at h
    · cases h; rw [← c]; exact hr
    · cases h
  · rw [if_neg c] at h
    exact hG.row i q h

/-! ### The Inn -/
theorem roomI {k : Nat} {A : Around} (r : Room k A) : A.units + 65 < cLine := by have := r.un; omega
def inf (t : Addr) (mv : V) : List (Str × V) := putF "_mates" mv (putF "_wishes" (.ref t) [])
theorem wm_ : ¬ (("_wishes" : Str) = "_mates") := by decide +kernel
theorem mw_ : ¬ (("_mates" : Str) = "_wishes") := by decide +kernel
theorem inf_eq (t : Addr) (mv : V) : inf t mv = ([("_wishes", V.ref t), ("_mates", mv)] : List (Str × V)) := by
  show (if ("_wishes" : Str) = "_mates" then [(("_wishes" : Str), mv)] else (("_wishes" : Str), V.ref t) :: putF "_mates" mv []) = ([("_wishes", V.ref t), ("_mates", mv)] : List (Str × V))
  rw [if_neg wm_]
  rfl
theorem inf_w (t : Addr) (mv : V) : (inf t mv).lookup ("_wishes" : Str) = some (.ref t) := by
  unfold inf
  rw [lookup_putF, if_neg wm_, lookup_putF, if_pos rfl]
theorem inf_m (t : Addr) (mv : V) : (inf t mv).lookup ("_mates" : Str) = some mv := by
  unfold inf
  rw [lookup_putF, if_pos rfl]
theorem inf_no (t : Addr) (mv : V) {m : Str} (h1 : ¬ m = "_mates") (h2 : ¬ m = "_wishes") : (inf t mv).lookup m = none := by
  unfold inf
  rw [lookup_putF, if_neg h1, lookup_putF, if_neg h2]
  rfl
theorem inf_put (t : Addr) (mv mv' : V) : putF "_mates" mv' (inf t mv) = inf t mv' := by
  rw [inf_eq, inf_eq]
  show (if ("_wishes" : Str) = "_mates" then _ else (("_wishes" : Str), V.ref t) :: (if ("_mates" : Str) = "_mates" then [(("_mates" : Str), mv')] else _)) = ([("_wishes", V.ref t), ("_mates", mv')] : List (Str × V))
  rw [if_neg wm_, if_pos rfl]
/-- the mates that an Inn keeps: None, or a list of its own -/
def MatesAt (D : Addr → Prop) (H : Hp) (mv : V) (mo : Option (List (Option Int))) : Prop := (mv = .non ∧ mo = none) ∨ ∃ (m : Addr) (ms : List (Option Int)), mv = .ref m ∧ H m = some (fm ms) ∧ mo = some ms ∧ ¬ D m
/-- an Inn stands at p, its table's list at t; D: things of others -/
structure InnAt (C : Addr) (D : Addr → Prop) (H : Hp) (p t : Addr) (ws : List (List Int)) (mo : Option (List (Option Int))) : Prop where
  ob : ∃ dx mv, H p = some (.ins C dx (inf t mv)) ∧ MatesAt D H mv mo
  tb : ∃ as : List Addr, H t = some (.lst (as.map V.ref)) ∧ as.length = ws.length ∧ ∀ (i : Nat) (r : List Int), ws[i]? = some r → ∃ b, as[i]? = some b ∧ H b = some (.lst (r.map V.int)) ∧ ¬ D b
  np : ¬ D p
  nt : ¬ D t
  dm : ∀ x, D x → ∃ o, H x = some o
/-- all stands but what the Inn itself writes -/
def KeepI (H H' : Hp) (p t : Addr) : Prop := ∀ b o, H b = some o → b ≠ p → b ≠ t → H' b = some o
def settleO (ws : List (List Int)) (mo : Option (List (Option Int))) : Option (List (Option Int)) := match mo with
  | none => (allCalm ws).head?
  | some ms => if ms ∈ allCalm ws then some ms else (allCalm ws).head?
theorem InnAt.tab {K : PySem.W.Frag} {C : Addr} {D : Addr → Prop} {H : Hp} {p t : Addr} {ws : List (List Int)} {mo : Option (List (Option Int))} (h : InnAt C D H p t ws mo) : Tab K H t ws := by
  obtain ⟨as, h1, h2, h3⟩ := h.tb
  refine ⟨as, SqL.of h1, h2, fun i r hr => ?_⟩
  obtain ⟨b, b1, b2, _⟩ := h3 i r hr
  exact ⟨b, b1, SqL.of b2⟩
theorem InnAt.on {C : Addr} {D D' : Addr → Prop} {H H' : Hp} {p t : Addr} {ws : List (List Int)} {mo : Option (List (Option Int))} (h : InnAt C D H p t ws mo) (e : Same H H') (hd : ∀ x, D' x → (D x ∨ H x = none) ∧ ∃ o, H' x = some o) : InnAt C D' H' p t ws mo := by
  obtain ⟨⟨dx, mv, h1, hm⟩, ⟨as, h2, h3, h4⟩, np, nt, dm⟩ := h
  have no : ∀ {x : Addr} {o : HO}, H x = some o → ¬ D x → ¬ D' x := fun hx nd z => by
    rcases (hd _ z).1 with q | q
    · exact nd q
    · rw [hx] at q; cases q
  refine ⟨⟨dx, mv, e _ _ h1, ?_⟩, ⟨as, e _ _ h2, h3, fun i r hr => ?_⟩, no h1 np, no h2 nt, fun x hx => (hd x hx).2⟩
  · rcases hm with hm | ⟨m, ms, r1, r2, r3, r4⟩
    · exact .inl hm
    · exact .inr ⟨m, ms, r1, e _ _ r2, r3, no r2 r4⟩
  · obtain ⟨b, b1, b2, b3⟩ := h4 i r hr
    exact ⟨b, b1, e _ _ b2, no b2 b3⟩
/-- things of others may change -/
theorem InnAt.put {C : Addr} {D : Addr → Prop} {H H' : Hp} {p t : Addr} {ws : List (List Int)} {mo : Option (List (Option Int))} (h : InnAt C D H p t ws mo) (e : ∀ b o, H b = some o → ¬ D b → H' b = some o) (hd : ∀ x, D x → ∃ o, H' x = some o) : InnAt C D H' p t ws mo := by
  obtain ⟨⟨dx, mv, h1, hm⟩, ⟨as, h2, h3, h4⟩, np, nt, dm⟩ := h
  refine ⟨⟨dx, mv, e _ _ h1 np, ?_⟩, ⟨as, e _ _ h2 nt, h3, fun i r hr => ?_⟩, np, nt, hd⟩
  · rcases hm with hm | ⟨m, ms, r1, r2, r3, r4⟩
    · exact .inl hm
    · exact .inr ⟨m, ms, r1, e _ _ r2 r4, r3, r4⟩
  · obtain ⟨b, b1, b2, b3⟩ := h4 i r hr
    exact ⟨b, b1, e _ _ b2 b3, b3⟩
theorem refs_ints {as : List Addr} {r : List Int} (h : as.map V.ref = r.map V.int) : as = [] := by
  cases as with
  | nil => rfl
  | cons a as =>
    cases r with
    | nil => cases h
    | cons x r => rw [List.map_cons, List.map_cons] at h; cases (List.cons.inj h).1
theorem refs_mates {as : List Addr} {ms : List (Option Int)} (h : as.map V.ref = ms.map ov) : as = [] := by
  cases as with
  | nil => rfl
  | cons a as =>
    cases ms with
    | nil => cases h
    | cons x r =>
      rw [List.map_cons, List.map_cons] at h
      have := (List.cons.inj h).1
      cases x <;> cases this
structure TxtI (K : PySem.W.Frag) (mg : Str → Option Value) (C fS : Addr) : Prop where
  cl : Cls K C
  nW : NoAttr K C "_wishes"
  nM : NoAttr K C "_mates"
  mS : Meth K C "_settle" fS
section
variable {P : Program} {w : World} {K : PySem.W.Frag} {mg : Str → Option Value} {base : Heap}

/-! ### _settle -/
theorem sc_settle : FnScope ["self", "found"] ["self"] (defScope s_inn_settle) := ⟨rfl, rfl, rfl, by decide +kernel, rfl, by decide +kernel, by decide +kernel⟩
def sp_settle (C : Addr) : Sp := fun vs H Q _ => ∃ (D : Addr → Prop) (p t : Addr) (ws : List (List Int)) (mo : Option (List (Option Int))), vs = [.ref p] ∧ InnAt C D H p t ws mo ∧ Good ws ∧
  ∀ H', (∀ b o, H b = some o → b ≠ p → H' b = some o) → InnAt C D H' p t ws (settleO ws mo) → Q .non H'
theorem ok_settle {C fS : Addr} {f : Addr} {fd : FuncData} (F : Fun K "_settle" "Inn._settle" s_inn_settle f fd) (X : TxtI K mg C fS) (C1 : Cal P w K mg base 5 "all_calm" ["wishes"] (sp_all_calm K)) :
    FnOk P w K mg base CX0 6 f fd ["self"] (sp_settle C) := by
  obtain ⟨g1, gd1, G1, m1, k1, b1⟩ := C1
  refine F.ok sc_settle (fun vs H Q E h => ?_) (fun cdv A outer s H vs Q E hr h => ?_)
  · obtain ⟨D, p, t, ws, mo, rfl, _⟩ := h
    rfl
  obtain ⟨D, p, t, ws, mo, rfl, hI, hG, q⟩ := h
  have hu2 := roomI hr
  refine ⟨_, pss_cons (ps_set (i := 1) sc_settle.nd rfl (Or.inl rfl) (pe_call G1 hr (by rfl) m1 k1 b1 .nil pass0 (pa_cons (pe_fld (pv 0) rfl) pa_nil)))
    (pss_cons (ps_if (pt_cmpR (op_inD hu2) (pe_fld (pv 0) rfl) (pv 1) (by rfl)) (pss_one ps_retN) pss_nil)
    (pss_one (ps_fld (pv 0) (pe_ifExp (pt_truth (pv 1) (by intro _; rfl)) (pe_ix ix_list (pv 1) pe_int (fun _ _ => rfl)) pe_non) rfl))), ?_⟩
  obtain ⟨⟨dx, mv, h1, hm⟩, ⟨as, h2, h3, h4⟩, np, nt, dm⟩ := id hI
  refine ⟨_, rfl, p, C, dx, _, _, rfl, h1, X.cl, X.nW, inf_w _ _, t, ws, rfl, hI.tab, hG, fun H1 L hL hB => ?_⟩
  have e1 := hB.1
  obtain ⟨ls, l1, l2, l3⟩ := id hB.2
  have h1' := e1 _ _ h1
  refine ⟨_, rfl, p, C, dx, _, _, rfl, h1', X.cl, X.nM, inf_m _ _, _, rfl, ?_⟩
  have hfd := hB.tabM (K := K)
  have hdp : Dp K H1 (.ref L) (dLL ((allCalm ws).map fun m => m.map ov)) := hfd.dp (plain_mates _)
  -- what is kept where it stays as it was
  have stay : settleO ws mo = mo → Q .non H1 := fun e => by
    refine q H1 (fun b o hb _ => e1 _ _ hb) ?_
    rw [e]
    exact hI.on e1 fun x hx => ⟨.inl hx, by obtain ⟨o, ho⟩ := dm x hx; exact ⟨o, e1 _ _ ho⟩⟩
  have new : ∀ mv' : V, settleO ws mo = (allCalm ws).head? → MatesAt D H1 mv' (allCalm ws).head? → Q .non (upd H1 p (.ins C dx (inf t mv'))) := fun mv' e hm' => by
    have npt : t ≠ p := ne_of h2 h1 (by intro z; cases z)
    refine q _ (fun b o hb nb => by rw [upd_ne nb]; exact e1 _ _ hb) ?_
    rw [e]
    refine ⟨⟨dx, mv', upd_same, ?_⟩, ⟨as, by rw [upd_ne npt]; exact e1 _ _ h2, h3, fun i r hr' => ?_⟩, np, nt, fun x hx => ?_⟩
    · rcases hm' with hm' | ⟨m, ms, r1, r2, r3, r4⟩
      · exact .inl hm'
      · exact .inr ⟨m, ms, r1, by rw [upd_ne (ne_of r2 h1' (by intro z; cases z))]; exact r2, r3, r4⟩
    · obtain ⟨b, b1, b2, b3⟩ := h4 i r hr'
      exact ⟨b, b1, by rw [upd_ne (ne_of b2 h1 (by intro z; cases z))]; exact e1 _ _ b2, b3⟩
    · obtain ⟨o, ho⟩ := dm x hx
      have : x ≠ p := fun z => np (z ▸ hx)
      exact ⟨o, by rw [upd_ne this]; exact e1 _ _ ho⟩
  have emp : (ls.map V.ref).isEmpty = (allCalm ws).isEmpty := by
    cases hh : allCalm ws with
    | nil => rw [hh] at l2; rw [List.length_eq_zero_iff.mp l2]; rfl
    | cons a l =>
      rw [hh] at l2
      cases ls with
      | nil => cases l2
      | cons b ls => rfl
  have go : settleO ws mo = (allCalm ws).head? → tIf (fun σ H Q => ∃ v, σ[1]? = some (some v) ∧ ∃ k, TruV K v H k ∧ Q k H) (fun σ H Q => ∃ v, σ[1]? = some (some v) ∧ rIxL K v (.int 0) H Q) (fun σ H Q => Q V.non H)
      [some (V.ref p), some (V.ref L)] H1 (fun v H2 => ∃ v0, [some (V.ref p), some (V.ref L)][0]? = some (some v0) ∧ ∃ a C dx fs, v0 = V.ref a ∧ H2 a = some (.ins C dx fs) ∧ Cls K C ∧ NoAttr K C "_mates" ∧ fs.length < 1000 ∧ Q .non (upd H2 a (.ins C dx (putF "_mates" v fs)))) := fun e => by
    have fin : ∀ mv' : V, MatesAt D H1 mv' (allCalm ws).head? → ∃ v0, [some (V.ref p), some (V.ref L)][0]? = some (some v0) ∧ ∃ a C dx fs, v0 = V.ref a ∧ H1 a = some (.ins C dx fs) ∧ Cls K C ∧ NoAttr K C "_mates" ∧ fs.length < 1000 ∧ Q .non (upd H1 a (.ins C dx (putF "_mates" mv' fs))) := fun mv' hm' =>
      ⟨_, rfl, p, C, dx, _, rfl, h1', X.cl, X.nM, by rw [inf_eq]; show 2 < 1000; decide, by rw [inf_put]; exact new mv' e hm'⟩
    refine ⟨_, rfl, _, .inl ⟨_, SqL.of l1, rfl⟩, ?_⟩
    rw [emp]
    cases hh : allCalm ws with
    | nil =>
      refine iteF (fin .non (.inl ⟨rfl, ?_⟩))
      rw [hh]; rfl
    | cons ms l =>
      refine iteT ?_
      obtain ⟨c, c1, c2, c3, c4⟩ := l3 0 ms (by rw [hh]; rfl)
      refine ⟨_, rfl, L, _, _, _, rfl, rfl, SqL.of l1, atI_nat (j := 0) (by rw [List.getElem?_map, c1]; rfl), ?_⟩
      refine fin (.ref c) (.inr ⟨c, ms, rfl, c2, by rw [hh]; rfl, fun z => ?_⟩)
      obtain ⟨o, ho⟩ := dm c z
      rw [c4] at ho; cases ho
  rcases hm with ⟨rfl, rfl⟩ | ⟨m, ms, rfl, r2, rfl, r4⟩
  · refine ⟨.none, _, .non, hdp, by decide +kernel, dLL_shaped _, _, rfl, ?_⟩
    rw [any_none]
    exact iteF (go rfl)
  · refine ⟨dL (ms.map ov), _, .lst (SqL.of (e1 _ _ r2)) (dpAll_plain _ (flat_ovs ms)), hdp, dL_shaped _, dLL_shaped _, _, rfl, ?_⟩
    rw [any_mates]
    by_cases hin : ms ∈ allCalm ws
    · rw [decide_eq_true hin]
      exact iteT (stay (if_pos hin))
    · rw [decide_eq_false hin]
      exact iteF (go (if_neg hin))

/-! ### __init__ -/
theorem sc_inn_init : FnScope ["self", "wishes", "row"] ["self", "wishes"] (defScope s_inn_init) := ⟨rfl, rfl, rfl, by decide +kernel, rfl, by decide +kernel, by decide +kernel⟩
def sp_inn_init (K : PySem.W.Frag) (C : Addr) : Sp := fun vs H Q _ => ∃ (D : Addr → Prop) (p dx a : Addr) (ws : List (List Int)), vs = [.ref p, .ref a] ∧ H p = some (.ins C dx []) ∧ Tab K H a ws ∧ Good ws ∧ ¬ D p ∧ (∀ x, D x → ∃ o, H x = some o) ∧
  ∀ (H' : Hp) (t : Addr), (∀ b o, H b = some o → b ≠ p → H' b = some o) → InnAt C D H' p t ws (allCalm ws).head? → Q .non H'
theorem ok_inn_init {C fS : Addr} {fdS : FuncData} {f : Addr} {fd : FuncData} (F : Fun K "__init__" "Inn.__init__" s_inn_init f fd) (T : Own mg) (X : TxtI K mg C fS) (C1 : Cal P w K mg base 3 "need_wishes" ["wishes"] (sp_need_wishes K))
    (GS : FnOk P w K mg base CX0 6 fS fdS ["self"] (sp_settle C)) (bS : Binds K fdS ["self"] []) : FnOk P w K mg base CX0 7 f fd ["self", "wishes"] (sp_inn_init K C) := by
  obtain ⟨g1, gd1, G1, m1, k1, b1⟩ := C1
  refine F.ok sc_inn_init (fun vs H Q E h => ?_) (fun cdv A outer s H vs Q E hr h => ?_)
  · obtain ⟨D, p, dx, a, ws, rfl, _⟩ := h
    rfl
  obtain ⟨D, p, dx, a, ws, rfl, hp, hT, hG, np, dm, q⟩ := h
  refine ⟨_, pss_cons (ps_expr (pe_call G1 (hr.mono (by decide)) (by rfl) m1 k1 b1 .nil pass0 (pa_cons (pv 1) pa_nil)))
    (pss_cons (ps_fld (pv 0) (pe_lc (own := [("row", 2)]) (g := gName 2) (tt := tYes) rfl sc_inn_init.nd (pi_list (pv 1))
        (blkOk_by (N := ["self", "wishes", "row"]) (sc := defScope s_inn_init) (by decide +kernel))
        (fun _ _ _ _ _ => pg_name (i := 2) sc_inn_init.nd rfl (Or.inl rfl)) (fun _ _ _ _ _ => pts_nil) (fun _ _ _ _ _ => pe_callTy (T := "list") (call_lof (K := K) rfl) (by rfl) T.list (by decide +kernel) (pa_cons (pv 2) pa_nil))) rfl)
    (pss_cons (ps_fld (pv 0) pe_non rfl)
    (pss_one (ps_expr (pe_meth0 (pv 0) X.cl X.mS GS hr bS .nil pass0))))), ?_⟩
  obtain ⟨as, t1, t2, t3⟩ := id hT
  have l1 := hG.lo
  refine ⟨_, rfl, a, ws, rfl, hT, hG, fun H1 e1 => ?_⟩
  have hp1 := e1 _ _ hp
  refine ⟨_, rfl, a, rfl, ⟨_, e1.seq t1⟩, fun L hL => ?_⟩
  have hL0 : H L = none := e1.free hL
  refine lc_list (K := K) (a := a) (xs := as.map V.ref) (fun i H' => Built H1 L ((ws.take i).map fun r => r.map V.int) H') (built_start hL) (fun i H' _ h => h.1.seq (e1.seq t1)) ?_ ?_
  · rintro i x H2 hx hB
    obtain ⟨b, hb, rfl⟩ := map_ref_get hx
    have hi : i < ws.length := by rw [← t2]; exact (List.getElem?_eq_some_iff.mp hb).1
    obtain ⟨b', hb', hs⟩ := t3 i ws[i] (List.getElem?_eq_getElem hi)
    rw [hb] at hb'
    cases hb'
    refine ⟨rfl, _, rfl, b, _, rfl, .inl (hB.1.seq (e1.seq hs)), fun l hl => ?_⟩
    obtain ⟨acc, z1, z2, z3⟩ := built_step (f := HO.lst) (r := ws[i].map V.int) hL hB (same_new hl _) hl upd_same
    refine ⟨acc, z1, ?_, ?_⟩
    · have := hG.hi
      rw [z2, List.length_map, List.length_take]
      exact small1000 (by omega)
    · rw [take_one (List.getElem?_eq_getElem hi), List.map_append]
      exact z3
  · rintro H2 hB
    rw [List.length_map, t2, List.take_length] at hB
    obtain ⟨e2, bs, d1, d2, d3⟩ := id hB
    have hp2 := e2 _ _ hp1
    have npL : p ≠ L := ne_of_none hp1 hL
    refine ⟨_, rfl, p, C, dx, _, rfl, hp2, X.cl, X.nW, (by show 0 < 1000; decide), _, rfl, p, C, dx, _, rfl, upd_same, X.cl, X.nM, (by show 1 < 1000; decide), ?_⟩
    have noS : (inf L .non).lookup ("_settle" : Str) = none := inf_no _ _ (by decide +kernel) (by decide +kernel)
    have e12 := e1.trans e2
    have nD : ∀ {x : Addr}, H x = none → ¬ D x := fun hx z => by
      obtain ⟨o, ho⟩ := dm _ z
      rw [hx] at ho; cases ho
    have hI : InnAt C D (upd (upd H2 p (.ins C dx (putF "_wishes" (.ref L) []))) p (.ins C dx (inf L .non))) p L ws none := by
      refine ⟨⟨dx, .non, upd_same, .inl ⟨rfl, rfl⟩⟩, ⟨bs, by rw [upd_ne npL.symm, upd_ne npL.symm]; exact d1, by rw [d2, List.length_map], fun i r hr' => ?_⟩, np, nD hL0, fun x hx => ?_⟩
      · obtain ⟨b, b1, b2, b3, b4⟩ := d3 i (r.map V.int) (by rw [List.getElem?_map, hr']; rfl)
        have nbp : b ≠ p := ne_of b2 hp2 (by intro z; cases z)
        exact ⟨b, b1, by rw [upd_ne nbp, upd_ne nbp]; exact b2, nD (e1.free b4)⟩
      · obtain ⟨o, ho⟩ := dm x hx
        have : x ≠ p := fun z => np (z ▸ hx)
        exact ⟨o, by rw [upd_ne this, upd_ne this]; exact e12 _ _ ho⟩
    refine ⟨_, rfl, p, dx, _, rfl, upd_same, noS, D, p, L, ws, none, rfl, hI, hG, fun H3 k3 hI3 => ?_⟩
    refine q H3 L (fun b o hb nb => ?_) hI3
    refine k3 b o ?_ nb
    rw [upd_ne nb, upd_ne nb]
    exact e12 _ _ hb

/-! ### turn -/
theorem sc_inn_turn : FnScope ["self", "guest", "row"] ["self", "guest", "row"] (defScope s_inn_turn) := ⟨rfl, rfl, rfl, by decide +kernel, rfl, by decide +kernel, by decide +kernel⟩
def sp_inn_turn (K : PySem.W.Frag) (C cG cW : Addr) : Sp := fun vs H Q E => ∃ (D : Addr → Prop) (p t : Addr) (ws : List (List Int)) (mo : Option (List (Option Int))) (gv rv : V), vs = [.ref p, gv, rv] ∧ InnAt C D H p t ws mo ∧ Good ws ∧
  ((∃ (g : Nat) (b : Addr) (r : List Int), gv = .int g ∧ g < ws.length ∧ rv = .ref b ∧ SqL K H b (r.map V.int) ∧ GoodRow ws.length (g : Int) r ∧
      ∀ H', KeepI H H' p t → InnAt C D H' p t (ws.set g r) (settleO (ws.set g r) mo) → Q .non H') ∨
   (GuestBad K H ws.length gv ∧ ∀ H', Same H H' → E (.ref cG) none H') ∨
   (∃ g : Nat, gv = .int g ∧ g < ws.length ∧ RowBad K H ws.length (g : Int) rv ∧ ∀ H', Same H H' → E (.ref cW) none H'))
theorem ok_inn_turn {C fS cG cW : Addr} {fdS : FuncData} {f : Addr} {fd : FuncData} (F : Fun K "turn" "Inn.turn" s_inn_turn f fd) (T : Own mg) (X : TxtI K mg C fS) (C1 : CalX P w K mg base 2 "need_guest" ["wishes", "guest"] (sp_need_guestX K cG))
    (C2 : CalX P w K mg base 2 "need_row" ["row", "guest", "many"] (sp_need_rowX K cW)) (GS : FnOk P w K mg base CX0 6 fS fdS ["self"] (sp_settle C)) (bS : Binds K fdS ["self"] []) :
    FnOk P w K mg base (L2.CX P w) 7 f fd ["self", "guest", "row"] (sp_inn_turn K C cG cW) := by
  obtain ⟨g1, gd1, G1, m1, k1, b1⟩ := C1
  obtain ⟨g2, gd2, G2, m2, k2, b2⟩ := C2
  refine F.okX sc_inn_turn (fun vs H Q E h => ?_) (fun cdv A outer s H vs Q E hr h => ?_)
  · obtain ⟨D, p, t, ws, mo, gv, rv, rfl, _⟩ := h
    rfl
  obtain ⟨D, p, t, ws, mo, gv, rv, rfl, hI, hG, q⟩ := h
  refine ⟨_, pss_cons (ps_expr (pe_call G1 (hr.mono (by decide)) (by rfl) m1 k1 b1 .nil (passes_call (takes_of rfl rfl rfl rfl) fun _ _ _ _ h => h) (pa_cons (pe_fld (pv 0) rfl) (pa_cons (pv 1) pa_nil))))
    (pss_cons (ps_expr (pe_call G2 (hr.mono (by decide)) (by rfl) m2 k2 b2 .nil (passes_call (takes_of rfl rfl rfl rfl) fun _ _ _ _ h => h) (pa_cons (pv 2) (pa_cons (pv 1) (pa_cons (pe_callB call_len_seq (by rfl) T.len PySem.boot_len (pa_cons (pe_fld (pv 0) rfl) pa_nil)) pa_nil)))))
    (pss_cons (ps_asg (pe_callTy (T := "list") (call_lof (K := K) rfl) (by rfl) T.list (by decide +kernel) (pa_cons (pv 2) pa_nil)) (pg_sub (pe_fld (pv 0) rfl) (pv 1) set_list))
    (pss_one (ps_expr (pe_meth0 (pv 0) X.cl X.mS GS hr bS .nil pass0))))), ?_⟩
  obtain ⟨⟨dx, mv, h1, hm⟩, ⟨as, h2, h3, h4⟩, np, nt, dm⟩ := id hI
  have lo := hG.lo
  have hi := hG.hi
  have hl : (as.map V.ref).length = ws.length := by rw [List.length_map]; exact h3
  rcases q with ⟨g, b, r, rfl, hg, rfl, hS, hR, q⟩ | ⟨hB, q⟩ | ⟨g, rfl, hg, hB, q⟩
  · refine ⟨_, rfl, p, C, dx, _, _, rfl, h1, X.cl, X.nW, inf_w _ _, _, rfl, t, _, _, rfl, SqL.of h2, by omega, by omega, .inl ⟨(g : Int), rfl, by omega, by rw [hl]; omega, ?_⟩⟩
    refine ⟨_, rfl, _, rfl, _, rfl, p, C, dx, _, _, rfl, h1, X.cl, X.nW, inf_w _ _, t, _, rfl, .inl (SqL.of h2), ?_⟩
    rw [hl]
    refine ⟨_, (g : Int), ws.length, rfl, by omega, by omega, .inl ⟨b, r, rfl, hS, hR, ?_⟩⟩
    refine ⟨_, rfl, b, _, rfl, .inl hS, fun l hl0 => ?_⟩
    have e1 := same_new hl0 (.lst (r.map V.int))
    refine ⟨_, rfl, p, C, dx, _, _, rfl, e1 _ _ h1, X.cl, X.nW, inf_w _ _, _, rfl, t, _, _, _, rfl, rfl, e1 _ _ h2, ixN_of (by omega) (by rw [hl]; omega), ?_⟩
    have npt : p ≠ t := ne_of h1 h2 (by intro z; cases z)
    have nlt : l ≠ t := (ne_of_none h2 hl0).symm
    have nlp : l ≠ p := (ne_of_none h1 hl0).symm
    have noS : (inf t mv).lookup ("_settle" : Str) = none := inf_no _ _ (by decide +kernel) (by decide +kernel)
    have nD : ¬ D l := fun z => by
      obtain ⟨o, ho⟩ := dm _ z
      rw [hl0] at ho; cases ho
    have notE : as ≠ [] := fun z => by rw [z] at h3; simp at h3; omega
    have eg : ((g : Nat) : Int).toNat = g := by omega
    have hI2 : InnAt C D (upd (upd H l (.lst (r.map V.int))) t (.lst ((as.map V.ref).set ((g : Nat) : Int).toNat (.ref l)))) p t (ws.set g r) mo := by
      refine ⟨⟨dx, mv, by rw [upd_ne npt, upd_ne nlp.symm]; exact h1, ?_⟩, ⟨as.set g l, by rw [upd_same, eg, List.map_set], by rw [List.length_set, List.length_set]; exact h3, fun i r' hr' => ?_⟩, np, nt, fun x hx => ?_⟩
      · rcases hm with hm | ⟨m, ms, r1, r2, r3, r4⟩
        · exact .inl hm
        · have nmt : m ≠ t := ne_of r2 h2 (by
            intro z
            have z2 : ms.map ov = as.map V.ref := by unfold fm at z; exact HO.lst.inj z
            exact notE (refs_mates z2.symm))
          exact .inr ⟨m, ms, r1, by rw [upd_ne nmt, upd_ne (ne_of_none r2 hl0)]; exact r2, r3, r4⟩
      · rw [List.getElem?_set] at hr' ⊢
        by_cases c : g = i
        · rw [if_pos c] at hr' ⊢
          rw [if_pos (by omega)] at hr'
          cases hr'
          exact ⟨l, by rw [if_pos (by omega)], by rw [upd_ne nlt, upd_same], nD⟩
        · rw [if_neg c] at hr' ⊢
          obtain ⟨b', b1, b2, b3⟩ := h4 i r' hr'
          have nbt : b' ≠ t := ne_of b2 h2 (by
            intro z
            exact notE (refs_ints (HO.lst.inj z).symm))
          exact ⟨b', b1, by rw [upd_ne nbt, upd_ne (ne_of_none b2 hl0)]; exact b2, b3⟩
      · obtain ⟨o, ho⟩ := dm x hx
        have : x ≠ t := fun z => nt (z ▸ hx)
        exact ⟨o, by rw [upd_ne this]; exact e1 _ _ ho⟩
    refine ⟨_, rfl, p, dx, _, rfl, by rw [upd_ne npt, upd_ne nlp.symm]; exact h1, noS, D, p, t, ws.set g r, mo, rfl, hI2, good_set hG hR, fun H3 k3 hI3 => ?_⟩
    refine q H3 (fun b o hb nb nbt => ?_) hI3
    refine k3 b o ?_ nb
    rw [upd_ne nbt]
    exact e1 _ _ hb
  · refine ⟨_, rfl, p, C, dx, _, _, rfl, h1, X.cl, X.nW, inf_w _ _, _, rfl, t, _, _, rfl, SqL.of h2, by omega, by omega, .inr ⟨by rw [hl]; exact hB, q H (Same.refl H)⟩⟩
  · refine ⟨_, rfl, p, C, dx, _, _, rfl, h1, X.cl, X.nW, inf_w _ _, _, rfl, t, _, _, rfl, SqL.of h2, by omega, by omega, .inl ⟨(g : Int), rfl, by omega, by rw [hl]; omega, ?_⟩⟩
    refine ⟨_, rfl, _, rfl, _, rfl, p, C, dx, _, _, rfl, h1, X.cl, X.nW, inf_w _ _, t, _, rfl, .inl (SqL.of h2), ?_⟩
    rw [hl]
    exact ⟨_, (g : Int), ws.length, rfl, by omega, by omega, .inr ⟨hB, q H (Same.refl H)⟩⟩

/-! ### twos -/
theorem sc_inn_twos : FnScope ["self"] ["self"] (defScope s_inn_twos) := ⟨rfl, rfl, rfl, by decide +kernel, rfl, by decide +kernel, by decide +kernel⟩
def sp_inn_twos (C : Addr) : Sp := fun vs H Q _ => ∃ (D : Addr → Prop) (p t : Addr) (ws : List (List Int)) (mo : Option (List (Option Int))), vs = [.ref p] ∧ InnAt C D H p t ws mo ∧
  ((mo = none → Q .non H) ∧ ∀ (ms : List (Option Int)) (H' : Hp) (l : Addr), mo = some ms → Same H H' → H l = none → H' l = some (fm ms) → Q (.ref l) H')
theorem ok_inn_twos {C fS : Addr} {f : Addr} {fd : FuncData} (F : Fun K "twos" "Inn.twos" s_inn_twos f fd) (T : Own mg) (X : TxtI K mg C fS) : FnOk P w K mg base CX0 1 f fd ["self"] (sp_inn_twos C) := by
  refine F.ok sc_inn_twos (fun vs H Q E h => ?_) (fun cdv A outer s H vs Q E hr h => ?_)
  · obtain ⟨D, p, t, ws, mo, rfl, _⟩ := h
    rfl
  obtain ⟨D, p, t, ws, mo, rfl, hI, q0, q1⟩ := h
  refine ⟨_, pss_cons (ps_if (pt_cmpR op_isN (pe_fld (pv 0) rfl) pe_non (nomark _)) (pss_one (ps_ret pe_non)) pss_nil)
    (pss_one (ps_ret (pe_callTy (T := "list") (call_lof (K := K) rfl) (by rfl) T.list (by decide +kernel) (pa_cons (pe_fld (pv 0) rfl) pa_nil)))), ?_⟩
  obtain ⟨⟨dx, mv, h1, hm⟩, _⟩ := id hI
  refine ⟨_, rfl, p, C, dx, _, _, rfl, h1, X.cl, X.nM, inf_m _ _, rfl, _, rfl, ?_⟩
  rcases hm with ⟨rfl, rfl⟩ | ⟨m, ms, rfl, r2, rfl, r4⟩
  · exact iteT (q0 rfl)
  · refine iteF ?_
    refine ⟨_, rfl, p, C, dx, _, _, rfl, h1, X.cl, X.nM, inf_m _ _, m, _, rfl, .inl (SqL.of r2), fun l hl => ?_⟩
    exact q1 ms _ l rfl (same_new hl _) hl upd_same

/-! ### table -/
theorem sc_inn_table : FnScope ["self", "row"] ["self"] (defScope s_inn_table) := ⟨rfl, rfl, rfl, by decide +kernel, rfl, by decide +kernel, by decide +kernel⟩
def sp_inn_table (C : Addr) : Sp := fun vs H Q _ => ∃ (D : Addr → Prop) (p t : Addr) (ws : List (List Int)) (mo : Option (List (Option Int))), vs = [.ref p] ∧ InnAt C D H p t ws mo ∧ ws.length ≤ 6 ∧
  ∀ (H' : Hp) (l : Addr), H l = none → Built H l (ws.map fun r => r.map V.int) H' → Q (.ref l) H'
theorem ok_inn_table {C fS : Addr} {f : Addr} {fd : FuncData} (F : Fun K "table" "Inn.table" s_inn_table f fd) (T : Own mg) (X : TxtI K mg C fS) : FnOk P w K mg base CX0 1 f fd ["self"] (sp_inn_table C) := by
  refine F.ok sc_inn_table (fun vs H Q E h => ?_) (fun cdv A outer s H vs Q E hr h => ?_)
  · obtain ⟨D, p, t, ws, mo, rfl, _⟩ := h
    rfl
  obtain ⟨D, p, t, ws, mo, rfl, hI, l6, q⟩ := h
  refine ⟨_, pss_one (ps_ret (pe_lc (own := [("row", 1)]) (g := gName 1) (tt := tYes) rfl sc_inn_table.nd (pi_list (pe_fld (pv 0) rfl))
        (blkOk_by (N := ["self", "row"]) (sc := defScope s_inn_table) (by decide +kernel))
        (fun _ _ _ _ _ => pg_name (i := 1) sc_inn_table.nd rfl (Or.inl rfl)) (fun _ _ _ _ _ => pts_nil) (fun _ _ _ _ _ => pe_callTy (T := "list") (call_lof (K := K) rfl) (by rfl) T.list (by decide +kernel) (pa_cons (pv 1) pa_nil)))), ?_⟩
  obtain ⟨⟨dx, mv, h1, hm⟩, ⟨as, h2, h3, h4⟩, np, nt, dm⟩ := id hI
  refine ⟨_, rfl, p, C, dx, _, _, rfl, h1, X.cl, X.nW, inf_w _ _, t, rfl, ⟨_, SqL.of h2⟩, fun L hL => ?_⟩
  refine lc_list (K := K) (a := t) (xs := as.map V.ref) (fun i H' => Built H L ((ws.take i).map fun r => r.map V.int) H') (built_start hL) (fun i H' _ h => SqL.of (h.1 _ _ h2)) ?_ ?_
  · rintro i x H2 hx hB
    obtain ⟨b, hb, rfl⟩ := map_ref_get hx
    have hi : i < ws.length := by rw [← h3]; exact (List.getElem?_eq_some_iff.mp hb).1
    obtain ⟨b', hb', hs, _⟩ := h4 i ws[i] (List.getElem?_eq_getElem hi)
    rw [hb] at hb'
    cases hb'
    refine ⟨rfl, _, rfl, b, _, rfl, .inl (SqL.of (hB.1 _ _ hs)), fun l hl => ?_⟩
    obtain ⟨acc, z1, z2, z3⟩ := built_step (f := HO.lst) (r := ws[i].map V.int) hL hB (same_new hl _) hl upd_same
    refine ⟨acc, z1, ?_, ?_⟩
    · rw [z2, List.length_map, List.length_take]
      exact small1000 (by omega)
    · rw [take_one (List.getElem?_eq_getElem hi), List.map_append]
      exact z3
  · rintro H2 hB
    rw [List.length_map, h3, List.take_length] at hB
    exact q H2 L hL hB
end
end B2

namespace B2
open PySem L2
section
variable {P : Program} {w : World} {K : PySem.W.Frag} {mg : Str → Option Value} {base : Heap}

/-! ### _law_cell_at -/
theorem sc_cell_at : FnScope ["_law_script", "_law_k"] ["_law_script", "_law_k"] (defScope s_cell_at) := ⟨rfl, rfl, rfl, by decide +kernel, rfl, by decide +kernel, by decide +kernel⟩
def sp_cell_at (K : PySem.W.Frag) : Sp := fun vs H Q _ => ∃ (a : Addr) (ns : List Int) (k : Int), vs = [.ref a, .int k] ∧ SqL K H a (ns.map V.int) ∧ 0 ≤ k ∧ ∀ c : Int, Q (.int c) H
theorem ok_cell_at {f : Addr} {fd : FuncData} (F : Fun K "_law_cell_at" "_law_cell_at" s_cell_at f fd) (T : Own mg) : FnOk P w K mg base CX0 1 f fd ["_law_script", "_law_k"] (sp_cell_at K) := by
  refine F.ok sc_cell_at (fun vs H Q E h => ?_) (fun cdv A outer s H vs Q E hr h => ?_)
  · obtain ⟨a, ns, k, rfl, _⟩ := h
    rfl
  obtain ⟨a, ns, k, rfl, hS, k0, q⟩ := h
  refine ⟨_, pss_cons (ps_if (pt_cmpR op_lt (pv 1) (pe_callB call_len_seq (by rfl) T.len PySem.boot_len (pa_cons (pv 0) pa_nil)) (nomark _))
      (pss_one (ps_ret (pe_ix ix_list (pv 0) (pv 1) (fun _ _ => rfl)))) pss_nil)
    (pss_one (ps_ret pe_int)), ?_⟩
  refine ⟨_, rfl, _, rfl, a, _, rfl, .inl hS, _, _, rfl, rfl, _, rfl, ?_⟩
  refine ite2 (fun c => ?_) (fun c => ?_)
  · have c' : k < (((ns.map V.int).length : Nat) : Int) := of_decide_eq_true c
    rw [List.length_map] at c'
    have hk : k.toNat < ns.length := by omega
    have e : k = ((k.toNat : Nat) : Int) := by omega
    have z : atI (ns.map V.int) ((k.toNat : Nat) : Int) = some (.int ns[k.toNat]) := atI_nat (by rw [List.getElem?_map, List.getElem?_eq_getElem hk]; rfl)
    rw [← e] at z
    exact ⟨_, rfl, _, rfl, a, _, _, _, rfl, rfl, hS, z, q _⟩
  · exact q 0

/-! ### _law_row_by -/
theorem sc_row_by : FnScope ["_law_cell", "_law_guest", "_law_many", "_law_full", "_law_left", "_law_row", "_law_one"] ["_law_cell", "_law_guest", "_law_many", "_law_full"] (defScope s_row_by) := ⟨rfl, rfl, rfl, by decide +kernel, rfl, by decide +kernel, by decide +kernel⟩
def sp_row_by : Sp := fun vs H Q _ => ∃ (c g : Int) (n : Nat) (full : Bool), vs = [.int c, .int g, .int n, .bl full] ∧ n ≤ 6 ∧
  ∀ (H' : Hp) (p : Addr) (r : List Int), Same H H' → H p = none → H' p = some (.lst (r.map V.int)) → GoodRow n g r → Q (.ref p) H'

/-- what is left to be drawn, and what is drawn -/
structure Draw (H : Hp) (n : Nat) (g : Int) (D R : Addr) (H' : Hp) (left row : List Int) : Prop where
  same : Same H H'
  hD : H D = none
  hR : H R = none
  ne : D ≠ R
  atD : H' D = some (.lst (left.map V.int))
  atR : H' R = some (.lst (row.map V.int))
  nd : (row ++ left).Nodup
  rg : ∀ x ∈ row ++ left, 0 ≤ x ∧ x < (n : Int) ∧ x ≠ g
  sm : (row ++ left).length ≤ 6

theorem Draw.good {H H' : Hp} {n : Nat} {g : Int} {D R : Addr} {left row : List Int} (d : Draw H n g D R H' left row) : GoodRow n g row :=
  ⟨(List.nodup_append.mp d.nd).1, fun x hx => d.rg x (List.mem_append_left _ hx), by have := d.sm; rw [List.length_append] at this; omega⟩

theorem GoodRow.take {n : Nat} {g : Int} {r : List Int} (h : GoodRow n g r) (m : Nat) : GoodRow n g (r.take m) :=
  ⟨h.nd.sublist (List.take_sublist m r), fun x hx => h.rg x (List.mem_of_mem_take hx), Nat.le_trans (List.length_take_le' m r) h.sm⟩

theorem erase_perm {α : Type} : ∀ (l : List α) (k : Nat) (y : α), l[k]? = some y → (y :: l.eraseIdx k).Perm l
  | [], _, _, h => by cases h
  | a :: l, 0, y, h => by cases h; exact List.Perm.refl _
  | a :: l, k + 1, y, h => by
    have ih := erase_perm l k y h
    exact (List.Perm.swap a y _).trans (List.Perm.cons a ih)

theorem Draw.step {H H' : Hp} {n : Nat} {g : Int} {D R : Addr} {left row : List Int} (d : Draw H n g D R H' left row) {k : Nat} {y : Int} (hy : left[k]? = some y) :
    Draw H n g D R (upd (upd H' D (.lst ((left.eraseIdx k).map V.int))) R (.lst ((row ++ [y]).map V.int))) (left.eraseIdx k) (row ++ [y]) := by
  have p : (y :: left.eraseIdx k).Perm left := erase_perm left k y hy
  have p2 : (row ++ [y] ++ left.eraseIdx k).Perm (row ++ left) := by
    rw [List.append_assoc]
    exact List.Perm.append_left row p
  exact ⟨same_put (same_put d.same d.hD _) d.hR _, d.hD, d.hR, d.ne, by rw [upd_ne d.ne, upd_same], upd_same, p2.nodup_iff.mpr d.nd, fun x hx => d.rg x (p2.mem_iff.mp hx), by rw [p2.length_eq]; exact d.sm⟩

theorem ok_row_by {f : Addr} {fd : FuncData} (F : Fun K "_law_row_by" "_law_row_by" s_row_by f fd) (T : Own mg) : FnOk P w K mg base CX0 1 f fd ["_law_cell", "_law_guest", "_law_many", "_law_full"] sp_row_by := by
  refine F.ok sc_row_by (fun vs H Q E h => ?_) (fun cdv A outer s H vs Q E hr h => ?_)
  · obtain ⟨c, g, n, full, rfl, _⟩ := h
    rfl
  obtain ⟨c, g, n, full, rfl, hn, q⟩ := h
  refine ⟨_, pss_cons (ps_setLc (i := 4) (own := [("_law_one", 6)]) (g := gName 6) rfl sc_row_by.nd rfl rfl (sw_true rfl rfl rfl (by decide +kernel)) (pi_range1 rfl T.rng (pa_cons (pv 2) pa_nil))
      (blkOk_by (N := ["_law_cell", "_law_guest", "_law_many", "_law_full", "_law_left", "_law_row", "_law_one"]) (sc := defScope s_row_by) (by decide +kernel))
      (fun _ _ _ _ _ => pg_name (i := 6) sc_row_by.nd rfl (Or.inl rfl)) (fun _ _ _ _ _ => pts_one (pt_cmpR op_ne (pv 6) (pv 1) (nomark _))) (fun _ _ _ _ _ => pv 6))
    (pss_cons (ps_set (i := 5) sc_row_by.nd rfl (Or.inl rfl) (pe_lst pa_nil))
    (pss_cons (ps_while PassesOwn.never (pt_cmpR op_gt (pe_callB call_len_seq (by rfl) T.len PySem.boot_len (pa_cons (pv 4) pa_nil)) pe_int (nomark _))
      (pss_cons (ps_expr (pe_bm PySem.F.plainAttrs_list PySem.F.slot_list_append PySem.F.type_list_append mt_append (pv 5)
          (pa_cons (pe_bm PySem.F.plainAttrs_list PySem.F.slot_list_pop PySem.F.type_list_pop mt_popAt (pv 4)
            (pa_cons (pe_op op_mod (pv 0) (pe_callB call_len_seq (by rfl) T.len PySem.boot_len (pa_cons (pv 4) pa_nil))) pa_nil)) pa_nil)))
      (pss_one (ps_set (i := 0) sc_row_by.nd rfl (Or.inl rfl) (pe_op op_fdiv (pv 0) (pe_op op_add (pe_callB call_len_seq (by rfl) T.len PySem.boot_len (pa_cons (pv 4) pa_nil)) pe_int))))))
    (pss_cons (ps_if (pt_val (pv 3)) (pss_one (ps_ret (pv 5))) pss_nil)
    (pss_one (ps_ret (pe_slice sl_list (pv 5) po_none (po_some (pe_op op_mod (pv 0) (pe_op op_add (pe_callB call_len_seq (by rfl) T.len PySem.boot_len (pa_cons (pv 5) pa_nil)) pe_int))))))))), ?_⟩
  refine ⟨_, rfl, (n : Int), rfl, (by omega), (by omega), fun D hD => ?_⟩
  refine lc_range (lo := 0) (n := (n : Int).toNat) (fun i H' => ∃ acc : List Int, H' = upd H D (.lst (acc.map V.int)) ∧ acc.Nodup ∧ acc.length ≤ i ∧ ∀ x ∈ acc, 0 ≤ x ∧ x < (i : Int) ∧ x ≠ g)
    ⟨[], rfl, List.nodup_nil, Nat.le_refl _, fun x hx => by cases hx⟩ ?_ ?_
  · rintro i H' hi ⟨acc, rfl, nd, hl, hx⟩
    refine ⟨rfl, _, rfl, _, rfl, rfl, _, rfl, ?_⟩
    refine ite2 (fun c => ?_) (fun c => ?_)
    · have hg : (0 + (i : Int)) ≠ g := fun z => by
        rw [decide_eq_true (by rw [z])] at c
        cases c
      refine ⟨_, rfl, acc.map V.int, upd_same, by rw [List.length_map]; exact Nat.lt_of_le_of_lt hl (small1000 (by omega)), acc ++ [0 + (i : Int)], ?_, ?_, ?_, ?_⟩
      · rw [upd_upd, List.map_append]; rfl
      · rw [List.nodup_append]
        refine ⟨nd, by simp, fun x hx1 y hy => ?_⟩
        rw [List.mem_singleton] at hy
        have := hx x hx1
        rw [hy]
        omega
      · rw [List.length_append, List.length_singleton]; omega
      · intro x hx1
        rcases List.mem_append.mp hx1 with h | h
        · have := hx x h
          exact ⟨this.1, by omega, this.2.2⟩
        · rw [List.mem_singleton] at h
          rw [h]
          exact ⟨by omega, by omega, hg⟩
    · exact ⟨acc, rfl, nd, by omega, fun x h => by
        have := hx x h
        exact ⟨this.1, by omega, this.2.2⟩⟩
  · rintro H' ⟨acc, rfl, nd, hl, hx⟩
    refine ⟨(by show 0 ≤ sizeLine; decide), fun R hR => ?_⟩
    have hDR : D ≠ R := ne_of_none (upd_same (H := H) (a := D)) hR
    have hR0 : H R = none := (same_new hD _).free hR
    refine while_by (fun σ H' => ∃ (c : Int) (left row : List Int) (z : Option V), σ = [some (.int c), some (.int g), some (.int n), some (.bl full), some (.ref D), some (.ref R), z] ∧ Draw H n g D R H' left row)
      (fun σ H' => match H' D with | some (.lst xs) => xs.length | _ => 0)
      ⟨c, acc, [], none, rfl, same_put (same_new hD _) hR0 _, hD, hR0, hDR, by rw [upd_ne hDR, upd_same], upd_same, nd, ?_, ?_⟩ ?_ ?_
    · intro x h
      have := hx x h
      exact ⟨this.1, by omega, this.2.2⟩
    · show acc.length ≤ 6
      omega
    · rintro σ H' ⟨c, left, row, z, rfl, d⟩
      refine ⟨_, rfl, D, _, rfl, .inl (SqL.of d.atD), _, _, rfl, rfl, _, rfl, ?_⟩
      rw [List.length_map]
      refine ite2 (fun c1 => ?_) (fun c1 => ?_)
      · have hl0 : ((left.length : Nat) : Int) > 0 := of_decide_eq_true c1
        have hk : (c % (left.length : Int)).toNat < left.length := by
          have h1 := Int.emod_lt_of_pos c hl0
          omega
        have h1 := Int.emod_lt_of_pos c hl0
        have h0 := Int.emod_nonneg c (show (left.length : Int) ≠ 0 by omega)
        have hlen := d.sm
        rw [List.length_append] at hlen
        have hget : left[(c % (left.length : Int)).toNat]? = some left[(c % (left.length : Int)).toNat] := List.getElem?_eq_getElem hk
        have d2 := d.step hget
        have nRD : R ≠ D := d.ne.symm
        refine ⟨_, rfl, .inl ⟨rfl, _, SqL.of d.atR⟩, ?_⟩
        refine ⟨_, rfl, .inl ⟨rfl, _, SqL.of d.atD⟩, ?_⟩
        refine ⟨_, rfl, _, rfl, D, _, rfl, .inl (SqL.of d.atD), c, (left.length : Int), rfl, by rw [List.length_map], hl0, ?_⟩
        refine ⟨D, _, _, (c % (left.length : Int)).toNat, _, rfl, rfl, d.atD, (by omega), (by omega), ?_, (by rw [List.getElem?_map, hget]; rfl), ?_⟩
        · rw [List.length_map]
          exact seqIx h0 h1
        refine ⟨R, _, _, rfl, rfl, by rw [upd_ne nRD]; exact d.atR, ?_, ?_⟩
        · rw [List.length_map]
          exact small1000 (by omega)
        have eH : upd (upd H' D (.lst ((left.map V.int).eraseIdx (c % (left.length : Int)).toNat))) R (.lst (row.map V.int ++ [V.int left[(c % (left.length : Int)).toNat]])) =
            upd (upd H' D (.lst ((left.eraseIdx (c % (left.length : Int)).toNat).map V.int))) R (.lst ((row ++ [left[(c % (left.length : Int)).toNat]]).map V.int)) := by
          rw [map_erase, List.map_append]; rfl
        rw [eH]
        have hel : (left.eraseIdx (c % (left.length : Int)).toNat).length = left.length - 1 := by rw [List.length_eraseIdx, if_pos hk]
        refine ⟨_, rfl, _, rfl, D, _, rfl, .inl (SqL.of d2.atD), _, _, rfl, rfl, _, _, rfl, rfl, ?_, ?_⟩
        · rw [List.length_map, hel]
          exact ⟨by omega, by omega⟩
        · refine ⟨⟨_, _, _, _, rfl, d2⟩, ?_⟩
          rw [d2.atD, d.atD]
          show (List.map V.int _).length < (List.map V.int _).length
          rw [List.length_map, List.length_map, hel]
          omega
      · have hl0 : left = [] := by
          have : ¬ ((left.length : Nat) : Int) > 0 := of_decide_eq_false (Bool.eq_false_iff.mpr c1)
          cases left with
          | nil => rfl
          | cons a l => simp at this
        subst hl0
        have hG := d.good
        refine ⟨_, rfl, _, rfl, ?_⟩
        refine ite2 (fun c2 => ?_) (fun c2 => ?_)
        · exact ⟨_, rfl, q H' R row d.same d.hR d.atR hG⟩
        · obtain ⟨m, hm⟩ := cut_take row (c % ((((row.map V.int).length : Nat) : Int) + 1))
          refine ⟨_, rfl, _, rfl, _, rfl, R, _, rfl, .inl (SqL.of d.atR), _, _, rfl, rfl, _, _, rfl, rfl, (by show (0 : Int) < (((row.map V.int).length : Nat) : Int) + 1; omega), _, rfl, R, _, rfl, SqL.of d.atR, fun p hp => ?_⟩
          rw [hm]
          exact q _ p (row.take m) (d.same.trans (same_new hp _)) (d.same.free hp) upd_same (hG.take m)
    · rintro σ H' Q1 Q2 hq ⟨v, hv, p, ys, e1, h, i, j, e2, e3, k, e4, hq1⟩
      exact ⟨v, hv, p, ys, e1, h, i, j, e2, e3, k, e4, hq _ _ hq1⟩

/-! ### _law_wishes_by -/
theorem sc_wishes_by : FnScope ["_law_script", "_law_many", "_law_full", "_law_k"] ["_law_script", "_law_many"] (defScope s_wishes_by) := ⟨rfl, rfl, rfl, by decide +kernel, rfl, by decide +kernel, by decide +kernel⟩
def sp_wishes_by (K : PySem.W.Frag) : Sp := fun vs H Q _ => ∃ (a : Addr) (ns : List Int) (n : Nat), vs = [.ref a, .int n] ∧ SqL K H a (ns.map V.int) ∧ 1 ≤ n ∧ n ≤ 6 ∧
  ∀ (H' : Hp) (p : Addr) (ws : List (List Int)), H p = none → Built H p (ws.map fun r => r.map V.int) H' → Good ws → ws.length = n → Q (.ref p) H'
theorem ok_wishes_by {f : Addr} {fd : FuncData} (F : Fun K "_law_wishes_by" "_law_wishes_by" s_wishes_by f fd) (T : Own mg) (C1 : Cal P w K mg base 1 "_law_cell_at" ["_law_script", "_law_k"] (sp_cell_at K))
    (C2 : Cal P w K mg base 1 "_law_row_by" ["_law_cell", "_law_guest", "_law_many", "_law_full"] sp_row_by) : FnOk P w K mg base CX0 2 f fd ["_law_script", "_law_many"] (sp_wishes_by K) := by
  obtain ⟨g1, gd1, G1, m1, k1, b1⟩ := C1
  obtain ⟨g2, gd2, G2, m2, k2, b2⟩ := C2
  refine F.ok sc_wishes_by (fun vs H Q E h => ?_) (fun cdv A outer s H vs Q E hr h => ?_)
  · obtain ⟨a, ns, n, rfl, _⟩ := h
    rfl
  obtain ⟨a, ns, n, rfl, hS, n1, n6, q⟩ := h
  refine ⟨_, pss_cons (ps_set (i := 2) sc_wishes_by.nd rfl (Or.inr rfl) (pe_cmpR op_gt (pe_op op_mod (pe_call G1 hr (by rfl) m1 k1 b1 .nil pass0 (pa_cons (pv 0) (pa_cons pe_int pa_nil))) pe_int) pe_int (nomark _)))
    (pss_one (ps_ret (pe_lc (own := [("_law_k", 3)]) (g := gName 3) (tt := tYes) rfl sc_wishes_by.nd (pi_range1 rfl T.rng (pa_cons (pv 1) pa_nil))
      (blkOk_by (N := ["_law_script", "_law_many", "_law_full", "_law_k"]) (sc := defScope s_wishes_by) (by decide +kernel))
      (fun _ _ _ _ _ => pg_name (i := 3) sc_wishes_by.nd rfl (Or.inl rfl)) (fun _ _ _ _ _ => pts_nil)
      (fun _ _ _ _ _ => pe_call G2 hr (by rfl) m2 k2 b2 .nil pass0 (pa_cons (pe_call G1 hr (by rfl) m1 k1 b1 .nil pass0 (pa_cons (pv 0) (pa_cons (pe_op op_add pe_int (pv 3)) pa_nil))) (pa_cons (pv 3) (pa_cons (pv 1) (pa_cons (pv 2) pa_nil)))))))), ?_⟩
  refine ⟨_, rfl, a, ns, 1, rfl, hS, by decide, fun c => ?_⟩
  refine ⟨_, _, rfl, rfl, (by show (0 : Int) < 3; decide), _, _, rfl, rfl, ?_⟩
  refine ⟨_, rfl, (n : Int), rfl, by omega, by omega, fun D hD => ?_⟩
  refine lc_range (lo := 0) (n := (n : Int).toNat) (fun i H' => ∃ ws : List (List Int), Built H D (ws.map fun r => r.map V.int) H' ∧ ws.length = i ∧ ∀ (g : Nat) (r : List Int), ws[g]? = some r → GoodRow n (g : Int) r)
    ⟨[], built_start hD, rfl, fun g r h => by cases h⟩ ?_ ?_
  · rintro i H1 hi ⟨ws, hB, hl, hG⟩
    refine ⟨rfl, ?_⟩
    refine ⟨_, rfl, _, rfl, _, _, rfl, rfl, a, ns, _, rfl, hB.1.seq hS, (by omega), fun c2 => ?_⟩
    refine ⟨_, rfl, _, rfl, _, rfl, c2, (i : Int), n, _, (by rw [Int.zero_add]; rfl), n6, fun H2 p r e hp hp2 hr2 => ?_⟩
    obtain ⟨acc, h1, h2, h3⟩ := built_step hD hB e hp hp2
    refine ⟨acc, h1, ?_, ws ++ [r], ?_, ?_, ?_⟩
    · rw [h2, List.length_map, hl]
      exact small1000 (by omega)
    · rw [List.map_append]; exact h3
    · rw [List.length_append, hl]; rfl
    · intro g r' h
      rw [List.getElem?_append] at h
      by_cases c : g < ws.length
      · rw [if_pos c] at h
        exact hG g r' h
      · rw [if_neg c] at h
        have i0 : g - ws.length = 0 := by
          have := (List.getElem?_eq_some_iff.mp h).1
          simp at this
          omega
        rw [i0] at h
        cases h
        have : g = i := by omega
        rw [this]
        exact hr2
  · rintro H1 ⟨ws, hB, hl, hG⟩
    have hln : ws.length = n := by omega
    exact q H1 D ws hD hB ⟨by omega, by omega, fun g r h => by rw [hln]; exact hG g r h⟩ hln
end
end B2

namespace B2
open PySem L2
section
variable {P : Program} {w : World} {K : PySem.W.Frag} {mg : Str → Option Value} {base : Heap}

/-! ### _law_suits -/
theorem sc_lsuits : FnScope ["_law_wishes", "_law_one", "_law_other"] ["_law_wishes", "_law_one", "_law_other"] (defScope s_lsuits) := ⟨rfl, rfl, rfl, by decide +kernel, rfl, by decide +kernel, by decide +kernel⟩
theorem ok_lsuits {f : Addr} {fd : FuncData} (F : Fun K "_law_suits" "_law_suits" s_lsuits f fd) : FnOk P w K mg base CX0 1 f fd ["_law_wishes", "_law_one", "_law_other"] (sp_in_both K) := by
  refine F.ok sc_lsuits (fun vs H Q E h => ?_) (fun cdv A outer s H vs Q E hr h => ?_)
  · obtain ⟨a, ws, i, j, rfl, _⟩ := h
    rfl
  obtain ⟨a, ws, i, j, rfl, hT, i0, i1, j0, j1, q⟩ := h
  refine ⟨_, pss_one (ps_ret (pe_and (pe_cmpR op_in_seq (pv 2) (pe_ix ix_list (pv 0) (pv 1) (fun _ _ => rfl)) (by rfl))
    (pe_one (pe_cmpR op_in_seq (pv 1) (pe_ix ix_list (pv 0) (pv 2) (fun _ _ => rfl)) (by rfl))))), ?_⟩
  obtain ⟨as, h1, h2, h3⟩ := hT.at
  obtain ⟨bi, hbi, hsi⟩ := h3 i i0 i1
  obtain ⟨bj, hbj, hsj⟩ := h3 j j0 j1
  refine ⟨_, rfl, _, rfl, _, rfl, a, _, _, _, rfl, rfl, h1, hbi, bi, _, rfl, .inl hsi, rfl, flat_ints _, _, rfl, ?_⟩
  show if inV (.int j) ((rowOf ws i).map V.int) = true then _ else _
  rw [inV_int]
  refine ite2 (fun c => ?_) (fun c => ?_)
  · refine ⟨_, rfl, _, rfl, _, rfl, a, _, _, _, rfl, rfl, h1, hbj, bj, _, rfl, .inl hsj, rfl, flat_ints _, ?_⟩
    show Q (.bl (inV (.int i) ((rowOf ws j).map V.int))) H
    rw [inV_int]
    have e : suitsB ws i j = decide (i ∈ rowOf ws j) := by unfold suitsB; rw [c, Bool.true_and]
    rw [← e]; exact q
  · have e : suitsB ws i j = false := by unfold suitsB; rw [Bool.eq_false_iff.mpr c, Bool.false_and]
    rw [e] at q; exact q

/-! ### _law_rather -/
theorem sc_lrather : FnScope ["_law_wishes", "_law_guest", "_law_one", "_law_other", "_law_thing"] ["_law_wishes", "_law_guest", "_law_one", "_law_other"] (defScope s_lrather) := ⟨rfl, rfl, rfl, by decide +kernel, rfl, by decide +kernel, by decide +kernel⟩
def sp_lrather (K : PySem.W.Frag) : Sp := fun vs H Q _ => ∃ (a : Addr) (ws : List (List Int)) (g : Int) (x y : Option Int), vs = [.ref a, .int g, ov x, ov y] ∧ Tab K H a ws ∧ Good ws ∧
  0 ≤ g ∧ g < (ws.length : Int) ∧ OkO ws.length x ∧ Q (.bl (aheadB ws g x y)) H
theorem ok_lrather {f : Addr} {fd : FuncData} (F : Fun K "_law_rather" "_law_rather" s_lrather f fd) (C1 : Cal P w K mg base 1 "_law_suits" ["_law_wishes", "_law_one", "_law_other"] (sp_in_both K)) :
    FnOk P w K mg base CX0 2 f fd ["_law_wishes", "_law_guest", "_law_one", "_law_other"] (sp_lrather K) := by
  obtain ⟨g1, gd1, G1, m1, k1, b1⟩ := C1
  refine F.ok sc_lrather (fun vs H Q E h => ?_) (fun cdv A outer s H vs Q E hr h => ?_)
  · obtain ⟨a, ws, g, x, y, rfl, _⟩ := h
    rfl
  obtain ⟨a, ws, g, x, y, rfl, hT, hG, g0, g1', hx, q⟩ := h
  refine ⟨_, pss_cons (ps_if (PW.pt (pw_or (pt_cmpR op_isN (pv 2) pe_non (nomark _))
      (pw_or1 (pt_not (pt_val (pe_call G1 hr (by rfl) m1 k1 b1 .nil pass0 (pa_cons (pv 0) (pa_cons (pv 1) (pa_cons (pv 2) pa_nil)))))))))
      (pss_one (ps_ret pe_bl)) pss_nil)
    (pss_cons (ps_for PassesOwn.never rfl (pi_list (pe_ix ix_list (pv 0) (pv 1) (fun _ _ => rfl))) (pg_name (i := 4) sc_lrather.nd rfl (Or.inl rfl))
      (pss_cons (ps_if (PW.pt (pw_and (pt_cmpR op_eq (pv 4) (pv 3) (nomark _)) (pw_and1 (pt_val (pe_call G1 hr (by rfl) m1 k1 b1 .nil pass0 (pa_cons (pv 0) (pa_cons (pv 1) (pa_cons (pv 3) pa_nil))))))))
        (pss_one (ps_ret pe_bl)) pss_nil)
      (pss_one (ps_if (pt_cmpR op_eq (pv 4) (pv 2) (nomark _)) (pss_one (ps_ret pe_bl)) pss_nil))))
    (pss_one (ps_ret pe_bl))), ?_⟩
  rw [← rather_is] at q
  refine ⟨_, rfl, rfl, _, rfl, ?_⟩
  cases x with
  | none => exact iteT q
  | some x =>
  refine iteF ?_
  refine ⟨_, rfl, _, rfl, _, rfl, a, ws, g, x, rfl, hT, g0, g1', hx.1, hx.2, _, rfl, ?_⟩
  have e0 : ratherB ws g (some x) y = if suitsB ws g x = true then scanB (suitsB ws g) x y (rowOf ws g) else false := rfl
  rw [e0] at q
  cases e1 : suitsB ws g x with
  | false =>
    rw [e1] at q
    exact iteT q
  | true =>
  rw [e1, if_pos rfl] at q
  refine iteF ?_
  obtain ⟨as, h1, h2, h3⟩ := hT.at
  obtain ⟨b, hb, hs⟩ := h3 g g0 g1'
  refine ⟨_, rfl, _, rfl, a, _, _, _, rfl, rfl, h1, hb, b, rfl, ⟨_, hs⟩, ?_⟩
  refine for_list (K := K) (a := b) (xs := (rowOf ws g).map V.int) (fun i σ H' => H' = H ∧ (∃ z, σ = [some (.ref a), some (.int g), some (.int x), some (ov y), z]) ∧
      scanB (suitsB ws g) x y (rowOf ws g) = scanB (suitsB ws g) x y ((rowOf ws g).drop i))
    ⟨rfl, ⟨none, rfl⟩, by rw [List.drop_zero]⟩ (fun i σ H' _ h => by rw [h.1]; exact hs) ?_ ?_
  · rintro i u σ H' hu ⟨rfl, ⟨z, rfl⟩, es⟩
    obtain ⟨t, ht, rfl⟩ := map_int_get hu
    obtain ⟨hi, et⟩ := List.getElem?_eq_some_iff.mp ht
    have hm : t ∈ rowOf ws g := List.mem_of_getElem? ht
    obtain ⟨t0, t1, t2⟩ := (rowOf_good hG g0 g1').rg t hm
    have ed : (rowOf ws g).drop i = t :: (rowOf ws g).drop (i + 1) := by rw [← et]; exact List.drop_eq_getElem_cons hi
    rw [ed] at es
    refine ⟨_, rfl, _, rfl, (by cases y <;> rfl), _, rfl, ?_⟩
    have e2 : decide (V.int t = ov y) = decide (some t = y) := ov_dec (some t) y
    rw [e2]
    refine ite2 (fun c => ?_) (fun c => ?_)
    · have c' : some t = y := of_decide_eq_true c
      subst c'
      refine ⟨_, rfl, _, rfl, _, rfl, a, ws, g, t, rfl, hT, g0, g1', t0, t1, _, rfl, ?_⟩
      cases e3 : suitsB ws g t with
      | true =>
        have e4 : scanB (suitsB ws g) x (some t) (t :: (rowOf ws g).drop (i + 1)) = false := by
          unfold scanB
          rw [if_pos (by rw [e3]; simp)]
        rw [es, e4] at q
        exact iteT q
      | false =>
        refine iteF ?_
        have e4 : scanB (suitsB ws g) x (some t) (t :: (rowOf ws g).drop (i + 1)) = if t = x then true else scanB (suitsB ws g) x (some t) ((rowOf ws g).drop (i + 1)) := by
          rw [scanB, if_neg (by rw [e3]; simp)]
        rw [e4] at es
        refine ⟨_, rfl, _, rfl, rfl, _, rfl, ?_⟩
        have e5 : decide (V.int t = V.int x) = decide (t = x) := by
          by_cases h : t = x
          · rw [h]; simp
          · rw [decide_eq_false h, decide_eq_false (fun z => h (by cases z; rfl))]
        rw [e5]
        refine ite2 (fun c => ?_) (fun c => ?_)
        · rw [if_pos (of_decide_eq_true c)] at es
          rw [es] at q
          exact q
        · rw [if_neg (of_decide_eq_false (Bool.eq_false_iff.mpr c))] at es
          exact ⟨rfl, ⟨_, rfl⟩, es⟩
    · have c' : ¬ some t = y := of_decide_eq_false (Bool.eq_false_iff.mpr c)
      have e4 : scanB (suitsB ws g) x y (t :: (rowOf ws g).drop (i + 1)) = if t = x then true else scanB (suitsB ws g) x y ((rowOf ws g).drop (i + 1)) := by
        rw [scanB, if_neg (by rw [decide_eq_false c']; simp)]
      rw [e4] at es
      refine ⟨_, rfl, _, rfl, rfl, _, rfl, ?_⟩
      have e5 : decide (V.int t = V.int x) = decide (t = x) := by
        by_cases h : t = x
        · rw [h]; simp
        · rw [decide_eq_false h, decide_eq_false (fun z => h (by cases z; rfl))]
      rw [e5]
      refine ite2 (fun c => ?_) (fun c => ?_)
      · rw [if_pos (of_decide_eq_true c)] at es
        rw [es] at q
        exact q
      · rw [if_neg (of_decide_eq_false (Bool.eq_false_iff.mpr c))] at es
        exact ⟨rfl, ⟨_, rfl⟩, es⟩
  · rintro σ H' ⟨rfl, ⟨z, rfl⟩, es⟩
    rw [es, List.drop_eq_nil_of_le (by rw [List.length_map]; exact Nat.le_refl _)] at q
    exact q
end
end B2

namespace B2
open PySem L2
section
variable {P : Program} {w : World} {K : PySem.W.Frag} {mg : Str → Option Value} {base : Heap}

/-! ### _law_restless -/
theorem sc_lrestless : FnScope ["_law_wishes", "_law_mates_here", "_law_found", "_law_one", "_law_other"] ["_law_wishes", "_law_mates_here"] (defScope s_lrestless) := ⟨rfl, rfl, rfl, by decide +kernel, rfl, by decide +kernel, by decide +kernel⟩
theorem ok_lrestless {f : Addr} {fd : FuncData} (F : Fun K "_law_restless" "_law_restless" s_lrestless f fd) (T : Own mg) (C1 : Cal P w K mg base 2 "_law_rather" ["_law_wishes", "_law_guest", "_law_one", "_law_other"] (sp_lrather K)) :
    FnOk P w K mg base CX0 3 f fd ["_law_wishes", "_law_mates_here"] (sp_pairs K) := by
  obtain ⟨g1, gd1, G1, m1, k1, b1⟩ := C1
  refine F.ok sc_lrestless (fun vs H Q E h => ?_) (fun cdv A outer s H vs Q E hr h => ?_)
  · obtain ⟨a, b, ws, ms, rfl, _⟩ := h
    rfl
  obtain ⟨a, b, ws, ms, rfl, hT, hG, hM, hO, q⟩ := h
  refine ⟨_, pss_cons (ps_set (i := 2) sc_lrestless.nd rfl (Or.inl rfl) (pe_lst pa_nil))
    (pss_cons (ps_for PassesOwn.never rfl (pi_range1 rfl T.rng (pa_cons (pe_callB call_len_seq (by rfl) T.len PySem.boot_len (pa_cons (pv 0) pa_nil)) pa_nil)) (pg_name (i := 3) sc_lrestless.nd rfl (Or.inl rfl))
      (pss_one (ps_for PassesOwn.never rfl (pi_range2 (by rfl) T.rng (pa_cons (pe_op op_add (pv 3) pe_int) (pa_cons (pe_callB call_len_seq (by rfl) T.len PySem.boot_len (pa_cons (pv 0) pa_nil)) pa_nil))) (pg_name (i := 4) sc_lrestless.nd rfl (Or.inl rfl))
        (pss_one (ps_if (PW.pt (pw_and (pt_val (pe_call G1 hr (by rfl) m1 k1 b1 .nil pass0 (pa_cons (pv 0) (pa_cons (pv 3) (pa_cons (pv 4) (pa_cons (pe_ix ix_list (pv 1) (pv 3) (fun _ _ => rfl)) pa_nil))))))
          (pw_and1 (pt_val (pe_call G1 hr (by rfl) m1 k1 b1 .nil pass0 (pa_cons (pv 0) (pa_cons (pv 4) (pa_cons (pv 3) (pa_cons (pe_ix ix_list (pv 1) (pv 4) (fun _ _ => rfl)) pa_nil)))))))))
          (pss_one (ps_expr (pe_bm PySem.F.plainAttrs_list PySem.F.slot_list_append PySem.F.type_list_append mt_append (pv 2) (pa_cons (pe_tup (pa_cons (pv 3) (pa_cons (pv 4) pa_nil))) pa_nil)))) pss_nil)))))
    (pss_one (ps_ret (pv 2)))), ?_⟩
  obtain ⟨as, h1, h2, h3⟩ := id hT
  have hl : (as.map V.ref).length = ws.length := by rw [List.length_map]; exact h2
  have hi := hG.hi
  have hml := hO.len
  refine ⟨(by show 0 ≤ sizeLine; decide), fun D hD => ?_⟩
  have s0 := same_new hD (.lst [])
  refine ⟨_, rfl, a, _, rfl, .inl (s0.seq h1), (((as.map V.ref).length : Nat) : Int), rfl, by rw [hl]; omega, by rw [hl]; omega, ?_⟩
  refine for_range (lo := 0) (n := (((as.map V.ref).length : Nat) : Int).toNat) (fun i σ H' => BuiltF tupO H D (wildUp ws ms ws.length i) H' ∧ ∃ y z, σ = [some (.ref a), some (.ref b), some (.ref D), y, z])
    ⟨built_start hD, none, none, rfl⟩ ?_ ?_
  · rintro i σ H2 hin ⟨hB, y, z, rfl⟩
    have hin' : i < ws.length := by rw [hl] at hin; omega
    have ei : (0 : Int) + (i : Int) = (i : Int) := Int.zero_add _
    rw [ei]
    refine ⟨_, rfl, _, _, rfl, rfl, _, rfl, a, _, rfl, .inl (hB.1.seq h1), _, _, rfl, ⟨by omega, by omega, by rw [hl]; omega, by rw [hl]; omega⟩, ?_⟩
    rw [hl]
    have en : (((ws.length : Nat) : Int) - ((i : Int) + 1)).toNat = ws.length - (i + 1) := by omega
    refine for_range (lo := (i : Int) + 1) (n := (((ws.length : Nat) : Int) - ((i : Int) + 1)).toNat) (fun t σ H' => BuiltF tupO H D (wildUp ws ms ws.length i ++ wildIn ws ms i t) H' ∧ ∃ z, σ = [some (.ref a), some (.ref b), some (.ref D), some (.int (i : Int)), z])
      ⟨by show BuiltF tupO H D (wildUp ws ms ws.length i ++ []) H2; rw [List.append_nil]; exact hB, _, rfl⟩ ?_ ?_
    · rintro t σ H4 hlt ⟨hB2, z, rfl⟩
      have hT4 := hT.same hB2.1
      have hM4 := hB2.1.seq hM
      refine ⟨_, rfl, _, rfl, _, rfl, _, rfl, _, rfl, b, _, _, _, rfl, rfl, hM4, mt_at (ms := ms) (i := (i : Int)) (by omega) (by omega), ?_⟩
      refine ⟨a, ws, (i : Int), some ((i : Int) + 1 + (t : Int)), mt ms (i : Int), rfl, hT4, hG, by omega, by omega, ⟨by omega, by omega⟩, _, rfl, ?_⟩
      have ew : wildIn ws ms i (t + 1) = wildIn ws ms i t ++ (if wild ws ms (i : Int) ((i : Int) + 1 + (t : Int)) = true then [((i : Int), (i : Int) + 1 + (t : Int))] else []) := rfl
      have eu : wild ws ms (i : Int) ((i : Int) + 1 + (t : Int)) = (aheadB ws (i : Int) (some ((i : Int) + 1 + (t : Int))) (mt ms (i : Int)) && aheadB ws ((i : Int) + 1 + (t : Int)) (some (i : Int)) (mt ms ((i : Int) + 1 + (t : Int)))) := rfl
      rw [ew, eu]
      cases e1 : aheadB ws (i : Int) (some ((i : Int) + 1 + (t : Int))) (mt ms (i : Int)) with
      | false =>
        rw [Bool.false_and]
        refine iteF ⟨?_, _, rfl⟩
        show BuiltF tupO H D (wildUp ws ms ws.length i ++ (wildIn ws ms i t ++ [])) H4
        rw [List.append_nil]
        exact hB2
      | true =>
        rw [Bool.true_and]
        refine iteT ?_
        refine ⟨_, rfl, _, rfl, _, rfl, _, rfl, _, rfl, b, _, _, _, rfl, rfl, hM4, mt_at (ms := ms) (i := (i : Int) + 1 + (t : Int)) (by omega) (by omega), ?_⟩
        refine ⟨a, ws, (i : Int) + 1 + (t : Int), some (i : Int), mt ms ((i : Int) + 1 + (t : Int)), rfl, hT4, hG, by omega, by omega, ⟨by omega, by omega⟩, _, rfl, ?_⟩
        cases e2 : aheadB ws ((i : Int) + 1 + (t : Int)) (some (i : Int)) (mt ms ((i : Int) + 1 + (t : Int))) with
        | false =>
          refine iteF ⟨?_, _, rfl⟩
          show BuiltF tupO H D (wildUp ws ms ws.length i ++ (wildIn ws ms i t ++ [])) H4
          rw [List.append_nil]
          exact hB2
        | true =>
          refine iteT ?_
          obtain ⟨as2, y1, y2, y3⟩ := id hB2.2
          refine ⟨_, rfl, .inl ⟨rfl, _, SqL.of y1⟩, _, rfl, _, rfl, (by show 2 ≤ sizeLine; decide), fun p hp => ?_⟩
          obtain ⟨acc, z1, z2, z3⟩ := built_step (r := ((i : Int), (i : Int) + 1 + (t : Int))) hD hB2 (same_new hp _) hp upd_same
          refine ⟨D, _, _, rfl, rfl, z1, ?_, ?_, _, rfl⟩
          · have l1 := wildUp_le ws ms ws.length i
            have l2 := wildIn_le ws ms i t
            have l3 : i * ws.length ≤ 6 * 6 := Nat.mul_le_mul (by omega) (by omega)
            rw [z2, List.length_append]
            exact small1000 (by omega)
          · show BuiltF tupO H D (wildUp ws ms ws.length i ++ (wildIn ws ms i t ++ [((i : Int), (i : Int) + 1 + (t : Int))])) _
            rw [← List.append_assoc]
            exact z3
    · rintro σ H' ⟨h, z, rfl⟩
      rw [en] at h
      exact ⟨h, _, _, rfl⟩
  · rintro σ H' ⟨h, y, z, rfl⟩
    have e : (((as.map V.ref).length : Nat) : Int).toNat = ws.length := by rw [hl]; omega
    rw [e] at h
    exact ⟨_, rfl, q H' D hD h⟩
end
end B2

namespace B2
open PySem L2
section
variable {P : Program} {w : World} {K : PySem.W.Frag} {mg : Str → Option Value} {base : Heap}

/-! ### _law_whole -/
theorem sc_whole : FnScope ["_law_found"] ["_law_found"] (defScope s_whole) := ⟨rfl, rfl, rfl, by decide +kernel, rfl, by decide +kernel, by decide +kernel⟩
def sp_whole : Sp := fun vs H Q _ => ∃ (i : Int), vs = [.int i] ∧ Q (.bl true) H
theorem ok_whole {f : Addr} {fd : FuncData} (F : Fun K "_law_whole" "_law_whole" s_whole f fd) (T : Own mg) : FnOk P w K mg base CX0 1 f fd ["_law_found"] sp_whole := by
  refine F.ok sc_whole (fun vs H Q E h => ?_) (fun cdv A outer s H vs Q E hr h => ?_)
  · obtain ⟨i, rfl, _⟩ := h
    rfl
  obtain ⟨i, rfl, q⟩ := h
  refine ⟨_, pss_one (ps_ret (pe_and (pe_callB call_isi (by rfl) T.isI (by decide +kernel) (pa_cons (pv 0) (pa_cons (pe_bltn (v := .ty "int") (by rfl) T.int (by decide +kernel) rfl) pa_nil)))
      (pe_one (pe_not (pe_callB call_isi (by rfl) T.isI (by decide +kernel) (pa_cons (pv 0) (pa_cons (pe_bltn (v := .ty "bool") (by rfl) T.bool (by decide +kernel) rfl) pa_nil))))))), ?_⟩
  exact ⟨_, rfl, _, _, _, _, _, rfl, .ty _, .base (.int i), kit_ii, _, rfl, _, rfl, _, _, _, _, _, rfl, .ty _, .base (.int i), kit_ib, _, rfl, q⟩

end
end B2

namespace B2
open PySem L2
section
variable {P : Program} {w : World} {K : PySem.W.Frag} {mg : Str → Option Value} {base : Heap}

/-! ### _law_mates, asked of any guests and Nones -/
theorem sc_lmates : FnScope ["_law_wishes", "_law_mates_here", "_law_guest", "_law_mate"] ["_law_wishes", "_law_mates_here"] (defScope s_lmates) := ⟨rfl, rfl, rfl, by decide +kernel, rfl, by decide +kernel, by decide +kernel⟩
def sp_lmates2 (K : PySem.W.Frag) : Sp := fun vs H Q _ => ∃ (a b : Addr) (ws : List (List Int)) (ms : List (Option Int)), vs = [.ref a, .ref b] ∧ Tab K H a ws ∧ ws.length ≤ 6 ∧ SqL K H b (ms.map ov) ∧ ms.length = ws.length ∧
  (∀ i : Int, 0 ≤ i → i < (ws.length : Int) → OkO ws.length (mt ms i)) ∧ ∀ t : Bool, (t = true ↔ OkMates ws ms) → Q (.bl t) H
theorem ok_lmates2 {f : Addr} {fd : FuncData} (F : Fun K "_law_mates" "_law_mates" s_lmates f fd) (T : Own mg) (C1 : Cal P w K mg base 1 "_law_whole" ["_law_found"] sp_whole)
    (C2 : Cal P w K mg base 1 "_law_suits" ["_law_wishes", "_law_one", "_law_other"] (sp_in_both K)) : FnOk P w K mg base CX0 2 f fd ["_law_wishes", "_law_mates_here"] (sp_lmates2 K) := by
  obtain ⟨g1, gd1, G1, m1, k1, b1⟩ := C1
  obtain ⟨g2, gd2, G2, m2, k2, b2⟩ := C2
  refine F.ok sc_lmates (fun vs H Q E h => ?_) (fun cdv A outer s H vs Q E hr h => ?_)
  · obtain ⟨a, b, ws, ms, rfl, _⟩ := h
    rfl
  obtain ⟨a, b, ws, ms, rfl, hT, h6, hM, hml, hoo, q⟩ := h
  refine ⟨_, pss_cons (ps_if (PW.pt (pw_or (pt_not (pt_val (pe_callB call_isi (by rfl) T.isI (by decide +kernel) (pa_cons (pv 1) (pa_cons (pe_bltn (v := .ty "list") (by rfl) T.list (by decide +kernel) rfl) pa_nil)))))
        (pw_or1 (pt_cmpR op_ne (pe_callB call_len_seq (by rfl) T.len PySem.boot_len (pa_cons (pv 1) pa_nil)) (pe_callB call_len_seq (by rfl) T.len PySem.boot_len (pa_cons (pv 0) pa_nil)) (nomark _))))) (pss_one (ps_ret pe_bl)) pss_nil)
    (pss_cons (ps_for PassesOwn.never rfl (pi_range1 rfl T.rng (pa_cons (pe_callB call_len_seq (by rfl) T.len PySem.boot_len (pa_cons (pv 1) pa_nil)) pa_nil)) (pg_name (i := 2) sc_lmates.nd rfl (Or.inl rfl))
      (pss_cons (ps_set (i := 3) sc_lmates.nd rfl (Or.inl rfl) (pe_ix ix_list (pv 1) (pv 2) (fun _ _ => rfl)))
      (pss_one (ps_if (pt_cmpR op_notN (pv 3) pe_non (nomark _))
        (pss_cons (ps_if (PW.pt (pw_or (pt_not (pt_val (pe_call G1 hr (by rfl) m1 k1 b1 .nil pass0 (pa_cons (pv 3) pa_nil))))
            (pw_or (pt_cmpR op_lt (pv 3) pe_int (nomark _))
            (pw_or (pt_cmpR op_ge (pv 3) (pe_callB call_len_seq (by rfl) T.len PySem.boot_len (pa_cons (pv 1) pa_nil)) (nomark _))
            (pw_or1 (pt_cmpR op_ne (pe_ix ix_list (pv 1) (pv 3) (fun _ _ => rfl)) (pv 2) (nomark _))))))) (pss_one (ps_ret pe_bl)) pss_nil)
        (pss_one (ps_if (pt_not (pt_val (pe_call G2 hr (by rfl) m2 k2 b2 .nil pass0 (pa_cons (pv 0) (pa_cons (pv 2) (pa_cons (pv 3) pa_nil)))))) (pss_one (ps_ret pe_bl)) pss_nil))) pss_nil))))
    (pss_one (ps_ret pe_bl))), ?_⟩
  obtain ⟨as, h1, h2, h3⟩ := id hT
  have hl : (as.map V.ref).length = ws.length := by rw [List.length_map]; exact h2
  have hml2 : (ms.map ov).length = ws.length := by rw [List.length_map]; exact hml
  refine ⟨_, rfl, _, _, _, _, _, rfl, .ty _, ty_list hM, kit_ll, _, rfl, iteF ?_⟩
  refine ⟨_, rfl, b, _, rfl, .inl hM, _, rfl, a, _, rfl, .inl h1, rfl, _, rfl, ?_⟩
  rw [decide_eq_true (show V.int ((ms.map ov).length : Nat) = V.int ((as.map V.ref).length : Nat) by rw [hml2, hl])]
  refine iteF ?_
  refine ⟨_, rfl, b, _, rfl, .inl hM, (((ms.map ov).length : Nat) : Int), rfl, by rw [hml2]; omega, by rw [hml2]; omega, ?_⟩
  refine for_range (lo := 0) (n := (((ms.map ov).length : Nat) : Int).toNat) (fun i σ H' => H' = H ∧ (∀ j : Int, 0 ≤ j → j < (i : Int) → ∀ m, mt ms j = some m → mt ms m = some j ∧ suitsB ws j m = true) ∧ ∃ y z, σ = [some (.ref a), some (.ref b), y, z])
    ⟨rfl, (fun j j0 j1 => by omega), none, none, rfl⟩ ?_ ?_
  · rintro i σ H' hin ⟨rfl, hd, y, z, rfl⟩
    have hin' : i < ws.length := by rw [hml2] at hin; omega
    have ei : (0 : Int) + (i : Int) = (i : Int) := Int.zero_add _
    rw [ei]
    have oi := hoo (i : Int) (by omega) (by omega)
    have more : (∀ m, mt ms (i : Int) = some m → mt ms m = some (i : Int) ∧ suitsB ws (i : Int) m = true) → ∀ j : Int, 0 ≤ j → j < ((i + 1 : Nat) : Int) → ∀ m, mt ms j = some m → mt ms m = some j ∧ suitsB ws j m = true := fun h j j0 j1 m hm => by
      by_cases c : j = (i : Int)
      · rw [c] at hm ⊢; exact h m hm
      · exact hd j j0 (by omega) m hm
    refine ⟨_, rfl, _, rfl, b, _, _, _, rfl, rfl, hM, mt_at (ms := ms) (i := (i : Int)) (by omega) (by omega), ?_⟩
    refine ⟨_, rfl, rfl, _, rfl, ?_⟩
    rw [ov_non]
    cases e1 : mt ms (i : Int) with
    | none => exact iteF ⟨rfl, more (fun m hm => by rw [e1] at hm; cases hm), _, _, rfl⟩
    | some m =>
    rw [e1] at oi
    obtain ⟨p0, p1⟩ := (show 0 ≤ m ∧ m < (ws.length : Int) from oi)
    refine iteT ?_
    refine ⟨_, rfl, m, rfl, _, rfl, iteF ?_⟩
    refine ⟨_, rfl, _, _, rfl, rfl, _, rfl, ?_⟩
    rw [decide_eq_false (show ¬ m < 0 by omega)]
    refine iteF ?_
    refine ⟨_, rfl, _, rfl, b, _, rfl, .inl hM, _, _, rfl, rfl, _, rfl, ?_⟩
    rw [decide_eq_false (show ¬ m ≥ (((ms.map ov).length : Nat) : Int) by rw [hml2]; omega)]
    refine iteF ?_
    refine ⟨_, rfl, _, rfl, b, _, _, _, rfl, rfl, hM, mt_at (ms := ms) p0 (by omega), ?_⟩
    have bad : ¬ (mt ms m = some (i : Int) ∧ suitsB ws (i : Int) m = true) → Q (.bl false) H' := fun nb => q false ⟨(fun z => nomatch z), fun o => by
      have := o.pr (i : Int) m (by omega) (by omega) e1
      exact absurd ⟨this.2.2.1, this.2.2.2⟩ nb⟩
    refine ⟨_, rfl, (by cases mt ms m <;> rfl), _, rfl, ?_⟩
    have ed : decide (ov (mt ms m) = V.int (i : Int)) = decide (mt ms m = some (i : Int)) := ov_dec (mt ms m) (some (i : Int))
    rw [ed]
    by_cases c : mt ms m = some (i : Int)
    · rw [decide_eq_true c]
      refine iteF ?_
      refine ⟨_, rfl, _, rfl, _, rfl, a, ws, (i : Int), m, rfl, hT, by omega, by omega, p0, p1, _, rfl, ?_⟩
      cases e4 : suitsB ws (i : Int) m with
      | false => exact iteT (bad (fun z => by rw [e4] at z; cases z.2))
      | true => exact iteF ⟨rfl, more (fun m' hm => by rw [e1] at hm; cases hm; exact ⟨c, e4⟩), _, _, rfl⟩
    · rw [decide_eq_false c]
      exact iteT (bad (fun z => c z.1))
  · rintro σ H' ⟨rfl, hd, y, z, rfl⟩
    have en : ((((ms.map ov).length : Nat) : Int).toNat : Int) = (ws.length : Int) := by rw [hml2]; omega
    refine q true ⟨fun _ => ⟨hml, fun i m i0 i1 h => ?_⟩, fun _ => rfl⟩
    have o := hoo i i0 i1
    rw [h] at o
    have d := hd i i0 (by omega) m h
    exact ⟨o.1, o.2, d.1, d.2⟩
end
end B2

namespace B2
open PySem L2
theorem calm_to {ws : List (List Int)} {ms : List (Option Int)} (c : Calm ws ms) : (wildAll ws ms).isEmpty = true := by
  have h1 : ∀ (i t : Nat), i + 1 + t ≤ ws.length → wildIn ws ms i t = [] := by
    intro i t
    induction t with
    | zero => exact fun _ => rfl
    | succ t ih =>
      intro ht
      unfold wildIn
      rw [ih (by omega), c (i : Int) ((i : Int) + 1 + (t : Int)) (by omega) (by omega) (by omega) (by omega) (by omega)]
      rfl
  have h2 : ∀ k, k ≤ ws.length → wildUp ws ms ws.length k = [] := by
    intro k
    induction k with
    | zero => exact fun _ => rfl
    | succ k ih =>
      intro hk
      unfold wildUp
      rw [ih (by omega), h1 k _ (by omega)]
      rfl
  unfold wildAll
  rw [h2 _ (Nat.le_refl _)]
  rfl
/-- calm mates are told -/
theorem calm_in {ws : List (List Int)} (hG : Good ws) {ms : List (Option Int)} (o : OkMates ws ms) (c : Calm ws ms) : ms ∈ allCalm ws :=
  List.mem_filter.mpr ⟨all_in hG o, calm_to c⟩
theorem calm_out {ws : List (List Int)} {ms : List (Option Int)} (h : ms ∈ allCalm ws) : OkMates ws ms ∧ Calm ws ms :=
  ⟨stage_ok ws ws.length (Nat.le_refl _) ms (List.mem_filter.mp h).1, calm_of (List.mem_filter.mp h).2⟩

end B2

namespace B2
open PySem L2
/-! ### Mates or None, as data -/
def dO : Option (List (Option Int)) → PyData
  | none => .none
  | some ms => dL (ms.map ov)
theorem dO_shaped : ∀ mo, SeqAt.shaped (dO mo) = true
  | none => by decide +kernel
  | some ms => dL_shaped _
theorem dO_refl : ∀ mo, (dO mo).eqv (dO mo) = true
  | none => by decide +kernel
  | some ms => dL_refl _
/-- what is due: None, or a list of these mates -/
def DueAt (H : Hp) (dv : V) (mo : Option (List (Option Int))) : Prop := (dv = .non ∧ mo = none) ∨ ∃ (d : Addr) (ms : List (Option Int)), dv = .ref d ∧ mo = some ms ∧ H d = some (fm ms)
theorem DueAt.same {H H' : Hp} {dv : V} {mo : Option (List (Option Int))} (e : Same H H') (h : DueAt H dv mo) : DueAt H' dv mo := by
  rcases h with h | ⟨d, ms, h1, h2, h3⟩
  · exact .inl h
  · exact .inr ⟨d, ms, h1, h2, e _ _ h3⟩
theorem DueAt.dp {K : PySem.W.Frag} {H : Hp} {dv : V} {mo : Option (List (Option Int))} (h : DueAt H dv mo) : Dp K H dv (dO mo) := by
  rcases h with ⟨rfl, rfl⟩ | ⟨d, ms, rfl, rfl, h3⟩
  · exact .non
  · exact .lst (SqL.of h3) (dpAll_plain _ (flat_ovs ms))
/-- .. that was just made -/
def NewAt (H H' : Hp) (v : V) (mo : Option (List (Option Int))) : Prop := (v = .non ∧ mo = none) ∨ ∃ (l : Addr) (ms : List (Option Int)), v = .ref l ∧ mo = some ms ∧ H l = none ∧ H' l = some (fm ms)
theorem NewAt.due {H H' : Hp} {v : V} {mo : Option (List (Option Int))} (h : NewAt H H' v mo) : DueAt H' v mo := by
  rcases h with h | ⟨d, ms, h1, h2, _, h3⟩
  · exact .inl h
  · exact .inr ⟨d, ms, h1, h2, h3⟩
theorem NewAt.same {H H1 H2 : Hp} {v : V} {mo : Option (List (Option Int))} (h : NewAt H H1 v mo) (e : Same H1 H2) : NewAt H H2 v mo := by
  rcases h with h | ⟨d, ms, h1, h2, h3, h4⟩
  · exact .inl h
  · exact .inr ⟨d, ms, h1, h2, h3, e _ _ h4⟩
theorem NewAt.back {H0 H H1 : Hp} {v : V} {mo : Option (List (Option Int))} (s : Same H0 H) (h : NewAt H H1 v mo) : NewAt H0 H1 v mo := by
  rcases h with h | ⟨d, ms, h1, h2, h3, h4⟩
  · exact .inl h
  · exact .inr ⟨d, ms, h1, h2, s.free h3, h4⟩
theorem int_decT (i j : Int) : decide (V.int i = V.int j) = decide (i = j) := by
  by_cases h : i = j
  · rw [h]; simp
  · rw [decide_eq_false h, decide_eq_false (fun z => h (by cases z; rfl))]
theorem atI_zero {α : Type} {xs : List α} {x : α} (h : xs[0]? = some x) : atI xs 0 = some x := atI_nat (j := 0) h
section
variable {P : Program} {w : World} {K : PySem.W.Frag} {mg : Str → Option Value} {base : Heap}

/-! ### _law_first -/
theorem sc_lfirst : FnScope ["_law_wishes", "_law_some", "_law_row"] ["_law_wishes"] (defScope s_lfirst) := ⟨rfl, rfl, rfl, by decide +kernel, rfl, by decide +kernel, by decide +kernel⟩
def sp_lfirst (K : PySem.W.Frag) : Sp := fun vs H Q _ => ∃ (a : Addr) (ws : List (List Int)), vs = [.ref a] ∧ Tab K H a ws ∧ Good ws ∧ ∀ (H' : Hp) (v : V), Same H H' → NewAt H H' v (allCalm ws).head? → Q v H'
theorem ok_lfirst {f : Addr} {fd : FuncData} (F : Fun K "_law_first" "_law_first" s_lfirst f fd) (T : Own mg) (C1 : Cal P w K mg base 5 "all_calm" ["wishes"] (sp_all_calm K)) : FnOk P w K mg base CX0 6 f fd ["_law_wishes"] (sp_lfirst K) := by
  obtain ⟨g1, gd1, G1, m1, k1, b1⟩ := C1
  refine F.ok sc_lfirst (fun vs H Q E h => ?_) (fun cdv A outer s H vs Q E hr h => ?_)
  · obtain ⟨a, ws, rfl, _⟩ := h
    rfl
  obtain ⟨a, ws, rfl, hT, hG, q⟩ := h
  refine ⟨_, pss_cons (ps_set (i := 1) sc_lfirst.nd rfl (Or.inl rfl) (pe_call G1 hr (by rfl) m1 k1 b1 .nil pass0 (pa_cons (pe_lc (own := [("_law_row", 2)]) (g := gName 2) (tt := tYes) rfl sc_lfirst.nd (pi_list (pv 0))
        (blkOk_by (N := ["_law_wishes", "_law_some", "_law_row"]) (sc := defScope s_lfirst) (by decide +kernel))
        (fun _ _ _ _ _ => pg_name (i := 2) sc_lfirst.nd rfl (Or.inl rfl)) (fun _ _ _ _ _ => pts_nil) (fun _ _ _ _ _ => pe_callTy (T := "list") (call_lof (K := K) rfl) (by rfl) T.list (by decide +kernel) (pa_cons (pv 2) pa_nil))) pa_nil)))
    (pss_cons (ps_if (pt_cmpR op_eq (pe_callB call_len_seq (by rfl) T.len PySem.boot_len (pa_cons (pv 1) pa_nil)) pe_int (nomark _)) (pss_one (ps_ret pe_non)) pss_nil)
    (pss_one (ps_ret (pe_ix ix_list (pv 1) pe_int (fun _ _ => rfl))))), ?_⟩
  obtain ⟨as, t1, t2, t3⟩ := id hT
  have h6 := hG.hi
  refine ⟨_, rfl, a, rfl, ⟨_, t1⟩, fun L hL => ?_⟩
  refine lc_list (K := K) (a := a) (xs := as.map V.ref) (fun i H' => Built H L ((ws.take i).map fun r => r.map V.int) H') (built_start hL) (fun i H' _ h => h.1.seq t1) ?_ ?_
  · rintro i x H2 hx hB
    obtain ⟨b, hb, rfl⟩ := map_ref_get hx
    have hi : i < ws.length := by rw [← t2]; exact (List.getElem?_eq_some_iff.mp hb).1
    obtain ⟨b', hb', hs⟩ := t3 i ws[i] (List.getElem?_eq_getElem hi)
    rw [hb] at hb'
    cases hb'
    refine ⟨rfl, _, rfl, b, _, rfl, .inl (hB.1.seq hs), fun l hl => ?_⟩
    obtain ⟨acc, z1, z2, z3⟩ := built_step (f := HO.lst) (r := ws[i].map V.int) hL hB (same_new hl _) hl upd_same
    refine ⟨acc, z1, ?_, ?_⟩
    · rw [z2, List.length_map, List.length_take]
      exact small1000 (by omega)
    · rw [take_one (List.getElem?_eq_getElem hi), List.map_append]
      exact z3
  · rintro H2 hB
    rw [List.length_map, t2, List.take_length] at hB
    refine ⟨L, ws, rfl, hB.tab.t, hG, fun H3 p hp hC => ?_⟩
    have e3 := hB.1.trans hC.1
    obtain ⟨ls, l1, l2, l3⟩ := id hC.2
    refine ⟨_, rfl, p, _, rfl, .inl (SqL.of l1), rfl, _, rfl, ?_⟩
    rw [List.length_map, l2, int_decT]
    cases hh : allCalm ws with
    | nil =>
      refine iteT (q H3 .non e3 (.inl ⟨rfl, ?_⟩))
      rw [hh]; rfl
    | cons ms l =>
      rw [decide_eq_false (by rw [List.length_cons]; omega)]
      refine iteF ?_
      obtain ⟨c, c1, c2, c3, c4⟩ := l3 0 ms (by rw [hh]; rfl)
      refine ⟨_, rfl, p, _, _, _, rfl, rfl, SqL.of l1, atI_zero (by rw [List.getElem?_map, c1]; rfl), ?_⟩
      exact q H3 (.ref c) e3 (.inr ⟨c, ms, rfl, by rw [hh]; rfl, hB.1.free c4, c2⟩)

/-! ### _law_refused -/
theorem sc_lrefused : FnScope ["_law_inn", "_law_guest", "_law_row"] ["_law_inn", "_law_guest", "_law_row"] (defScope s_lrefused) := ⟨rfl, rfl, rfl, by decide +kernel, rfl, by decide +kernel, by decide +kernel⟩
def sp_lrefused (K : PySem.W.Frag) (C : Addr) : Sp := fun vs H Q _ => ∃ (D : Addr → Prop) (p t : Addr) (ws : List (List Int)) (mo : Option (List (Option Int))) (g : Nat) (rv : V), vs = [.ref p, .int g, rv] ∧ InnAt C D H p t ws mo ∧ Good ws ∧ g < ws.length ∧ RowBad K H ws.length (g : Int) rv ∧
  ∀ H', Same H H' → Q (.bl true) H'
theorem ok_lrefused {C fS fT cG cW : Addr} {fdT : FuncData} {f : Addr} {fd : FuncData} (F : Fun K "_law_refused" "_law_refused" s_lrefused f fd) (X : TxtI K mg C fS) (gW : mg "BadWishes" = some (.ref cW)) (eW : PySem.W.exmOne K (.ref cW) (.ref cW) = some true)
    (mT : Meth K C "turn" fT) (bT : Binds K fdT ["self", "guest", "row"] []) (GT : FnOk P w K mg base (L2.CX P w) 7 fT fdT ["self", "guest", "row"] (sp_inn_turn K C cG cW)) : FnOk P w K mg base CX0 8 f fd ["_law_inn", "_law_guest", "_law_row"] (sp_lrefused K C) := by
  refine F.ok sc_lrefused (fun vs H Q E h => ?_) (fun cdv A outer s H vs Q E hr h => ?_)
  · obtain ⟨D, p, t, ws, mo, g, rv, rfl, _⟩ := h
    rfl
  obtain ⟨D, p, t, ws, mo, g, rv, rfl, hI, hG, hg, hB, q⟩ := h
  refine ⟨_, pss_cons (ps_try_only rfl rfl ⟨rfl, by decide, .inl gW⟩ takes0
        (fun W pn xe tk _ => pss_one (ps_expr (pe_meth (E := fun cls d H' => ∀ σ, W cls d σ H') (pv 0) X.cl mT GT hr bT .nil (passes_call tk fun _ _ σ _ h => h σ) (pa_cons (pv 1) (pa_cons (pv 2) pa_nil)))))
        (fun a oe cls d pn _ _ => pss_one (ps_ret pe_bl)))
      (pss_one (ps_ret pe_bl)), ?_⟩
  obtain ⟨⟨dx, mv, h1, hm⟩, _⟩ := id hI
  have noT : (inf t mv).lookup ("turn" : Str) = none := inf_no _ _ (by decide +kernel) (by decide +kernel)
  refine ⟨_, rfl, p, dx, _, rfl, h1, noT, _, rfl, _, rfl, D, p, t, ws, mo, _, _, rfl, hI, hG, .inr (.inr ⟨g, rfl, hg, hB, fun H' e σ => ?_⟩)⟩
  exact ⟨true, eW, fun _ a ha => q H' e, fun z => nomatch z⟩

/-! ### _law_deeds -/
theorem sc_ldeeds : FnScope ["_law_script", "_law_many", "_law_more"] ["_law_script", "_law_many"] (defScope s_ldeeds) := ⟨rfl, rfl, rfl, by decide +kernel, rfl, by decide +kernel, by decide +kernel⟩
def sp_ldeeds (K : PySem.W.Frag) : Sp := fun vs H Q _ => ∃ (a : Addr) (cs : List Int) (n : Int), vs = [.ref a, .int n] ∧ SqL K H a (cs.map V.int) ∧
  ∀ (H' : Hp) (p : Addr) (ds : List Int), Same H H' → H p = none → H' p = some (.lst (ds.map V.int)) → ds.length ≤ 10 → Q (.ref p) H'
theorem cut_deeds (cs : List Int) {k : Nat} (hk : k ≤ 20) : ∃ ds : List Int, cutV (cs.map V.int) (some 10) (some (k : Int)) = ds.map V.int ∧ ds.length ≤ 10 := by
  refine ⟨(cs.drop (min 10 cs.length)).take (min k cs.length - min 10 cs.length), ?_, ?_⟩
  · unfold cutV
    have e1 : HT.sIx (cs.map V.int).length 0 (some 10) = min 10 cs.length := by
      rw [List.length_map]; exact HT.sIx_nat _ _ 10
    have e2 : HT.sIx (cs.map V.int).length (cs.map V.int).length (some (k : Int)) = min k cs.length := by
      rw [List.length_map]; exact HT.sIx_nat _ _ k
    rw [e1, e2, List.map_take, List.map_drop]
  · rw [List.length_take]
    omega
theorem ok_ldeeds {f : Addr} {fd : FuncData} (F : Fun K "_law_deeds" "_law_deeds" s_ldeeds f fd) (T : Own mg) (C1 : Cal P w K mg base 1 "_law_cell_at" ["_law_script", "_law_k"] (sp_cell_at K)) : FnOk P w K mg base CX0 2 f fd ["_law_script", "_law_many"] (sp_ldeeds K) := by
  obtain ⟨g1, gd1, G1, m1, k1, b1⟩ := C1
  refine F.ok sc_ldeeds (fun vs H Q E h => ?_) (fun cdv A outer s H vs Q E hr h => ?_)
  · obtain ⟨a, cs, n, rfl, _⟩ := h
    rfl
  obtain ⟨a, cs, n, rfl, hS, q⟩ := h
  refine ⟨_, pss_cons (ps_set (i := 2) sc_ldeeds.nd rfl (Or.inl rfl) (pe_op op_fdiv (pe_call G1 hr (by rfl) m1 k1 b1 .nil pass0 (pa_cons (pv 0) (pa_cons pe_int pa_nil))) pe_int))
    (pss_cons (ps_if (PW.pt (pw_and (pt_cmpR op_eq (pv 1) pe_int (nomark _)) (pw_and1 (pt_cmpR op_ne (pe_op op_mod (pv 2) pe_int) pe_int (nomark _))))) (pss_one (ps_ret (pe_slice sl_list (pv 0) (po_some pe_int) (po_some pe_int)))) pss_nil)
    (pss_cons (ps_if (pt_cmpR op_eq (pv 1) pe_int (nomark _)) (pss_one (ps_ret (pe_slice sl_list (pv 0) (po_some pe_int) (po_some (pe_op op_add pe_int (pe_op op_mul pe_int
        (pe_callTy (T := "int") call_int1 (by rfl) T.int (by decide +kernel) (pa_cons (pe_cmpR op_eq (pe_op op_mod (pv 2) pe_int) pe_int (nomark _)) pa_nil)))))))) pss_nil)
    (pss_one (ps_ret (pe_slice sl_list (pv 0) (po_some pe_int) (po_some pe_int)))))), ?_⟩
  have fin : ∀ k : Nat, k ≤ 20 → ∀ l : Addr, H l = none → Q (.ref l) (upd H l (.lst (cutV (cs.map V.int) (some 10) (some (k : Int))))) := fun k hk l hl => by
    obtain ⟨ds, e, h10⟩ := cut_deeds cs hk
    rw [e]
    exact q _ l ds (same_new hl _) hl upd_same h10
  refine ⟨_, rfl, a, cs, 0, rfl, hS, by decide, fun c => ?_⟩
  refine ⟨_, _, rfl, rfl, ⟨by decide, by decide⟩, ?_⟩
  have two : (fun (σ : L2.St) (H' : Hp) => H' = H ∧ σ = [some (.ref a), some (.int n), some (.int (c / 18))]) [some (.ref a), some (.int n), some (.int (c / 18))] H := ⟨rfl, rfl⟩
  have rest : n = 6 ∨ n ≠ 6 := by omega
  refine ⟨_, rfl, rfl, _, rfl, ?_⟩
  have third : tIf (fun σ H Q => Q true H) (fun σ H Q => Q V.non H) (fun σ H Q => Q V.non H) ([] : L2.St) H (fun _ _ => True) := trivial
  clear third two
  refine ite2 (fun c1 => ?_) (fun c1 => ?_)
  · have n5 : n = 5 := by
      have := of_decide_eq_true c1
      cases this; rfl
    refine ⟨_, rfl, _, _, rfl, rfl, (by show (0 : Int) < 8; decide), rfl, _, rfl, ?_⟩
    refine ite2 (fun c2 => ?_) (fun c2 => ?_)
    · refine ⟨_, rfl, _, rfl, _, rfl, a, _, rfl, hS, fun l hl => ?_⟩
      exact fin 12 (by decide) l hl
    · refine ⟨_, rfl, rfl, _, rfl, ?_⟩
      rw [int_decT, decide_eq_false (by omega)]
      refine iteF ⟨_, rfl, _, rfl, _, rfl, a, _, rfl, hS, fun l hl => ?_⟩
      exact fin 20 (by decide) l hl
  · refine ⟨_, rfl, rfl, _, rfl, ?_⟩
    refine ite2 (fun c2 => ?_) (fun c2 => ?_)
    · refine ⟨_, rfl, _, rfl, _, rfl, _, _, rfl, rfl, (by show (0 : Int) < 16; decide), rfl, .inr ⟨_, rfl, ?_⟩⟩
      refine ⟨_, _, rfl, rfl, .inl ⟨by decide, by decide⟩, _, _, rfl, rfl, _, rfl, a, _, rfl, hS, fun l hl => ?_⟩
      cases decide (V.int (c / 18 % 16) = V.int 1) with
      | false => exact fin 12 (by decide) l hl
      | true => exact fin 15 (by decide) l hl
    · refine ⟨_, rfl, _, rfl, _, rfl, a, _, rfl, hS, fun l hl => ?_⟩
      exact fin 20 (by decide) l hl
end
end B2

namespace B2
open PySem L2
section
variable {P : Program} {w : World} {K : PySem.W.Frag} {mg : Str → Option Value} {base : Heap}

/-! ### _law_held -/
def sp_twosN (C : Addr) : Sp := fun vs H Q _ => ∃ (D : Addr → Prop) (p t : Addr) (ws : List (List Int)) (mo : Option (List (Option Int))), vs = [.ref p] ∧ InnAt C D H p t ws mo ∧ ∀ (v : V) (H' : Hp), Same H H' → NewAt H H' v mo → Q v H'
theorem twosN {C f : Addr} {fd : FuncData} (G : FnOk P w K mg base CX0 1 f fd ["self"] (sp_inn_twos C)) : FnOk P w K mg base CX0 1 f fd ["self"] (sp_twosN C) :=
  G.imp fun vs H Q E ⟨D, p, t, ws, mo, e, hI, q⟩ => ⟨D, p, t, ws, mo, e, hI, fun em => q .non H (Same.refl H) (.inl ⟨rfl, em⟩), fun ms H' l em s hl hat => q (.ref l) H' s (.inr ⟨l, ms, rfl, em, hl, hat⟩)⟩
theorem sc_lheld : FnScope ["_law_inn", "_law_wishes", "_law_due", "_law_found", "_law_table"] ["_law_inn", "_law_wishes", "_law_due"] (defScope s_lheld) := ⟨rfl, rfl, rfl, by decide +kernel, rfl, by decide +kernel, by decide +kernel⟩
def sp_lheld (K : PySem.W.Frag) (C : Addr) : Sp := fun vs H Q _ => ∃ (D : Addr → Prop) (p t a : Addr) (dv : V) (ws : List (List Int)) (mo : Option (List (Option Int))), vs = [.ref p, .ref a, dv] ∧ InnAt C D H p t ws mo ∧ Good ws ∧ Tab K H a ws ∧ DueAt H dv mo ∧
  (∀ ms, mo = some ms → OkMates ws ms ∧ (wildAll ws ms).isEmpty = true) ∧ ∀ H', Same H H' → Q (.bl true) H'
theorem ok_lheld {C fS fW fB : Addr} {fdW fdB : FuncData} {f : Addr} {fd : FuncData} (F : Fun K "_law_held" "_law_held" s_lheld f fd) (X : TxtI K mg C fS)
    (mW : Meth K C "twos" fW) (bW : Binds K fdW ["self"] []) (GW : FnOk P w K mg base CX0 1 fW fdW ["self"] (sp_inn_twos C))
    (mB : Meth K C "table" fB) (bB : Binds K fdB ["self"] []) (GB : FnOk P w K mg base CX0 1 fB fdB ["self"] (sp_inn_table C))
    (C1 : Cal P w K mg base 2 "_law_mates" ["_law_wishes", "_law_mates_here"] (sp_lmates2 K)) (C2 : Cal P w K mg base 3 "_law_restless" ["_law_wishes", "_law_mates_here"] (sp_pairs K)) :
    FnOk P w K mg base CX0 4 f fd ["_law_inn", "_law_wishes", "_law_due"] (sp_lheld K C) := by
  obtain ⟨g1, gd1, G1, m1, k1, b1⟩ := C1
  obtain ⟨g2, gd2, G2, m2, k2, b2⟩ := C2
  refine F.ok sc_lheld (fun vs H Q E h => ?_) (fun cdv A outer s H vs Q E hr h => ?_)
  · obtain ⟨D, p, t, a, dv, ws, mo, rfl, _⟩ := h
    rfl
  obtain ⟨D, p, t, a, dv, ws, mo, rfl, hI, hG, hT, hD, hok, q⟩ := h
  have hu := hr.units
  have hr1 : Room 1 _ := hr.mono (by decide)
  refine ⟨_, Evl.pss_cut (ps_set (i := 3) sc_lheld.nd rfl (Or.inl rfl) (pe_meth0 (pv 0) X.cl mW (twosN GW) hr1 bW .nil pass0))
    (pss_cons (ps_set (i := 4) sc_lheld.nd rfl (Or.inl rfl) (pe_meth0 (pv 0) X.cl mB GB hr1 bB .nil pass0))
    (pss_cons (ps_if (PW.pt (pw_or (pt_cmpR (op_neD hu) (pv 4) (pv 1) (nomark _)) (pw_or1 (pt_cmpR (op_neD hu) (pv 3) (pv 2) (nomark _))))) (pss_one (ps_ret pe_bl)) pss_nil)
    (Evl.pss_cut (ps_if (pt_cmpR op_notN (pv 3) pe_non (nomark _))
        (pss_cons (ps_if (PW.pt (pw_or (pt_not (pt_val (pe_call G1 (hr.mono (by decide)) (by rfl) m1 k1 b1 .nil pass0 (pa_cons (pv 1) (pa_cons (pv 3) pa_nil)))))
            (pw_or1 (pt_cmpR (op_neD hu) (pe_call G2 (hr.mono (by decide)) (by rfl) m2 k2 b2 .nil pass0 (pa_cons (pv 1) (pa_cons (pv 3) pa_nil))) (pe_lst pa_nil) (nomark _))))) (pss_one (ps_ret pe_bl)) pss_nil)
        (pss_one (ps_expr (pe_bm PySem.F.plainAttrs_list PySem.F.slot_list_append PySem.F.type_list_append mt_append (pv 3) (pa_cons pe_non pa_nil))))) pss_nil)
    (pss_cons (ps_expr (pe_bm PySem.F.plainAttrs_list PySem.F.slot_list_append PySem.F.type_list_append mt_append (pv 4) (pa_cons (pe_lst pa_nil) pa_nil)))
    (pss_cons (ps_expr (pe_bm PySem.F.plainAttrs_list PySem.F.slot_list_append PySem.F.type_list_append mt_append (pe_ix ix_list (pv 4) pe_int (fun _ _ => rfl)) (pa_cons pe_int pa_nil)))
    (pss_cons (ps_if (PW.pt (pw_or (pt_cmpR (op_neD hu) (pe_meth0 (pv 0) X.cl mW (twosN GW) hr1 bW .nil pass0) (pv 2) (nomark _))
        (pw_or1 (pt_cmpR (op_neD hu) (pe_meth0 (pv 0) X.cl mB GB hr1 bB .nil pass0) (pv 1) (nomark _))))) (pss_one (ps_ret pe_bl)) pss_nil)
    (pss_one (ps_ret (pe_and (pe_cmpR (op_eqD hu) (pe_ix ix_list (pv 4) (pe_un un_neg pe_int) (fun _ _ => rfl)) (pe_lst pa_nil) (nomark _))
      (pe_one (pe_or (pe_cmpR op_isN (pv 3) pe_non (nomark _)) (pe_one (pe_cmpR (op_eqD hu) (pv 3) (pe_op op_cat (pv 2) (pe_lst (pa_cons pe_non pa_nil))) (nomark _)))))))))))))), ?_⟩
  have lo := hG.lo
  have hi := hG.hi
  -- what an Inn says of itself
  have same_on : ∀ {H1 : Hp}, Same H H1 → InnAt C (fun _ => False) H1 p t ws mo := fun e => hI.on e fun x hx => hx.elim
  have fld : ∀ {H1 : Hp}, Same H H1 → ∃ dx mv, H1 p = some (.ins C dx (inf t mv)) := fun e => by
    obtain ⟨⟨dx, mv, h1, _⟩, _⟩ := same_on e
    exact ⟨dx, mv, h1⟩
  have noW : ∀ mv : V, (inf t mv).lookup ("twos" : Str) = none := fun mv => inf_no _ _ (by decide +kernel) (by decide +kernel)
  have noB : ∀ mv : V, (inf t mv).lookup ("table" : Str) = none := fun mv => inf_no _ _ (by decide +kernel) (by decide +kernel)
  refine ⟨fun σ H' => ∃ fv, Same H H' ∧ NewAt H H' fv mo ∧ σ = [some (.ref p), some (.ref a), some dv, some fv, none], ?_, ?_⟩
  · obtain ⟨dx, mv, h1⟩ := fld (Same.refl H)
    refine ⟨_, rfl, p, dx, _, rfl, h1, noW mv, _, p, t, ws, mo, rfl, hI, fun v H' s hN => ⟨v, s, hN, rfl⟩⟩
  rintro σ H1 ⟨fv, e1, hF, rfl⟩
  obtain ⟨dx, mv, h1⟩ := fld e1
  refine ⟨_, rfl, p, dx, _, rfl, h1, noB mv, _, p, t, ws, mo, rfl, same_on e1, hi, fun H2 L hL hB => ?_⟩
  have e2 := e1.trans hB.1
  have hF2 := hF.same hB.1
  have hL0 : H L = none := e1.free hL
  refine ⟨_, rfl, _, rfl, _, _, hB.tab.dp (plain_ints ws), (hT.same e2).dp, dLL_shaped _, dLL_shaped _, _, rfl, ?_⟩
  rw [dLL_refl]
  refine iteF ?_
  refine ⟨_, rfl, _, rfl, _, _, hF2.due.dp, (hD.same e2).dp, dO_shaped _, dO_shaped _, _, rfl, ?_⟩
  rw [dO_refl]
  refine iteF ?_
  obtain ⟨_, as, a1, a2, a3⟩ := id hB
  rw [List.length_map] at a2
  refine ⟨fun σ H' => Same H H' ∧ ((fv = .non ∧ mo = none) ∨ ∃ l ms, fv = V.ref l ∧ mo = some ms ∧ H l = none ∧ l ≠ L ∧ H' l = some (.lst (ms.map ov ++ [.non]))) ∧ H' L = some (.lst (as.map V.ref)) ∧
      (∀ (i : Nat) (r : List Int), ws[i]? = some r → ∃ b, as[i]? = some b ∧ H' b = some (.lst (r.map V.int)) ∧ b ≠ L ∧ H b = none ∧ fv ≠ .ref b) ∧ σ = [some (.ref p), some (.ref a), some dv, some fv, some (.ref L)], ?_, ?_⟩
  · refine ⟨_, rfl, rfl, _, rfl, ?_⟩
    rcases hF with ⟨rfl, em⟩ | ⟨l, ms, rfl, em, hl, hat⟩
    · refine iteF ⟨e2, .inl ⟨rfl, em⟩, a1, fun i r hr' => ?_, rfl⟩
      obtain ⟨b, b1, b2, b3, b4⟩ := a3 i (r.map V.int) (by rw [List.getElem?_map, hr']; rfl)
      exact ⟨b, b1, b2, b3, e1.free b4, fun z => nomatch z⟩
    · refine iteT ?_
      obtain ⟨hO, hW⟩ := hok ms em
      have hat2 := hB.1 _ _ hat
      refine ⟨_, rfl, _, rfl, a, l, ws, ms, rfl, hT.same e2, hi, SqL.of hat2, hO.len, fun i i0 i1 => hO.oko i0 i1, fun tt htt => ⟨_, rfl, ?_⟩⟩
      rw [htt.mpr hO]
      refine iteF ?_
      refine ⟨_, rfl, _, rfl, a, l, ws, ms, rfl, hT.same e2, hG, SqL.of hat2, hO, fun H3 r hr' hR => ?_⟩
      refine ⟨(by show 0 ≤ sizeLine; decide), fun e he => ?_⟩
      have s4 : Same H3 (upd H3 e (.lst [])) := same_new he _
      have e4 := hR.1.trans s4
      refine ⟨dPs (wildAll ws ms), dPs [], (hR.prs.same s4).dp, .lst (SqL.of upd_same) .nil, dPs_shaped _, dPs_shaped _, _, rfl, ?_⟩
      rw [dPs_nil, hW]
      refine iteF ?_
      have hat4 := e4 _ _ hat2
      have nlL : l ≠ L := ne_of_none hat hL
      refine ⟨_, rfl, .inl ⟨rfl, _, SqL.of hat4⟩, l, _, _, rfl, rfl, hat4, ?_, ?_⟩
      · rw [List.length_map]
        have := hO.len
        exact small1000 (by omega)
      · refine ⟨same_put (e2.trans e4) hl _, .inr ⟨l, ms, rfl, em, hl, nlL, upd_same⟩, by rw [upd_ne nlL.symm]; exact e4 _ _ a1, fun i r hr' => ?_, rfl⟩
        obtain ⟨b, b1, b2, b3, b4⟩ := a3 i (r.map V.int) (by rw [List.getElem?_map, hr']; rfl)
        have nbl : b ≠ l := (ne_of_none hat b4).symm
        exact ⟨b, b1, by rw [upd_ne nbl]; exact e4 _ _ b2, b3, e1.free b4, fun z => nbl (by cases z; rfl)⟩
  rintro σ H3 ⟨e3, hF3, b1', b3', rfl⟩
  refine ⟨_, rfl, .inl ⟨rfl, _, SqL.of b1'⟩, (by show 0 ≤ sizeLine; decide), fun e he => ?_⟩
  have s4 : Same H3 (upd H3 e (.lst [])) := same_new he _
  have neL : L ≠ e := ne_of_none b1' he
  refine ⟨L, _, _, rfl, rfl, s4 _ _ b1', ?_, ?_⟩
  · rw [List.length_map, a2]
    exact small1000 (by omega)
  obtain ⟨b0, q1, q2, q3, q4, q5⟩ := b3' 0 ws[0] (List.getElem?_eq_getElem (by omega))
  have nb0e : b0 ≠ e := ne_of_none q2 he
  have hb0 : upd (upd H3 e (.lst [])) L (.lst (as.map V.ref ++ [.ref e])) b0 = some (.lst (ws[0].map V.int)) := by rw [upd_ne q3, upd_ne nb0e]; exact q2
  have hz : (as.map V.ref ++ [V.ref e])[0]? = some (.ref b0) := by
    rw [List.getElem?_append, if_pos (by rw [List.length_map, a2]; omega), List.getElem?_map, q1]
    rfl
  refine ⟨_, rfl, L, _, _, _, rfl, rfl, SqL.of upd_same, atI_zero hz, .inl ⟨rfl, _, SqL.of hb0⟩, b0, _, _, rfl, rfl, hb0, ?_, ?_⟩
  · rw [List.length_map]
    have := (hG.row 0 ws[0] (List.getElem?_eq_getElem (by omega))).sm
    exact small1000 (by omega)
  -- all that stood stands; what was just made was changed
  have e5 : Same H (upd (upd (upd H3 e (.lst [])) L (.lst (as.map V.ref ++ [.ref e]))) b0 (.lst (ws[0].map V.int ++ [.int 0]))) := same_put (same_put (e3.trans s4) hL0 _) q4 _
  have hL5 : upd (upd (upd H3 e (.lst [])) L (.lst (as.map V.ref ++ [.ref e]))) b0 (.lst (ws[0].map V.int ++ [.int 0])) L = some (.lst (as.map V.ref ++ [.ref e])) := by rw [upd_ne q3.symm, upd_same]
  have he5 : upd (upd (upd H3 e (.lst [])) L (.lst (as.map V.ref ++ [.ref e]))) b0 (.lst (ws[0].map V.int ++ [.int 0])) e = some (.lst []) := by rw [upd_ne nb0e.symm, upd_ne neL.symm, upd_same]
  have hF5 : (fv = .non ∧ mo = none) ∨ ∃ l ms, fv = V.ref l ∧ mo = some ms ∧ upd (upd (upd H3 e (.lst [])) L (.lst (as.map V.ref ++ [.ref e]))) b0 (.lst (ws[0].map V.int ++ [.int 0])) l = some (.lst (ms.map ov ++ [.non])) := by
    rcases hF3 with h | ⟨l, ms, h1, h2, h3, h4, h5⟩
    · exact .inl h
    · have nlb : l ≠ b0 := fun z => q5 (by rw [h1, z])
      exact .inr ⟨l, ms, h1, h2, by rw [upd_ne nlb, upd_ne h4, upd_ne (ne_of_none h5 he)]; exact h5⟩
  generalize upd (upd (upd H3 e (.lst [])) L (.lst (as.map V.ref ++ [.ref e]))) b0 (.lst (ws[0].map V.int ++ [.int 0])) = H5 at e5 hL5 he5 hF5
  obtain ⟨dx5, mv5, h5⟩ := fld e5
  refine ⟨_, rfl, p, dx5, _, rfl, h5, noW mv5, _, p, t, ws, mo, rfl, same_on e5, fun v2 H6 e6 hN6 => ?_⟩
  have e56 := e5.trans e6
  refine ⟨_, rfl, _, _, hN6.due.dp, (hD.same e56).dp, dO_shaped _, dO_shaped _, _, rfl, ?_⟩
  rw [dO_refl]
  refine iteF ?_
  obtain ⟨dx6, mv6, h6⟩ := fld e56
  refine ⟨_, rfl, p, dx6, _, rfl, h6, noB mv6, _, p, t, ws, mo, rfl, same_on e56, hi, fun H7 L7 hL7 hB7 => ?_⟩
  have e57 := e56.trans hB7.1
  refine ⟨_, rfl, _, _, hB7.tab.dp (plain_ints ws), (hT.same e57).dp, dLL_shaped _, dLL_shaped _, _, rfl, ?_⟩
  rw [dLL_refl]
  refine iteF ?_
  have s67 := e6.trans hB7.1
  refine ⟨_, rfl, _, rfl, L, _, _, _, rfl, rfl, SqL.of (s67 _ _ hL5), atI_last _ _, (by show 0 ≤ sizeLine; decide), fun u hu' => ?_⟩
  have s8 : Same H7 (upd H7 u (.lst [])) := same_new hu' _
  refine ⟨dL [], dL [], .lst (SqL.of (s8 _ _ (s67 _ _ he5))) .nil, .lst (SqL.of upd_same) .nil, dL_shaped _, dL_shaped _, _, rfl, ?_⟩
  rw [dL_refl]
  refine iteT ?_
  refine ⟨_, rfl, rfl, _, rfl, ?_⟩
  have e58 := e57.trans s8
  rcases hF5 with ⟨rfl, em⟩ | ⟨l, ms, rfl, em, hl⟩
  · exact iteT (q _ e58)
  · refine iteF ?_
    rcases hD with ⟨_, em'⟩ | ⟨d, ms', rfl, em', hd⟩
    · rw [em] at em'; cases em'
    · rw [em] at em'
      cases em'
      have hml := (hok ms em).1.len
      refine ⟨_, rfl, _, rfl, (by show 1 ≤ sizeLine; decide), fun u2 hu2 => ?_⟩
      have s9 : Same (upd H7 u (.lst [])) (upd (upd H7 u (.lst [])) u2 (.lst [.non])) := same_new hu2 _
      refine ⟨d, u2, _, _, rfl, rfl, s9 _ _ (e58 _ _ hd), upd_same, ?_, fun u3 hu3 => ?_⟩
      · rw [List.length_map]
        exact le_line (show ms.length + 1 ≤ 1000 by omega)
      have s10 := s9.trans (same_new hu3 (.lst (ms.map ov ++ [V.non])))
      have hl10 := s10 _ _ (s8 _ _ (s67 _ _ hl))
      have pl : ∀ v ∈ ms.map ov ++ [V.non], plainV v = true := fun v hv => by
        rcases List.mem_append.mp hv with h | h
        · exact flat_ovs ms v h
        · rw [List.mem_singleton.mp h]; rfl
      refine ⟨dL (ms.map ov ++ [V.non]), dL (ms.map ov ++ [V.non]), .lst (SqL.of hl10) (dpAll_plain _ pl), .lst (SqL.of upd_same) (dpAll_plain _ pl), dL_shaped _, dL_shaped _, ?_⟩
      rw [dL_refl]
      exact q _ (e58.trans s10)
end
end B2

namespace B2
open PySem L2
/-! ### Data stay where what they lean on stays -/
theorem sqT_same {K : PySem.W.Frag} {H H' : Hp} {a : Addr} {xs : List V} (e : Same H H') (h : SqT K H a xs) : SqT K H' a xs := by
  rcases h with (h | ⟨o, h⟩) | h
  · exact .inl (.inl (e _ _ h))
  · exact .inl (.inr ⟨o, e _ _ h⟩)
  · exact .inr h
mutual
theorem dp_same {K : PySem.W.Frag} {H H' : Hp} (e : Same H H') : ∀ {v : V} {d : PyData}, Dp K H v d → Dp K H' v d
  | _, _, .non => .non
  | _, _, .bl b => .bl b
  | _, _, .int i => .int i
  | _, _, .str x => .str x
  | _, _, .lst h g => .lst (e.seq h) (dpA_same e g)
  | _, _, .tup h g => .tup (sqT_same e h) (dpA_same e g)
theorem dpA_same {K : PySem.W.Frag} {H H' : Hp} (e : Same H H') : ∀ {vs : List V} {ds : List PyData}, DpAll K H vs ds → DpAll K H' vs ds
  | _, _, .nil => .nil
  | _, _, .cons h g => .cons (dp_same e h) (dpA_same e g)
end
/-- what an Inn told: its mates and its table -/
def dT (mo : Option (List (Option Int))) (ws : List (List Int)) : PyData := .list [dO mo, dLL (ws.map fun r => r.map V.int)]
theorem dO_lay : ∀ mo, (dO mo).canLay0 = true ∧ (dO mo).depth ≤ 2
  | none => by simp [dO, PyData.canLay0, PyData.depth]
  | some ms => dL_lay _
theorem dT_lay (mo : Option (List (Option Int))) (ws : List (List Int)) : (dT mo ws).canLay0 = true ∧ (dT mo ws).depth ≤ 4 := by
  have a1 := dO_lay mo
  have a2 := dLL_lay (ws.map fun r => r.map V.int)
  have h1 := canLayAll_of [dO mo, dLL (ws.map fun r => r.map V.int)] (fun d hd => by
    rcases List.mem_cons.mp hd with h | h
    · rw [h]; exact a1.1
    · rw [List.mem_singleton.mp h]; exact a2.1)
  have h2 := depthAll_of 3 [dO mo, dLL (ws.map fun r => r.map V.int)] (fun d hd => by
    rcases List.mem_cons.mp hd with h | h
    · rw [h]; omega
    · rw [List.mem_singleton.mp h]; exact a2.2)
  unfold dT
  simp only [PyData.canLay0, PyData.depth]
  exact ⟨h1, by omega⟩
theorem dT_shaped (mo : Option (List (Option Int))) (ws : List (List Int)) : SeqAt.shaped (dT mo ws) = true := shaped_of (dT_lay mo ws).1 (Nat.le_trans (dT_lay mo ws).2 (by decide))
theorem dT_refl (mo : Option (List (Option Int))) (ws : List (List Int)) : (dT mo ws).eqv (dT mo ws) = true := SeqAt.eqv_refl _ (dT_lay mo ws).1

/-! ### The heap without some things -/
noncomputable def offH (M : Addr → Prop) (H : Hp) : Hp := fun b => open Classical in if M b then none else H b
theorem off_same (M : Addr → Prop) (H : Hp) : Same (offH M H) H := fun b u h => by
  unfold offH at h
  by_cases c : M b
  · rw [if_pos c] at h; cases h
  · rw [if_neg c] at h; exact h
theorem off_get {M : Addr → Prop} {H : Hp} {b : Addr} {o : HO} (h : H b = some o) (n : ¬ M b) : offH M H b = some o := by
  unfold offH
  rw [if_neg n]; exact h
theorem off_not {M : Addr → Prop} {H : Hp} {b : Addr} {o : HO} (h : offH M H b = some o) : ¬ M b := fun z => by
  unfold offH at h
  rw [if_pos z] at h; cases h
theorem off_keep {M : Addr → Prop} {H H' : Hp} (k : ∀ b o, H b = some o → ¬ M b → H' b = some o) : Same (offH M H) (offH M H') := fun b u h =>
  off_get (k b u (off_same M H b u h) (off_not h)) (off_not h)
theorem InnAt.off {C : Addr} {D M : Addr → Prop} {H : Hp} {p t : Addr} {ws : List (List Int)} {mo : Option (List (Option Int))} (h : InnAt C D H p t ws mo) (hm : ∀ x, M x → D x ∨ H x = none) : InnAt C (fun _ => False) (offH M H) p t ws mo := by
  obtain ⟨⟨dx, mv, h1, hm'⟩, ⟨as, h2, h3, h4⟩, np, nt, dm⟩ := h
  have no : ∀ {x : Addr} {o : HO}, H x = some o → ¬ D x → ¬ M x := fun hx nd z => by
    rcases hm _ z with q | q
    · exact nd q
    · rw [hx] at q; cases q
  refine ⟨⟨dx, mv, off_get h1 (no h1 np), ?_⟩, ⟨as, off_get h2 (no h2 nt), h3, fun i r hr => ?_⟩, fun z => z, fun z => z, fun x hx => hx.elim⟩
  · rcases hm' with hm' | ⟨m, ms, r1, r2, r3, r4⟩
    · exact .inl hm'
    · exact .inr ⟨m, ms, r1, off_get r2 (no r2 r4), r3, fun z => z⟩
  · obtain ⟨b, b1, b2, b3⟩ := h4 i r hr
    exact ⟨b, b1, off_get b2 (no b2 b3), fun z => z⟩

/-! ### Lists that a guest can't have -/
theorem cut_lo (r : List Int) {k : Nat} (hk : k ≤ r.length) : cutV (r.map V.int) none (some (k : Int)) = (r.take k).map V.int := by
  unfold cutV
  have e1 : HT.sIx (r.map V.int).length 0 none = 0 := rfl
  have e2 : HT.sIx (r.map V.int).length (r.map V.int).length (some (k : Int)) = k := by
    rw [List.length_map, HT.sIx_nat]; omega
  rw [e1, e2, List.drop_zero, Nat.sub_zero, List.map_take]
theorem cut_hi (r : List Int) {k : Nat} (hk : k ≤ r.length) : cutV (r.map V.int) (some (k : Int)) none = (r.drop k).map V.int := by
  unfold cutV
  have e1 : HT.sIx (r.map V.int).length (r.map V.int).length none = r.length := by rw [List.length_map]; rfl
  have e2 : HT.sIx (r.map V.int).length 0 (some (k : Int)) = k := by
    rw [List.length_map, HT.sIx_nat]; omega
  rw [e1, e2, List.map_drop, List.take_of_length_le (by rw [List.length_drop, List.length_map]; omega)]
theorem row_bad {K : PySem.W.Frag} {H : Hp} {n : Nat} {g : Int} {r : List Int} (hR : GoodRow n g r) {k : Nat} (hk : k ≤ r.length) {bv : V} {b : Addr} (hS : SqL K H b ((r.take k).map V.int ++ [bv] ++ (r.drop k).map V.int))
    (h : BadWish K H n g bv ∨ ∃ y ∈ r, bv = V.int y) : RowBad K H n g (.ref b) := by
  rcases h with h | ⟨y, hy, rfl⟩
  · refine .inr (.inl ⟨b, _, k, bv, rfl, hS, ?_, fun i hi => ?_, h⟩)
    · rw [List.append_assoc, List.getElem?_append, if_neg (by rw [List.length_map, List.length_take]; omega), List.length_map, List.length_take]
      have : k - min k r.length = 0 := by omega
      rw [this]
      rfl
    · have hi' : i < r.length := by omega
      have hm := hR.rg r[i] (List.getElem_mem hi')
      refine ⟨r[i], ?_, hm.1, hm.2.1, hm.2.2⟩
      rw [List.append_assoc, List.getElem?_append, if_pos (by rw [List.length_map, List.length_take]; omega), List.getElem?_map, List.getElem?_take, if_pos hi, List.getElem?_eq_getElem hi']
      rfl
  · refine .inr (.inr ⟨b, r.take k ++ [y] ++ r.drop k, rfl, ?_, fun z hz => ?_, fun nd => ?_, ?_⟩)
    · rw [List.map_append, List.map_append]; exact hS
    · rcases List.mem_append.mp hz with hz | hz
      · rcases List.mem_append.mp hz with hz | hz
        · exact hR.rg z (List.mem_of_mem_take hz)
        · rw [List.mem_singleton.mp hz]; exact hR.rg y hy
      · exact hR.rg z (List.mem_of_mem_drop hz)
    · rw [← List.take_append_drop k r] at hy
      have h1 := List.nodup_append.mp nd
      have h2 := List.nodup_append.mp h1.1
      rcases List.mem_append.mp hy with h | h
      · exact h2.2.2 y h y (List.mem_singleton.mpr rfl) rfl
      · exact h1.2.2 y (List.mem_append.mpr (.inr (List.mem_singleton.mpr rfl))) y h rfl
    · have := hR.sm
      rw [List.length_append, List.length_append, List.length_take, List.length_drop, List.length_singleton]
      omega
theorem boolBad {K : PySem.W.Frag} {H : Hp} {n : Nat} {g : Int} (b : Bool) : BadWish K H n g (.bl b) := .inl ⟨.type "bool", .base (.bl b), .inr ⟨kit_ty (by decide +kernel), kit_bb⟩⟩
/-- a tuple of what was told and what was due -/
def HeldT (K : PySem.W.Frag) (H : Hp) (tp : Addr) : Prop := ∃ (x y : Addr) (d : PyData), H tp = some (.tup [.ref x, .ref y]) ∧ Dp K H (.ref x) d ∧ Dp K H (.ref y) d ∧ SeqAt.shaped d = true ∧ d.eqv d = true
theorem HeldT.same {K : PySem.W.Frag} {H H' : Hp} {tp : Addr} (e : Same H H') (h : HeldT K H tp) : HeldT K H' tp := by
  obtain ⟨x, y, d, h1, h2, h3, h4, h5⟩ := h
  exact ⟨x, y, d, e _ _ h1, dp_same e h2, dp_same e h3, h4, h5⟩
/-- between the turns -/
structure TurnAt (K : PySem.W.Frag) (C : Addr) (M : Addr → Prop) (H0 : Hp) (p t wl L : Addr) (n i : Nat) (H : Hp) (ws : List (List Int)) (mo : Option (List (Option Int))) (dv : V) : Prop where
  keep : ∀ b o, H0 b = some o → ¬ M b → H b = some o
  good : Good ws
  len : ws.length = n
  inn : InnAt C (fun x => x = wl ∨ x = L) H p t ws mo
  tw : ∃ as : List Addr, H wl = some (.lst (as.map V.ref)) ∧ as.length = ws.length ∧ ∀ (i : Nat) (r : List Int), ws[i]? = some r → ∃ b, as[i]? = some b ∧ offH M H b = some (.lst (r.map V.int))
  due : DueAt (offH M H) dv mo
  ok : ∀ ms, mo = some ms → OkMates ws ms ∧ (wildAll ws ms).isEmpty = true
  held : ∃ tps : List Addr, H L = some (.lst (tps.map V.ref)) ∧ tps.length ≤ i ∧ ∀ tp ∈ tps, HeldT K (offH M H) tp
theorem TurnAt.tab {K : PySem.W.Frag} {C : Addr} {M : Addr → Prop} {H0 : Hp} {p t wl L : Addr} {n i : Nat} {H : Hp} {ws : List (List Int)} {mo : Option (List (Option Int))} {dv : V} (h : TurnAt K C M H0 p t wl L n i H ws mo dv) : Tab K H wl ws := by
  obtain ⟨as, h1, h2, h3⟩ := h.tw
  refine ⟨as, SqL.of h1, h2, fun i r hr => ?_⟩
  obtain ⟨b, b1, b2⟩ := h3 i r hr
  exact ⟨b, b1, SqL.of (off_same _ _ _ _ b2)⟩
/-- new things may come -/
theorem TurnAt.on {K : PySem.W.Frag} {C : Addr} {M : Addr → Prop} {H0 : Hp} {p t wl L : Addr} {n i : Nat} {H H' : Hp} {ws : List (List Int)} {mo : Option (List (Option Int))} {dv : V} (h : TurnAt K C M H0 p t wl L n i H ws mo dv) (e : Same H H') :
    TurnAt K C M H0 p t wl L n i H' ws mo dv := by
  obtain ⟨k, g, l, hi, ⟨as, a1, a2, a3⟩, hd, ok, ⟨tps, b1, b2, b3⟩⟩ := h
  have s : Same (offH M H) (offH M H') := off_keep fun b o hb _ => e b o hb
  refine ⟨fun b o hb nb => e _ _ (k b o hb nb), g, l, hi.on e fun x hx => ⟨.inl hx, by obtain ⟨o, ho⟩ := hi.dm x hx; exact ⟨o, e _ _ ho⟩⟩, ⟨as, e _ _ a1, a2, fun j r hr => ?_⟩, hd.same s, ok, ⟨tps, e _ _ b1, b2, fun tp htp => (b3 tp htp).same s⟩⟩
  obtain ⟨b, q1, q2⟩ := a3 j r hr
  exact ⟨b, q1, s _ _ q2⟩

/-- what the turns change -/
def MM (p t wl L : Addr) : Addr → Prop := fun x => x = p ∨ x = t ∨ x = wl ∨ x = L
theorem TurnAt.mem {K : PySem.W.Frag} {C : Addr} {H0 : Hp} {p t wl L : Addr} {n i : Nat} {H : Hp} {ws : List (List Int)} {mo : Option (List (Option Int))} {dv : V} (h : TurnAt K C (MM p t wl L) H0 p t wl L n i H ws mo dv) : ∀ x, MM p t wl L x → ∃ o, H x = some o := by
  rintro x (rfl | rfl | rfl | rfl)
  · obtain ⟨dx, mv, h1, _⟩ := h.inn.ob
    exact ⟨_, h1⟩
  · obtain ⟨as, h1, _⟩ := h.inn.tb
    exact ⟨_, h1⟩
  · obtain ⟨as, h1, _⟩ := h.tw
    exact ⟨_, h1⟩
  · obtain ⟨as, h1, _⟩ := h.held
    exact ⟨_, h1⟩
theorem fresh_off {M : Addr → Prop} {H : Hp} (hm : ∀ x, M x → ∃ o, H x = some o) {x : Addr} (h : H x = none) : ¬ M x := fun z => by
  obtain ⟨o, ho⟩ := hm x z
  rw [h] at ho; cases ho
theorem NewAt.off {M : Addr → Prop} {H H' H'' : Hp} {v : V} {mo : Option (List (Option Int))} (h : NewAt H H' v mo) (e : Same H' H'') (hm : ∀ x, M x → ∃ o, H x = some o) : DueAt (offH M H'') v mo := by
  rcases h with h | ⟨d, ms, h1, h2, h3, h4⟩
  · exact .inl h
  · exact .inr ⟨d, ms, h1, h2, off_get (e _ _ h4) (fresh_off hm h3)⟩
theorem Built.off {K : PySem.W.Frag} {M : Addr → Prop} {H H' H'' : Hp} {D : Addr} {vss : List (List V)} (h : Built H D vss H') (hD : H D = none) (e : Same H' H'') (hm : ∀ x, M x → ∃ o, H x = some o) : TabV K (offH M H'') D vss := by
  obtain ⟨s, as, h1, h2, h3⟩ := h
  refine ⟨as, SqL.of (off_get (e _ _ h1) (fresh_off hm hD)), h2, fun i r hr => ?_⟩
  obtain ⟨b, b1, b2, b3, b4⟩ := h3 i r hr
  exact ⟨b, b1, SqL.of (off_get (e _ _ b2) (fresh_off hm b4))⟩
/-- one more is kept in mind -/
theorem TurnAt.more {K : PySem.W.Frag} {C : Addr} {H0 : Hp} {p t wl L : Addr} {n i : Nat} {H : Hp} {ws : List (List Int)} {mo : Option (List (Option Int))} {dv : V} (h : TurnAt K C (MM p t wl L) H0 p t wl L n i H ws mo dv) (nLw : L ≠ wl) :
    ∃ acc, H L = some (.lst acc) ∧ acc.length ≤ i ∧ ∀ tp, HeldT K (offH (MM p t wl L) H) tp → TurnAt K C (MM p t wl L) H0 p t wl L n (i + 1) (upd H L (.lst (acc ++ [.ref tp]))) ws mo dv := by
  obtain ⟨k, g, l, hi, ⟨as, a1, a2, a3⟩, hd, ok, ⟨tps, b1, b2, b3⟩⟩ := h
  refine ⟨_, b1, by rw [List.length_map]; exact b2, fun tp ht => ?_⟩
  have mL : MM p t wl L L := .inr (.inr (.inr rfl))
  have s : Same (offH (MM p t wl L) H) (offH (MM p t wl L) (upd H L (.lst (tps.map V.ref ++ [.ref tp])))) := off_keep fun b o hb nb => by
    rw [upd_ne (show b ≠ L from fun z => nb (by rw [z]; exact mL))]; exact hb
  refine ⟨fun b o hb nb => by rw [upd_ne (show b ≠ L from fun z => nb (by rw [z]; exact mL))]; exact k b o hb nb, g, l, hi.put (fun b o hb nb => by rw [upd_ne (show b ≠ L from fun z => nb (.inr z))]; exact hb) (fun x hx => ?_), ⟨as, by rw [upd_ne nLw.symm]; exact a1, a2, fun j r hr => ?_⟩, hd.same s, ok,
    ⟨tps ++ [tp], by rw [upd_same, List.map_append]; rfl, by rw [List.length_append, List.length_singleton]; omega, fun u hu => ?_⟩⟩
  · by_cases c : x = L
    · exact ⟨_, by rw [c, upd_same]⟩
    · obtain ⟨o, ho⟩ := hi.dm x hx
      exact ⟨o, by rw [upd_ne c]; exact ho⟩
  · obtain ⟨b, q1, q2⟩ := a3 j r hr
    exact ⟨b, q1, s _ _ q2⟩
  · rcases List.mem_append.mp hu with h | h
    · exact (b3 u h).same s
    · rw [List.mem_singleton.mp h]; exact ht.same s
theorem settle_in {ws : List (List Int)} {mo : Option (List (Option Int))} {ms : List (Option Int)} (h : settleO ws mo = some ms) : ms ∈ allCalm ws := by
  have hd : (allCalm ws).head? = some ms → ms ∈ allCalm ws := fun h => List.mem_of_mem_head? h
  cases mo with
  | none => exact hd h
  | some m =>
    unfold settleO at h
    by_cases c : m ∈ allCalm ws
    · have h2 : (if m ∈ allCalm ws then some m else (allCalm ws).head?) = some ms := h
      rw [if_pos c] at h2
      cases h2; exact c
    · have h2 : (if m ∈ allCalm ws then some m else (allCalm ws).head?) = some ms := h
      rw [if_neg c] at h2
      exact hd h2
theorem calm_both {ws : List (List Int)} {ms : List (Option Int)} (h : ms ∈ allCalm ws) : OkMates ws ms ∧ (wildAll ws ms).isEmpty = true := ⟨(calm_out h).1, (List.mem_filter.mp h).2⟩
end B2

namespace B2
open PySem L2
theorem pg_tupK {X : Cx} {K : PySem.W.Frag} {es : List Expr} {k : Nat} {t : TGs} {n : Nat} {pos : Pos} (hK : X.K = K) (hc : X.calm = true) (h : PGs X es t) (hn : (assignEach es X.env).length = n := by rfl)
    (hst : (assignEach es X.env).findIdx? (·.1) = none := by rfl) : PG X (.Tuple es k pos) (gTup K n t) := by
  subst hK
  exact pg_tup hc h hn hst
def sp_turn0 (K : PySem.W.Frag) (C : Addr) : Sp := fun vs H Q _ => ∃ (D : Addr → Prop) (p t : Addr) (ws : List (List Int)) (mo : Option (List (Option Int))) (g : Nat) (b : Addr) (r : List Int), vs = [.ref p, .int g, .ref b] ∧ InnAt C D H p t ws mo ∧ Good ws ∧ g < ws.length ∧ SqL K H b (r.map V.int) ∧ GoodRow ws.length (g : Int) r ∧
  ∀ H', KeepI H H' p t → InnAt C D H' p t (ws.set g r) (settleO (ws.set g r) mo) → Q .non H'
theorem six_of {v0 v1 v2 v3 v4 v5 : V} {j : Int} (h0 : 0 ≤ j) (h6 : j < 6) : ∃ v, atI [v0, v1, v2, v3, v4, v5] j = some v ∧ (v = v0 ∨ v = v1 ∨ v = v2 ∨ v = v3 ∨ v = v4 ∨ v = v5) := by
  have : j = 0 ∨ j = 1 ∨ j = 2 ∨ j = 3 ∨ j = 4 ∨ j = 5 := by omega
  rcases this with h | h | h | h | h | h <;> subst h
  · exact ⟨v0, rfl, .inl rfl⟩
  · exact ⟨v1, rfl, .inr (.inl rfl)⟩
  · exact ⟨v2, rfl, .inr (.inr (.inl rfl))⟩
  · exact ⟨v3, rfl, .inr (.inr (.inr (.inl rfl)))⟩
  · exact ⟨v4, rfl, .inr (.inr (.inr (.inr (.inl rfl))))⟩
  · exact ⟨v5, rfl, .inr (.inr (.inr (.inr (.inr rfl))))⟩
theorem set_get {ws : List (List Int)} {g i : Nat} {r r' : List Int} (h : (ws.set g r)[i]? = some r') : (g = i ∧ g < ws.length ∧ r' = r) ∨ (g ≠ i ∧ ws[i]? = some r') := by
  rw [List.getElem?_set] at h
  by_cases c : g = i
  · rw [if_pos c] at h
    split at h
    · cases h; exact .inl ⟨c, by omega, rfl⟩
    · cases h
  · rw [if_neg c] at h
    exact .inr ⟨c, h⟩
section
variable {P : Program} {w : World} {K : PySem.W.Frag} {mg : Str → Option Value} {base : Heap}
theorem turn0 {C cG cW f : Addr} {fd : FuncData} (G : FnOk P w K mg base (L2.CX P w) 7 f fd ["self", "guest", "row"] (sp_inn_turn K C cG cW)) : FnOk P w K mg base CX0 7 f fd ["self", "guest", "row"] (sp_turn0 K C) :=
  fn_calm G fun vs H Q E ⟨D, p, t, ws, mo, g, b, r, e, hI, hG, hg, hS, hR, q⟩ => ⟨D, p, t, ws, mo, .int g, .ref b, e, hI, hG, .inl ⟨g, b, r, rfl, hg, rfl, hS, hR, q⟩⟩

/-! ### law -/
theorem sc_law : FnScope ["_law_script", "_law_many", "_law_wishes", "_law_row", "_law_handed", "_law_inn", "_law_beside", "_law_due", "_law_start", "_law_old", "_law_held_here", "_law_cell", "_law_guest", "_law_bad", "_law_at", "_law_given", "_law_told", "_law_ahead"] ["_law_script"] (defScope s_law) := ⟨rfl, rfl, rfl, by decide +kernel, rfl, by decide +kernel, by decide +kernel⟩
abbrev lawN : List Str := ["_law_script", "_law_many", "_law_wishes", "_law_row", "_law_handed", "_law_inn", "_law_beside", "_law_due", "_law_start", "_law_old", "_law_held_here", "_law_cell", "_law_guest", "_law_bad", "_law_at", "_law_given", "_law_told", "_law_ahead"]
def sp_law (K : PySem.W.Frag) : Sp := fun vs H Q _ => ∃ (a : Addr) (ns : List Int), vs = [.ref a] ∧ SqL K H a (ns.map V.int) ∧ ns.length ≤ 63 ∧ ∀ H', Q (.bl true) H'
theorem ok_law {C fI fS fT fW fB cG cW : Addr} {fdI fdT fdW fdB : FuncData} {f : Addr} {fd : FuncData} (F : Fun K "law" "law" s_law f fd) (T : Own mg) (X : TxtI K mg C fS) (MI : Mk K C fI) (mI : mg "Inn" = some (.ref C)) (bI : Binds K fdI ["self", "wishes"] [])
    (GI : FnOk P w K mg base CX0 7 fI fdI ["self", "wishes"] (sp_inn_init K C))
    (mT : Meth K C "turn" fT) (bT : Binds K fdT ["self", "guest", "row"] []) (GT : FnOk P w K mg base (L2.CX P w) 7 fT fdT ["self", "guest", "row"] (sp_inn_turn K C cG cW))
    (mW : Meth K C "twos" fW) (bW : Binds K fdW ["self"] []) (GW : FnOk P w K mg base CX0 1 fW fdW ["self"] (sp_inn_twos C))
    (mB : Meth K C "table" fB) (bB : Binds K fdB ["self"] []) (GB : FnOk P w K mg base CX0 1 fB fdB ["self"] (sp_inn_table C))
    (C1 : Cal P w K mg base 1 "_law_cell_at" ["_law_script", "_law_k"] (sp_cell_at K))
    (C2 : Cal P w K mg base 2 "_law_wishes_by" ["_law_script", "_law_many"] (sp_wishes_by K))
    (C3 : Cal P w K mg base 6 "_law_first" ["_law_wishes"] (sp_lfirst K))
    (C4 : Cal P w K mg base 4 "_law_held" ["_law_inn", "_law_wishes", "_law_due"] (sp_lheld K C))
    (C5 : Cal P w K mg base 2 "_law_deeds" ["_law_script", "_law_many"] (sp_ldeeds K))
    (C6 : Cal P w K mg base 1 "_law_row_by" ["_law_cell", "_law_guest", "_law_many", "_law_full"] sp_row_by)
    (C7 : Cal P w K mg base 8 "_law_refused" ["_law_inn", "_law_guest", "_law_row"] (sp_lrefused K C))
    (C8 : Cal P w K mg base 2 "_law_mates" ["_law_wishes", "_law_mates_here"] (sp_lmates2 K)) (C9 : Cal P w K mg base 3 "_law_restless" ["_law_wishes", "_law_mates_here"] (sp_pairs K)) :
    FnOk P w K mg base CX0 9 f fd ["_law_script"] (sp_law K) := by
  obtain ⟨g1, gd1, G1, m1, k1, b1⟩ := C1
  obtain ⟨g2, gd2, G2, m2, k2, b2⟩ := C2
  obtain ⟨g3, gd3, G3, m3, k3, b3⟩ := C3
  obtain ⟨g4, gd4, G4, m4, k4, b4⟩ := C4
  obtain ⟨g5, gd5, G5, m5, k5, b5⟩ := C5
  obtain ⟨g6, gd6, G6, m6, k6, b6⟩ := C6
  obtain ⟨g7, gd7, G7, m7, k7, b7⟩ := C7
  obtain ⟨g8, gd8, G8, m8, k8, b8⟩ := C8
  obtain ⟨g9, gd9, G9, m9, k9, b9⟩ := C9
  refine F.ok sc_law (fun vs H Q E h => ?_) (fun cdv A outer s H vs Q E hr h => ?_)
  · obtain ⟨a, ns, rfl, _⟩ := h
    rfl
  obtain ⟨a, cs, rfl, hS, hlen, q⟩ := h
  have hr1 : Room 1 _ := hr.mono (by decide)
  have hr2 : Room 2 _ := hr.mono (by decide)
  have hr3 : Room 3 _ := hr.mono (by decide)
  have hr4 : Room 4 _ := hr.mono (by decide)
  have hr6 : Room 6 _ := hr.mono (by decide)
  have hr7 : Room 7 _ := hr.mono (by decide)
  have hu := hr.units
  refine ⟨_, Evl.pss_cut (ps_set (i := 1) sc_law.nd rfl (Or.inl rfl) (pe_op op_add pe_int (pe_op op_mod (pe_call G1 hr1 (by rfl) m1 k1 b1 .nil pass0 (pa_cons (pv 0) (pa_cons pe_int pa_nil))) pe_int)))
    (Evl.pss_cut (ps_if (PW.pt (pw_and (pt_cmpR op_eq (pv 1) pe_int (nomark _)) (pw_and1 (pt_cmpR op_gt (pe_op op_mod (pe_op op_fdiv (pe_call G1 hr1 (by rfl) m1 k1 b1 .nil pass0 (pa_cons (pv 0) (pa_cons pe_int pa_nil))) pe_int) pe_int) pe_int (nomark _)))))
      (pss_one (ps_set (i := 1) sc_law.nd rfl (Or.inl rfl) pe_int)) pss_nil)
    (pss_cons (ps_set (i := 2) sc_law.nd rfl (Or.inl rfl) (pe_call G2 hr2 (by rfl) m2 k2 b2 .nil pass0 (pa_cons (pv 0) (pa_cons (pv 1) pa_nil))))
    (Evl.pss_cut (ps_setLc (i := 4) (own := [("_law_row", 3)]) (g := gName 3) (tt := tYes) rfl sc_law.nd rfl rfl (sw_true rfl rfl rfl (by decide +kernel)) (pi_list (pv 2))
        (blkOk_by (N := lawN) (sc := defScope s_law) (by decide +kernel))
        (fun _ _ _ _ _ => pg_name (i := 3) sc_law.nd rfl (Or.inl rfl)) (fun _ _ _ _ _ => pts_nil) (fun _ _ _ _ _ => pe_callTy (T := "list") (call_lof (K := K) rfl) (by rfl) T.list (by decide +kernel) (pa_cons (pv 3) pa_nil)))
    (Evl.pss_cut (ps_set (i := 5) sc_law.nd rfl (Or.inl rfl) (pe_make MI GI hr (by rfl) mI bI .nil pass0 (pa_cons (pv 4) pa_nil)))
    (Evl.pss_cut (ps_set (i := 6) sc_law.nd rfl (Or.inl rfl) (pe_make MI GI hr (by rfl) mI bI .nil pass0 (pa_cons (pe_lc (own := [("_law_row", 3)]) (g := gName 3) (tt := tYes) rfl sc_law.nd (pi_list (pv 2))
        (blkOk_by (N := lawN) (sc := defScope s_law) (by decide +kernel))
        (fun _ _ _ _ _ => pg_name (i := 3) sc_law.nd rfl (Or.inl rfl)) (fun _ _ _ _ _ => pts_nil) (fun _ _ _ _ _ => pe_callTy (T := "list") (call_lof (K := K) rfl) (by rfl) T.list (by decide +kernel) (pa_cons (pv 3) pa_nil))) pa_nil)))
    (pss_cons (ps_expr (pe_bm PySem.F.plainAttrs_list PySem.F.slot_list_append PySem.F.type_list_append mt_append (pe_ix ix_list (pv 4) pe_int (fun _ _ => rfl)) (pa_cons pe_int pa_nil)))
    (pss_cons (ps_set (i := 7) sc_law.nd rfl (Or.inl rfl) (pe_call G3 hr6 (by rfl) m3 k3 b3 .nil pass0 (pa_cons (pv 2) pa_nil)))
    (pss_cons (ps_set (i := 8) sc_law.nd rfl (Or.inl rfl) (pe_call G3 hr6 (by rfl) m3 k3 b3 .nil pass0 (pa_cons (pv 2) pa_nil)))
    (Evl.pss_cut (ps_setLc (i := 9) (own := [("_law_row", 3)]) (g := gName 3) (tt := tYes) rfl sc_law.nd rfl rfl (sw_true rfl rfl rfl (by decide +kernel)) (pi_list (pv 2))
        (blkOk_by (N := lawN) (sc := defScope s_law) (by decide +kernel))
        (fun _ _ _ _ _ => pg_name (i := 3) sc_law.nd rfl (Or.inl rfl)) (fun _ _ _ _ _ => pts_nil) (fun _ _ _ _ _ => pe_callTy (T := "list") (call_lof (K := K) rfl) (by rfl) T.list (by decide +kernel) (pa_cons (pv 3) pa_nil)))
    (pss_cons (ps_if (pt_not (pt_val (pe_call G4 hr4 (by rfl) m4 k4 b4 .nil pass0 (pa_cons (pv 5) (pa_cons (pv 2) (pa_cons (pv 7) pa_nil)))))) (pss_one (ps_ret pe_bl)) pss_nil)
    (pss_cons (ps_set (i := 10) sc_law.nd rfl (Or.inl rfl) (pe_lst pa_nil))
    (pss_cons (ps_for PassesOwn.never rfl (pi_list (pe_call G5 hr2 (by rfl) m5 k5 b5 .nil pass0 (pa_cons (pv 0) (pa_cons (pv 1) pa_nil)))) (pg_name (i := 11) sc_law.nd rfl (Or.inl rfl))
      (Evl.pss_cut (ps_expr (pe_bm PySem.F.plainAttrs_list PySem.F.slot_list_append PySem.F.type_list_append mt_append (pv 10)
          (pa_cons (pe_tup (pa_cons (pe_lst (pa_cons (pe_meth0 (pv 5) X.cl mW (twosN GW) hr1 bW .nil pass0) (pa_cons (pe_meth0 (pv 5) X.cl mB GB hr1 bB .nil pass0) pa_nil)))
            (pa_cons (pe_lst (pa_cons (pv 7) (pa_cons (pe_lc (own := [("_law_row", 3)]) (g := gName 3) (tt := tYes) rfl sc_law.nd (pi_list (pv 2))
              (blkOk_by (N := lawN) (sc := defScope s_law) (by decide +kernel))
              (fun _ _ _ _ _ => pg_name (i := 3) sc_law.nd rfl (Or.inl rfl)) (fun _ _ _ _ _ => pts_nil) (fun _ _ _ _ _ => pe_callTy (T := "list") (call_lof (K := K) rfl) (by rfl) T.list (by decide +kernel) (pa_cons (pv 3) pa_nil))) pa_nil))) pa_nil))) pa_nil)))
      (Evl.pss_cut (ps_set (i := 12) sc_law.nd rfl (Or.inl rfl) (pe_op op_mod (pe_op op_fdiv (pv 11) pe_int) (pv 1)))
      (pss_cons (ps_set (i := 3) sc_law.nd rfl (Or.inl rfl) (pe_call G6 hr1 (by rfl) m6 k6 b6 .nil pass0 (pa_cons (pe_op op_fdiv (pe_op op_fdiv (pv 11) pe_int) pe_int) (pa_cons (pv 12) (pa_cons (pv 1)
          (pa_cons (pe_cmpR op_eq (pe_op op_mod (pe_op op_fdiv (pv 11) pe_int) pe_int) pe_int (nomark _)) pa_nil))))))
      (Evl.pss_cut (ps_if (pt_cmpR op_eq (pe_op op_mod (pv 11) pe_int) pe_int (nomark _))
          (Evl.pss_cut (ps_set (i := 13) sc_law.nd rfl (Or.inl rfl) (pe_ix ix_list (pe_lst (pa_cons (pv 12) (pa_cons (pv 1) (pa_cons (pe_un un_neg pe_int) (pa_cons pe_bl
              (pa_cons (pe_ix ix_list (pe_op op_cat (pv 3) (pe_lst (pa_cons (pv 1) pa_nil))) pe_int (fun _ _ => rfl)) (pa_cons pe_bl pa_nil)))))))
              (pe_op op_mod (pe_op op_fdiv (pv 11) pe_int) pe_int) (fun _ _ => rfl)))
          (Evl.pss_cut (ps_set (i := 14) sc_law.nd rfl (Or.inl rfl) (pe_op op_mod (pe_op op_fdiv (pv 11) pe_int) (pe_op op_add (pe_callB call_len_seq (by rfl) T.len PySem.boot_len (pa_cons (pv 3) pa_nil)) pe_int)))
          (pss_one (ps_if (pt_not (pt_val (pe_call G7 hr (by rfl) m7 k7 b7 .nil pass0 (pa_cons (pv 5) (pa_cons (pv 12) (pa_cons (pe_op op_cat (pe_op op_cat (pe_slice sl_list (pv 3) po_none (po_some (pv 14))) (pe_lst (pa_cons (pv 13) pa_nil)))
              (pe_slice sl_list (pv 3) (po_some (pv 14)) po_none)) pa_nil)))))) (pss_one (ps_ret pe_bl)) pss_nil))))
          (pss_cons (ps_set (i := 15) sc_law.nd rfl (Or.inl rfl) (pe_callTy (T := "list") (call_lof (K := K) rfl) (by rfl) T.list (by decide +kernel) (pa_cons (pv 3) pa_nil)))
          (pss_cons (ps_if (pt_cmpR op_notN (pe_meth (pv 5) X.cl mT (turn0 GT) hr7 bT .nil pass0 (pa_cons (pv 12) (pa_cons (pv 15) pa_nil))) pe_non (nomark _)) (pss_one (ps_ret pe_bl)) pss_nil)
          (pss_cons (ps_expr (pe_bm PySem.F.plainAttrs_list PySem.F.slot_list_append PySem.F.type_list_append mt_append (pv 15) (pa_cons (pv 12) pa_nil)))
          (pss_cons (ps_asg (pv 3) (pg_sub (pv 2) (pv 12) set_list))
          (pss_one (ps_if (PW.pt (pw_or (pt_cmpR op_isN (pv 7) pe_non (nomark _)) (pw_or (pt_not (pt_val (pe_call G8 hr2 (by rfl) m8 k8 b8 .nil pass0 (pa_cons (pv 2) (pa_cons (pv 7) pa_nil)))))
              (pw_or1 (pt_cmpR (op_neD hu) (pe_call G9 hr3 (by rfl) m9 k9 b9 .nil pass0 (pa_cons (pv 2) (pa_cons (pv 7) pa_nil))) (pe_lst pa_nil) (nomark _))))))
            (pss_one (ps_set (i := 7) sc_law.nd rfl (Or.inl rfl) (pe_call G3 hr6 (by rfl) m3 k3 b3 .nil pass0 (pa_cons (pv 2) pa_nil)))) pss_nil)))))))
      (pss_one (ps_if (pt_not (pt_val (pe_call G4 hr4 (by rfl) m4 k4 b4 .nil pass0 (pa_cons (pv 5) (pa_cons (pv 2) (pa_cons (pv 7) pa_nil)))))) (pss_one (ps_ret pe_bl)) pss_nil)))))))
    (pss_cons (ps_if (pt_not (pt_val (pe_callB (cr_all rfl) (by rfl) T.all (by decide +kernel) (pa_cons (pe_lc (own := [("_law_told", 16), ("_law_ahead", 17)]) (tt := tYes) rfl sc_law.nd (pi_list (pv 10))
        (blkOk_by (N := lawN) (sc := defScope s_law) (by decide +kernel))
        (fun _ _ _ _ _ => pg_tupK (K := K) (n := 2) rfl (by rfl) (pgs_cons (pg_name (i := 16) sc_law.nd rfl (Or.inl rfl)) (pgs_cons (pg_name (i := 17) sc_law.nd rfl (Or.inl rfl)) pgs_nil))) (fun _ _ _ _ _ => pts_nil)
        (fun _ _ _ _ _ => pe_cmpR (eq_dat (K := K) rfl hu) (pv 16) (pv 17) (nomark _))) pa_nil)))) (pss_one (ps_ret pe_bl)) pss_nil)
    (pss_one (ps_ret (pe_and (pe_cmpR (op_eqD hu) (pe_meth0 (pv 6) X.cl mW (twosN GW) hr1 bW .nil pass0) (pv 8) (nomark _))
      (pe_one (pe_cmpR (op_eqD hu) (pe_meth0 (pv 6) X.cl mB GB hr1 bB .nil pass0) (pv 9) (nomark _))))))))))))))))))), ?_⟩
  -- how many
  refine ⟨fun σ H' => H' = H ∧ ∃ m : Nat, 1 ≤ m ∧ m ≤ 6 ∧ σ = [some (.ref a), some (.int m), none, none, none, none, none, none, none, none, none, none, none, none, none, none, none, none], ?_, ?_⟩
  · refine ⟨_, rfl, a, cs, 0, rfl, hS, by decide, fun c => ?_⟩
    refine ⟨_, _, rfl, rfl, (by show (0 : Int) < 6; decide), _, _, rfl, rfl, ?_⟩
    obtain ⟨n, hn⟩ : ∃ n : Nat, 1 + c % 6 = (n : Int) := ⟨(1 + c % 6).toNat, by omega⟩
    exact ⟨rfl, n, by omega, by omega, by rw [← hn]; rfl⟩
  rintro σ H' ⟨rfl, m0, hm1, hm6, rfl⟩
  refine ⟨fun σ H'' => H'' = H' ∧ ∃ m : Nat, 1 ≤ m ∧ m ≤ 6 ∧ σ = [some (.ref a), some (.int m), none, none, none, none, none, none, none, none, none, none, none, none, none, none, none, none], ?_, ?_⟩
  · refine ⟨_, rfl, rfl, _, rfl, ?_⟩
    refine ite2 (fun c1 => ?_) (fun c1 => ?_)
    · refine ⟨_, rfl, a, cs, 0, rfl, hS, by decide, fun c => ?_⟩
      refine ⟨_, _, rfl, rfl, ⟨by decide, by decide⟩, _, _, rfl, rfl, (by show (0 : Int) < 3; decide), _, _, rfl, rfl, _, rfl, ?_⟩
      refine ite2 (fun c2 => ?_) (fun c2 => ?_)
      · exact ⟨rfl, 4, by omega, by omega, rfl⟩
      · exact ⟨rfl, m0, hm1, hm6, rfl⟩
    · exact ⟨rfl, m0, hm1, hm6, rfl⟩
  rintro σ H'' ⟨rfl, m, hm1, hm6, rfl⟩
  refine ⟨_, rfl, _, rfl, a, cs, m, rfl, hS, hm1, hm6, fun H1 wl ws hwl hB1 hG hl => ?_⟩
  subst hl
  have hT1 : Tab K H1 wl ws := hB1.tab.t
  obtain ⟨as, t1, t2, t3⟩ := id hT1
  have e1 := hB1.1
  -- handed
  refine ⟨fun σ H2 => ∃ hd, H1 hd = none ∧ Built H1 hd (ws.map fun r => r.map V.int) H2 ∧ σ = [some (.ref a), some (.int ws.length), some (.ref wl), none, some (.ref hd), none, none, none, none, none, none, none, none, none, none, none, none, none], ?_, ?_⟩
  · refine ⟨_, rfl, wl, rfl, ⟨_, t1⟩, fun L hL => ?_⟩
    refine lc_list (K := K) (a := wl) (xs := as.map V.ref) (fun i H' => Built H1 L ((ws.take i).map fun r => r.map V.int) H') (built_start hL) (fun i H' _ h => h.1.seq t1) ?_ ?_
    · rintro i x HX hx hBX
      obtain ⟨b, hb, rfl⟩ := map_ref_get hx
      have hi : i < ws.length := by rw [← t2]; exact (List.getElem?_eq_some_iff.mp hb).1
      obtain ⟨b', hb', hs⟩ := t3 i ws[i] (List.getElem?_eq_getElem hi)
      rw [hb] at hb'
      cases hb'
      refine ⟨rfl, _, rfl, b, _, rfl, .inl (hBX.1.seq hs), fun l hl => ?_⟩
      obtain ⟨acc, z1, z2, z3⟩ := built_step (f := HO.lst) (r := ws[i].map V.int) hL hBX (same_new hl _) hl upd_same
      refine ⟨acc, z1, ?_, ?_⟩
      · rw [z2, List.length_map, List.length_take]
        exact small1000 (by omega)
      · rw [take_one (List.getElem?_eq_getElem hi), List.map_append]
        exact z3
    · rintro H2 hB
      rw [List.length_map, t2, List.take_length] at hB
      exact ⟨L, hL, hB, rfl⟩
  rintro σ H2 ⟨hd, hhd, hB2, rfl⟩
  have e2 := hB2.1
  -- the Inn
  refine ⟨fun σ H3 => ∃ p1 t1, Same H2 H3 ∧ InnAt C (fun b => ∃ o, H2 b = some o) H3 p1 t1 ws (allCalm ws).head? ∧ σ = [some (.ref a), some (.int ws.length), some (.ref wl), none, some (.ref hd), some (.ref p1), none, none, none, none, none, none, none, none, none, none, none, none], ?_, ?_⟩
  · refine ⟨_, rfl, ?_⟩
    intro x dx hx hdx ne
    have sM : Same H2 (upd (upd H2 dx (.own x)) x (.ins C dx [])) := (same_new hdx _).trans (same_new (by rw [upd_ne ne.symm]; exact hx) _)
    refine ⟨fun b => ∃ o, H2 b = some o, x, dx, hd, ws, rfl, upd_same, hB2.tab.t.same sM, hG, fun ⟨o, z⟩ => (by rw [hx] at z; cases z), fun y ⟨o, z⟩ => ⟨o, sM _ _ z⟩, fun H3 t k hI => ⟨rfl, x, t, fun b o z => ?_, hI, rfl⟩⟩
    exact k b o (sM _ _ z) (fun q => by rw [q, hx] at z; cases z)
  rintro σ H3 ⟨p1, tt1, e3, hI1, rfl⟩
  -- the one beside it
  refine ⟨fun σ H5 => ∃ p2 t2 H4, Same H3 H4 ∧ Same H4 H5 ∧ InnAt C (fun b => ∃ o, H4 b = some o) H5 p2 t2 ws (allCalm ws).head? ∧ σ = [some (.ref a), some (.int ws.length), some (.ref wl), none, some (.ref hd), some (.ref p1), some (.ref p2), none, none, none, none, none, none, none, none, none, none, none], ?_, ?_⟩
  · refine ⟨_, rfl, wl, rfl, ⟨_, (e2.trans e3).seq t1⟩, fun L hL => ?_⟩
    refine lc_list (K := K) (a := wl) (xs := as.map V.ref) (fun i H' => Built H3 L ((ws.take i).map fun r => r.map V.int) H') (built_start hL) (fun i H' _ h => h.1.seq ((e2.trans e3).seq t1)) ?_ ?_
    · rintro i x HX hx hBX
      obtain ⟨b, hb, rfl⟩ := map_ref_get hx
      have hi : i < ws.length := by rw [← t2]; exact (List.getElem?_eq_some_iff.mp hb).1
      obtain ⟨b', hb', hs⟩ := t3 i ws[i] (List.getElem?_eq_getElem hi)
      rw [hb] at hb'
      cases hb'
      refine ⟨rfl, _, rfl, b, _, rfl, .inl (hBX.1.seq ((e2.trans e3).seq hs)), fun l hl => ?_⟩
      obtain ⟨acc, z1, z2, z3⟩ := built_step (f := HO.lst) (r := ws[i].map V.int) hL hBX (same_new hl _) hl upd_same
      refine ⟨acc, z1, ?_, ?_⟩
      · rw [z2, List.length_map, List.length_take]
        exact small1000 (by omega)
      · rw [take_one (List.getElem?_eq_getElem hi), List.map_append]
        exact z3
    · rintro H4 hB
      rw [List.length_map, t2, List.take_length] at hB
      intro x dx hx hdx ne
      have sM : Same H4 (upd (upd H4 dx (.own x)) x (.ins C dx [])) := (same_new hdx _).trans (same_new (by rw [upd_ne ne.symm]; exact hx) _)
      refine ⟨fun b => ∃ o, H4 b = some o, x, dx, L, ws, rfl, upd_same, hB.tab.t.same sM, hG, fun ⟨o, z⟩ => (by rw [hx] at z; cases z), fun y ⟨o, z⟩ => ⟨o, sM _ _ z⟩, fun H5 t k hI => ⟨rfl, x, t, H4, hB.1, fun b o z => ?_, hI, rfl⟩⟩
      exact k b o (sM _ _ z) (fun q => by rw [q, hx] at z; cases z)
  rintro σ H5 ⟨p2, tt2, H4, e4, e5, hI2, rfl⟩
  have hp1_4 : ∃ o, H4 p1 = some o := by
    obtain ⟨dx, mv, z, _⟩ := hI1.ob
    exact ⟨_, e4 _ _ z⟩
  have ht1_4 : ∃ o, H4 tt1 = some o := by
    obtain ⟨_, z, _⟩ := hI1.tb
    exact ⟨_, e4 _ _ z⟩
  have hI1 := hI1.on (D' := fun b => ∃ o, H2 b = some o) (e4.trans e5) fun x hx => ⟨.inl hx, by obtain ⟨o, z⟩ := hx; exact ⟨o, e5 _ _ (e4 _ _ (e3 _ _ z))⟩⟩
  -- handed[0].append(0)
  have lo := hG.lo
  have e25 := (e3.trans e4).trans e5
  obtain ⟨_, hs, d1, d2, d3⟩ := id hB2
  obtain ⟨c0, q1, q2, q3, q4⟩ := d3 0 (ws[0].map V.int) (by rw [List.getElem?_map, List.getElem?_eq_getElem (by omega)]; rfl)
  refine ⟨_, rfl, hd, _, _, V.ref c0, rfl, rfl, SqL.of (e25 _ _ d1), atI_zero (by rw [List.getElem?_map, q1]; rfl), .inl ⟨rfl, _, SqL.of (e25 _ _ q2)⟩, c0, _, _, rfl, rfl, e25 _ _ q2, ?_, ?_⟩
  · rw [List.length_map]
    have := (hG.row 0 ws[0] (List.getElem?_eq_getElem (by omega))).sm
    exact small1000 (by omega)
  have e15 : Same H1 H5 := e2.trans e25
  have e16 : Same H1 (upd H5 c0 (.lst (ws[0].map V.int ++ [.int 0]))) := same_put e15 q4 _
  have hI1 : InnAt C (fun b => ∃ o, H2 b = some o) (upd H5 c0 (.lst (ws[0].map V.int ++ [.int 0]))) p1 tt1 ws (allCalm ws).head? := hI1.put (fun b o z nb => by rw [upd_ne (show b ≠ c0 from fun w => nb ⟨_, by rw [w]; exact q2⟩)]; exact z) (fun x ⟨o, z⟩ => by
    by_cases c : x = c0
    · exact ⟨_, by rw [c, upd_same]⟩
    · exact ⟨o, by rw [upd_ne c]; exact e25 _ _ z⟩)
  have hI2 : InnAt C (fun b => ∃ o, H4 b = some o) (upd H5 c0 (.lst (ws[0].map V.int ++ [.int 0]))) p2 tt2 ws (allCalm ws).head? := hI2.put (fun b o z nb => by rw [upd_ne (show b ≠ c0 from fun w => nb ⟨_, by rw [w]; exact e4 _ _ (e3 _ _ q2)⟩)]; exact z) (fun x ⟨o, z⟩ => by
    by_cases c : x = c0
    · exact ⟨_, by rw [c, upd_same]⟩
    · exact ⟨o, by rw [upd_ne c]; exact e5 _ _ z⟩)
  generalize upd H5 c0 (.lst (ws[0].map V.int ++ [.int 0])) = H6 at e16 hI1 hI2
  -- what is due
  refine ⟨_, rfl, wl, ws, rfl, hT1.same e16, hG, fun H7 dv e7 hN7 => ?_⟩
  have e17 := e16.trans e7
  refine ⟨_, rfl, wl, ws, rfl, hT1.same e17, hG, fun H8 sv e8 hN8 => ?_⟩
  have e18 := e17.trans e8
  refine ⟨fun σ H9 => ∃ ol, H8 ol = none ∧ Built H8 ol (ws.map fun r => r.map V.int) H9 ∧ σ = [some (.ref a), some (.int ws.length), some (.ref wl), none, some (.ref hd), some (.ref p1), some (.ref p2), some dv, some sv, some (.ref ol), none, none, none, none, none, none, none, none], ?_, ?_⟩
  · refine ⟨_, rfl, wl, rfl, ⟨_, e18.seq t1⟩, fun L hL => ?_⟩
    refine lc_list (K := K) (a := wl) (xs := as.map V.ref) (fun i H' => Built H8 L ((ws.take i).map fun r => r.map V.int) H') (built_start hL) (fun i H' _ h => h.1.seq (e18.seq t1)) ?_ ?_
    · rintro i x HX hx hBX
      obtain ⟨b, hb, rfl⟩ := map_ref_get hx
      have hi : i < ws.length := by rw [← t2]; exact (List.getElem?_eq_some_iff.mp hb).1
      obtain ⟨b', hb', hs⟩ := t3 i ws[i] (List.getElem?_eq_getElem hi)
      rw [hb] at hb'
      cases hb'
      refine ⟨rfl, _, rfl, b, _, rfl, .inl (hBX.1.seq (e18.seq hs)), fun l hl => ?_⟩
      obtain ⟨acc, z1, z2, z3⟩ := built_step (f := HO.lst) (r := ws[i].map V.int) hL hBX (same_new hl _) hl upd_same
      refine ⟨acc, z1, ?_, ?_⟩
      · rw [z2, List.length_map, List.length_take]
        exact small1000 (by omega)
      · rw [take_one (List.getElem?_eq_getElem hi), List.map_append]
        exact z3
    · rintro H2 hB
      rw [List.length_map, t2, List.take_length] at hB
      exact ⟨L, hL, hB, rfl⟩
  rintro σ H9 ⟨ol, hol, hB9, rfl⟩
  have e9 := hB9.1
  have e19 := e18.trans e9
  have e79 := e8.trans e9
  have e69 := e7.trans e79
  have stay : ∀ {H' : Hp}, Same H6 H' → InnAt C (fun b => ∃ o, H2 b = some o) H' p1 tt1 ws (allCalm ws).head? := fun e => hI1.on e fun x hx => ⟨.inl hx, by obtain ⟨o, z⟩ := hI1.dm x hx; exact ⟨o, e _ _ z⟩⟩
  have okh : ∀ ms, (allCalm ws).head? = some ms → OkMates ws ms ∧ (wildAll ws ms).isEmpty = true := fun ms h => calm_both (List.mem_of_mem_head? h)
  refine ⟨_, rfl, _, rfl, _, rfl, _, p1, tt1, wl, dv, ws, _, rfl, stay e69, hG, hT1.same e19, hN7.due.same e79, okh, fun H10 e10 => ⟨_, rfl, iteF ?_⟩⟩
  refine ⟨(by show 0 ≤ sizeLine; decide), fun L hL => ?_⟩
  have e11 := same_new hL (.lst [])
  have hL11 : upd H10 L (.lst []) L = some (.lst []) := upd_same
  generalize upd H10 L (.lst []) = H11 at e11 hL11
  have e1_11 := (e19.trans e10).trans e11
  refine ⟨_, rfl, _, rfl, a, cs, _, rfl, e1_11.seq (e1.seq hS), fun H0 dl ds e0 hdl hdat hd10 => ?_⟩
  have e6_10 := e69.trans e10
  have e10_0 := e11.trans e0
  have e6_0 := e6_10.trans e10_0
  have e1_0 := e1_11.trans e0
  obtain ⟨was, w1, w2, w3⟩ := id hB1.2
  rw [List.length_map] at w2
  have nLw : L ≠ wl := (ne_of_none ((e19.trans e10) _ _ w1) hL).symm
  -- what stood ahead of the Inn is none of it
  have old2 : ∀ {x : Addr} {o : HO}, H1 x = some o → x ≠ wl → ¬ MM p1 tt1 wl L x := fun {x o} hx nw => by
    have hx2 : ∃ o, H2 x = some o := ⟨o, e2 _ _ hx⟩
    rintro (rfl | rfl | rfl | rfl)
    · exact hI1.np hx2
    · exact hI1.nt hx2
    · exact nw rfl
    · exact absurd ((e19.trans e10) _ _ hx) (by rw [hL]; exact fun z => nomatch z)
  have p1at : ∃ o, H6 p1 = some o := by
    obtain ⟨dx, mv, z, _⟩ := hI1.ob
    exact ⟨_, z⟩
  have t1at : ∃ o, H6 tt1 = some o := by
    obtain ⟨_, z, _⟩ := hI1.tb
    exact ⟨_, z⟩
  -- what came later neither
  have new6 : ∀ {x : Addr} {o : HO}, H6 x = none → H10 x = some o → ¬ MM p1 tt1 wl L x := fun {x o} hx h10 => by
    rintro (rfl | rfl | rfl | rfl)
    · obtain ⟨o, z⟩ := p1at
      rw [hx] at z; cases z
    · obtain ⟨o, z⟩ := t1at
      rw [hx] at z; cases z
    · have := e16 _ _ w1
      rw [hx] at this; cases this
    · rw [hL] at h10; cases h10
  have hN0 : ∀ {v : V} {Ha Hb : Hp}, Same H6 Ha → Same Hb H10 → NewAt Ha Hb v (allCalm ws).head? → DueAt (offH (MM p1 tt1 wl L) H0) v (allCalm ws).head? := fun {v Ha Hb} ea eb h => by
    rcases h with h | ⟨d, ms, r1, r2, r3, r4⟩
    · exact .inl h
    · exact .inr ⟨d, ms, r1, r2, off_get (e10_0 _ _ (eb _ _ r4)) (new6 (ea.free r3) (eb _ _ r4))⟩
  have hD0 := hN0 (Same.refl H6) (e79.trans e10) hN7
  have hS0 := hN0 e7 (e9.trans e10) hN8
  have hO0 : TabV K (offH (MM p1 tt1 wl L) H0) ol (ws.map fun r => r.map V.int) := by
    obtain ⟨_, os, o1, o2, o3⟩ := hB9
    have e68 := e7.trans e8
    refine ⟨os, SqL.of (off_get (e10_0 _ _ (e10 _ _ o1)) (new6 (e68.free hol) (e10 _ _ o1))), o2, fun i r hr' => ?_⟩
    obtain ⟨b, b1, b2, b3, b4⟩ := o3 i r hr'
    exact ⟨b, b1, SqL.of (off_get (e10_0 _ _ (e10 _ _ b2)) (new6 (e68.free b4) (e10 _ _ b2)))⟩
  have hI20 : InnAt C (fun _ => False) (offH (MM p1 tt1 wl L) H0) p2 tt2 ws (allCalm ws).head? := by
    have h : InnAt C (fun b => ∃ o, H4 b = some o) H10 p2 tt2 ws (allCalm ws).head? := hI2.on e6_10 fun x hx => ⟨.inl hx, by obtain ⟨o, z⟩ := hI2.dm x hx; exact ⟨o, e6_10 _ _ z⟩⟩
    have h3 : InnAt C (fun _ => False) (offH (MM p1 tt1 wl L) H10) p2 tt2 ws (allCalm ws).head? := h.off fun x hx => by
      rcases hx with rfl | rfl | rfl | rfl
      · exact .inl hp1_4
      · exact .inl ht1_4
      · exact .inl ⟨_, (e2.trans (e3.trans e4)) _ _ w1⟩
      · exact .inr hL
    exact h3.on (off_keep fun b o z _ => e10_0 _ _ z) fun x hx => hx.elim
  have mem0 : ∀ x, MM p1 tt1 wl L x → ∃ o, H0 x = some o := by
    rintro x (rfl | rfl | rfl | rfl)
    · obtain ⟨o, z⟩ := p1at
      exact ⟨o, e6_0 _ _ z⟩
    · obtain ⟨o, z⟩ := t1at
      exact ⟨o, e6_0 _ _ z⟩
    · exact ⟨_, e1_0 _ _ w1⟩
    · exact ⟨_, e0 _ _ hL11⟩
  have hdl0 : ¬ MM p1 tt1 wl L dl := by
    rintro (rfl | rfl | rfl | rfl)
    · obtain ⟨o, z⟩ := p1at
      rw [(e6_10.trans e11).free hdl] at z; cases z
    · obtain ⟨o, z⟩ := t1at
      rw [(e6_10.trans e11).free hdl] at z; cases z
    · have := e1_11 _ _ w1
      rw [hdl] at this; cases this
    · rw [hL11] at hdl; cases hdl
  have start : TurnAt K C (MM p1 tt1 wl L) H0 p1 tt1 wl L ws.length 0 H0 ws (allCalm ws).head? dv := by
    refine ⟨fun b o z _ => z, hG, rfl, ?_, ⟨was, e1_0 _ _ w1, w2, fun i r hr' => ?_⟩, hD0, okh, ⟨[], e0 _ _ hL11, Nat.le_refl _, fun tp h => nomatch h⟩⟩
    · refine (stay e6_10).on e10_0 fun x hx => ?_
      rcases hx with rfl | rfl
      · exact ⟨.inl ⟨_, e2 _ _ w1⟩, _, e1_0 _ _ w1⟩
      · exact ⟨.inr hL, _, e0 _ _ hL11⟩
    · obtain ⟨b, b1, b2, b3, b4⟩ := w3 i (r.map V.int) (by rw [List.getElem?_map, hr']; rfl)
      exact ⟨b, b1, off_get (e1_0 _ _ b2) (old2 b2 b3)⟩
  refine ⟨dl, rfl, ⟨_, SqL.of hdat⟩, ?_⟩
  have ml0 := hm1
  refine for_list (K := K) (a := dl) (xs := ds.map V.int) (fun i σ H' => ∃ (ws' : List (List Int)) (mo : Option (List (Option Int))) (dv' : V) (y3 y11 y12 y13 y14 y15 : Option V),
      σ = [some (.ref a), some (.int ws.length), some (.ref wl), y3, some (.ref hd), some (.ref p1), some (.ref p2), some dv', some sv, some (.ref ol), some (.ref L), y11, y12, y13, y14, y15, none, none] ∧ TurnAt K C (MM p1 tt1 wl L) H0 p1 tt1 wl L ws.length i H' ws' mo dv')
    ⟨ws, _, dv, none, none, none, none, none, none, rfl, start⟩ (fun i σ H' _ h => by
      obtain ⟨_, _, _, _, _, _, _, _, _, _, h⟩ := h
      exact SqL.of (h.keep _ _ hdat hdl0)) ?_ ?_
  · rintro i x σ HA hx ⟨ws', mo, dv', y3, y11, y12, y13, y14, y15, rfl, hTA⟩
    obtain ⟨c, hc, rfl⟩ := map_int_get hx
    have hi10 : i < 10 := by
      have := (List.getElem?_eq_some_iff.mp hc).1
      omega
    have hGA := hTA.good
    have hlA := hTA.len
    have h6A := hGA.hi
    have mem := hTA.mem
    -- what was told is kept
    refine ⟨fun σ HB => ∃ (y3 y12 y13 y14 y15 : Option V), σ = [some (.ref a), some (.int ws.length), some (.ref wl), y3, some (.ref hd), some (.ref p1), some (.ref p2), some dv', some sv, some (.ref ol), some (.ref L), some (.int c), y12, y13, y14, y15, none, none] ∧
        TurnAt K C (MM p1 tt1 wl L) H0 p1 tt1 wl L ws.length (i + 1) HB ws' mo dv', ?_, ?_⟩
    · obtain ⟨acc0, hacc0, _⟩ := hTA.more nLw
      obtain ⟨⟨dx, mv, h1, _⟩, _⟩ := hTA.inn
      refine ⟨_, rfl, .inl ⟨rfl, _, SqL.of hacc0⟩, _, rfl, p1, dx, _, rfl, h1, inf_no _ _ (by decide +kernel) (by decide +kernel), _, p1, tt1, ws', mo, rfl, hTA.inn, fun v2 HB eB hNB => ?_⟩
      have hTB := hTA.on eB
      obtain ⟨⟨dx, mv, h1, _⟩, _⟩ := hTB.inn
      refine ⟨_, rfl, p1, dx, _, rfl, h1, inf_no _ _ (by decide +kernel) (by decide +kernel), _, p1, tt1, ws', mo, rfl, hTB.inn, h6A, fun HC tl htl hBC => ?_⟩
      have eC := hBC.1
      refine ⟨(by show 2 ≤ sizeLine; decide), fun xl hxl => ?_⟩
      have eX := same_new hxl (.lst [v2, V.ref tl])
      have xat : upd HC xl (.lst [v2, V.ref tl]) xl = some (.lst [v2, .ref tl]) := upd_same
      generalize upd HC xl (.lst [v2, V.ref tl]) = HX at eX xat
      have eAX := (eB.trans eC).trans eX
      have hTX := hTA.on eAX
      obtain ⟨as', t1', t2', t3'⟩ := id hTX.tab
      refine ⟨_, rfl, _, rfl, wl, rfl, ⟨_, t1'⟩, fun cl hcl => ?_⟩
      refine lc_list (K := K) (a := wl) (xs := as'.map V.ref) (fun i H' => Built HX cl ((ws'.take i).map fun r => r.map V.int) H') (built_start hcl) (fun i H' _ h => h.1.seq t1') ?_ ?_
      · rintro i x HY hx hBX
        obtain ⟨b, hb, rfl⟩ := map_ref_get hx
        have hi : i < ws'.length := by rw [← t2']; exact (List.getElem?_eq_some_iff.mp hb).1
        obtain ⟨b', hb', hs⟩ := t3' i ws'[i] (List.getElem?_eq_getElem hi)
        rw [hb] at hb'
        cases hb'
        refine ⟨rfl, _, rfl, b, _, rfl, .inl (hBX.1.seq hs), fun l hl => ?_⟩
        obtain ⟨acc, z1, z2, z3⟩ := built_step (f := HO.lst) (r := ws'[i].map V.int) hcl hBX (same_new hl _) hl upd_same
        refine ⟨acc, z1, ?_, ?_⟩
        · rw [z2, List.length_map, List.length_take]
          exact small1000 (by omega)
        · rw [take_one (List.getElem?_eq_getElem hi), List.map_append]
          exact z3
      · rintro HY hBY
        rw [List.length_map, t2', List.take_length] at hBY
        have eY := hBY.1
        refine ⟨(by show 2 ≤ sizeLine; decide), fun yl hyl => ?_⟩
        have eZ := same_new hyl (.lst [dv', V.ref cl])
        have yat : upd HY yl (.lst [dv', V.ref cl]) yl = some (.lst [dv', .ref cl]) := upd_same
        generalize upd HY yl (.lst [dv', V.ref cl]) = HZ at eZ yat
        refine ⟨(by show 2 ≤ sizeLine; decide), fun tp htp => ?_⟩
        have eT := same_new htp (.tup [V.ref xl, V.ref yl])
        have tat : upd HZ tp (.tup [V.ref xl, V.ref yl]) tp = some (.tup [.ref xl, .ref yl]) := upd_same
        generalize upd HZ tp (.tup [V.ref xl, V.ref yl]) = HT at eT tat
        have eXT := (eY.trans eZ).trans eT
        have eAT := eAX.trans eXT
        have hTT := hTA.on eAT
        obtain ⟨acc, hacc, hal, hmore⟩ := hTT.more nLw
        refine ⟨L, acc, _, rfl, rfl, hacc, small1000 (by omega), _, _, _, _, _, rfl, hmore tp ?_⟩
        have fx : HA xl = none := (eB.trans eC).free hxl
        have fy : HA yl = none := (eAX.trans eY).free hyl
        have ft : HA tp = none := ((eAX.trans eY).trans eZ).free htp
        refine ⟨xl, yl, dT mo ws', off_get tat (fresh_off mem ft), .lst (SqL.of (off_get (eXT _ _ xat) (fresh_off mem fx))) (.cons ((hNB.off ((eC.trans eX).trans eXT) mem).dp) (.cons ?_ .nil)),
          .lst (SqL.of (off_get (eT _ _ yat) (fresh_off mem fy))) (.cons (hTT.due.dp) (.cons ?_ .nil)), dT_shaped _ _, dT_refl _ _⟩
        · have memB : ∀ x, MM p1 tt1 wl L x → ∃ o, HB x = some o := hTB.mem
          exact (hBC.off htl (eX.trans eXT) memB).dp (plain_ints ws')
        · exact (hBY.off hcl (eZ.trans eT) hTX.mem).dp (plain_ints ws')
    rintro σ HB ⟨y3, y12, y13, y14, y15, rfl, hTB⟩
    clear mem hTA
    have hm0 : (0 : Int) < (ws.length : Int) := by omega
    -- whose list
    refine ⟨fun σ H' => H' = HB ∧ ∃ g : Nat, g < ws.length ∧ σ = [some (.ref a), some (.int ws.length), some (.ref wl), y3, some (.ref hd), some (.ref p1), some (.ref p2), some dv', some sv, some (.ref ol), some (.ref L), some (.int c), some (.int (g : Int)), y13, y14, y15, none, none], ?_, ?_⟩
    · refine ⟨_, rfl, _, _, rfl, rfl, ⟨by decide, by decide⟩, _, rfl, _, _, rfl, rfl, hm0, ?_⟩
      obtain ⟨g, eg⟩ : ∃ g : Nat, c / 5 % (ws.length : Int) = (g : Int) := ⟨(c / 5 % (ws.length : Int)).toNat, by have := Int.emod_nonneg (c / 5) (show (ws.length : Int) ≠ 0 by omega); omega⟩
      have lt := Int.emod_lt_of_pos (c / 5) hm0
      exact ⟨rfl, g, by omega, by rw [← eg]; rfl⟩
    rintro σ HB' ⟨rfl, g, hg, rfl⟩
    -- the list
    refine ⟨_, rfl, _, _, rfl, rfl, ⟨by decide, by decide⟩, _, _, rfl, rfl, ⟨by decide, by decide⟩, _, rfl, _, rfl, _, rfl, _, _, rfl, rfl, ⟨by decide, by decide⟩, _, _, rfl, rfl, (by show (0 : Int) < 2; decide), rfl, ?_⟩
    refine ⟨_, (g : Int), ws.length, _, rfl, hm6, fun HC rl r eC hrl hrat hR => ?_⟩
    have hTC := hTB.on eC
    have mem := hTC.mem
    have hlC := hTC.len
    have hGC := hTC.good
    have hRC : GoodRow ws'.length (g : Int) r := by rw [hlC]; exact hR
    have hgC : g < ws'.length := by omega
    have nrl : ¬ MM p1 tt1 wl L rl := fresh_off hTB.mem hrl
    refine ⟨fun σ H' => ∃ (ws2 : List (List Int)) (mo2 : Option (List (Option Int))) (dv2 : V) (y3 y12 y13 y14 y15 : Option V),
      σ = [some (.ref a), some (.int ws.length), some (.ref wl), y3, some (.ref hd), some (.ref p1), some (.ref p2), some dv2, some sv, some (.ref ol), some (.ref L), some (.int c), y12, y13, y14, y15, none, none] ∧ TurnAt K C (MM p1 tt1 wl L) H0 p1 tt1 wl L ws.length (i + 1) H' ws2 mo2 dv2, ?_, ?_⟩
    · refine ⟨_, rfl, _, _, rfl, rfl, (by show (0 : Int) < 5; decide), rfl, _, rfl, ?_⟩
      refine ite2 (fun _ => ?_) (fun _ => ?_)
      · have hrC := SqL.of (K := K) hrat
        refine ⟨fun σ HD => Same HC HD ∧ ∃ bv : V, ((∀ H, BadWish K H ws'.length (g : Int) bv) ∨ ∃ y ∈ r, bv = V.int y) ∧ σ = [some (.ref a), some (.int ws.length), some (.ref wl), some (.ref rl), some (.ref hd), some (.ref p1), some (.ref p2), some dv', some sv, some (.ref ol), some (.ref L), some (.int c), some (.int (g : Int)), some bv, y14, y15, none, none], ?_, ?_⟩
        · refine ⟨_, rfl, _, rfl, _, rfl, _, rfl, _, rfl, (by show 1 ≤ sizeLine; decide), fun u hu => ?_⟩
          have eu := same_new hu (.lst [V.int (ws.length : Nat)])
          refine ⟨rl, u, _, _, rfl, rfl, eu _ _ hrat, upd_same, ?_, fun v hv => ?_⟩
          · have := hR.sm
            rw [List.length_map]
            exact le_line (show r.length + 1 ≤ 1000 by omega)
          obtain ⟨x0, hx0, hx1⟩ : ∃ x0 : V, (r.map V.int ++ [V.int (ws.length : Nat)])[0]? = some x0 ∧ (x0 = V.int (ws.length : Nat) ∨ ∃ y ∈ r, x0 = V.int y) := by
            cases r with
            | nil => exact ⟨_, rfl, .inl rfl⟩
            | cons y r => exact ⟨_, rfl, .inr ⟨y, List.mem_cons_self .., rfl⟩⟩
          have ev := same_new hv (.lst (r.map V.int ++ [V.int (ws.length : Nat)]))
          refine ⟨v, _, _, x0, rfl, rfl, SqL.of upd_same, atI_zero hx0, (by show 6 ≤ sizeLine; decide), fun q6 hq6 => ?_⟩
          have eq6 := same_new hq6 (.lst [V.int (g : Int), V.int (ws.length : Nat), V.int (-1), V.bl true, x0, V.bl false])
          obtain ⟨bv, hbv, hbo⟩ := six_of (v0 := V.int (g : Int)) (v1 := V.int (ws.length : Nat)) (v2 := V.int (-1)) (v3 := V.bl true) (v4 := x0) (v5 := V.bl false) (j := c / 60 % 6) (by omega) (by omega)
          refine ⟨_, rfl, _, _, rfl, rfl, ⟨by decide, by decide⟩, _, _, rfl, rfl, (by show (0 : Int) < 6; decide), q6, _, _, bv, rfl, rfl, SqL.of upd_same, hbv, (eu.trans ev).trans eq6, bv, ?_, rfl⟩
          have many : ∀ H, BadWish K H ws'.length (g : Int) (V.int (ws.length : Nat)) := fun H => .inr ⟨_, rfl, fun z => by omega⟩
          rcases hbo with rfl | rfl | rfl | rfl | rfl | rfl
          · exact .inl fun H => .inr ⟨_, rfl, fun z => z.2.2 rfl⟩
          · exact .inl many
          · exact .inl fun H => .inr ⟨_, rfl, fun z => by omega⟩
          · exact .inl fun H => boolBad _
          · rcases hx1 with rfl | h
            · exact .inl many
            · exact .inr h
          · exact .inl fun H => boolBad _
        rintro σ HD ⟨eD, bv, hbv, rfl⟩
        refine ⟨fun σ H' => H' = HD ∧ ∃ k : Nat, k ≤ r.length ∧ σ = [some (.ref a), some (.int ws.length), some (.ref wl), some (.ref rl), some (.ref hd), some (.ref p1), some (.ref p2), some dv', some sv, some (.ref ol), some (.ref L), some (.int c), some (.int (g : Int)), some bv, some (.int (k : Int)), y15, none, none], ?_, ?_⟩
        · refine ⟨_, rfl, _, _, rfl, rfl, ⟨by decide, by decide⟩, _, rfl, rl, _, rfl, .inl (eD.seq hrC), _, _, rfl, rfl, _, _, rfl, rfl, (by show (0 : Int) < (((r.map V.int).length : Nat) : Int) + 1; omega), ?_⟩
          have pos : (0 : Int) < (((r.map V.int).length : Nat) : Int) + 1 := by omega
          have h0 := Int.emod_nonneg (c / 360) (show (((r.map V.int).length : Nat) : Int) + 1 ≠ 0 by omega)
          have h1 := Int.emod_lt_of_pos (c / 360) pos
          rw [List.length_map] at h0 h1
          obtain ⟨k, ek⟩ : ∃ k : Nat, c / 360 % (((r.map V.int).length : Nat) + 1 : Int) = (k : Int) := ⟨(c / 360 % ((r.length : Int) + 1)).toNat, by rw [List.length_map]; omega⟩
          refine ⟨rfl, k, ?_, by rw [← ek]; rfl⟩
          rw [List.length_map] at ek
          omega
        rintro σ HD' ⟨rfl, k, hk, rfl⟩
        refine ⟨_, rfl, _, rfl, _, rfl, _, rfl, _, rfl, rl, _, rfl, eD.seq hrC, fun s1 hs1 => ?_⟩
        rw [cut_lo r hk]
        have eA := same_new hs1 (.lst ((r.take k).map V.int))
        refine ⟨_, rfl, (by show 1 ≤ sizeLine; decide), fun l1 hl1 => ?_⟩
        have eB := same_new hl1 (.lst [bv])
        have hrs := hR.sm
        refine ⟨s1, l1, _, _, rfl, rfl, eB _ _ upd_same, upd_same, ?_, fun c1 hc1 => ?_⟩
        · rw [List.length_map, List.length_take]
          exact le_line (show min k r.length + 1 ≤ 1000 by omega)
        have eC1 := same_new hc1 (.lst ((r.take k).map V.int ++ [bv]))
        refine ⟨_, rfl, _, rfl, _, rfl, rl, _, rfl, (((eD.trans eA).trans eB).trans eC1).seq hrC, fun s2 hs2 => ?_⟩
        rw [cut_hi r hk]
        have eE := same_new hs2 (.lst ((r.drop k).map V.int))
        refine ⟨c1, s2, _, _, rfl, rfl, eE _ _ upd_same, upd_same, ?_, fun c2 hc2 => ?_⟩
        · rw [List.length_append, List.length_map, List.length_map, List.length_take, List.length_drop]
          exact le_line (show min k r.length + 1 + (r.length - k) ≤ 1000 by omega)
        have eF := same_new hc2 (.lst ((r.take k).map V.int ++ [bv] ++ (r.drop k).map V.int))
        have eG := ((((eD.trans eA).trans eB).trans eC1).trans eE).trans eF
        have hTG := hTC.on eG
        refine ⟨_, p1, tt1, ws', mo, g, .ref c2, rfl, hTG.inn, hGC, hgC, row_bad hRC hk (SqL.of upd_same) (hbv.imp (fun h => h _) id), fun H' eH => ⟨_, rfl, iteF ?_⟩⟩
        exact ⟨ws', mo, dv', _, _, _, _, _, rfl, hTG.on eH⟩
      · refine ⟨_, rfl, rl, _, rfl, .inl (SqL.of hrat), fun gl hgl => ?_⟩
        have eG := same_new hgl (.lst (r.map V.int))
        have gat : upd HC gl (.lst (r.map V.int)) gl = some (.lst (r.map V.int)) := upd_same
        have ngl : ¬ MM p1 tt1 wl L gl := fresh_off mem hgl
        have hIG : InnAt C (fun x => x = wl ∨ x = L ∨ x = gl) (upd HC gl (.lst (r.map V.int))) p1 tt1 ws' mo := hTC.inn.on eG fun x hx => by
          rcases hx with rfl | rfl | rfl
          · obtain ⟨o, z⟩ := mem x (.inr (.inr (.inl rfl)))
            exact ⟨.inl (.inl rfl), o, eG _ _ z⟩
          · obtain ⟨o, z⟩ := mem x (.inr (.inr (.inr rfl)))
            exact ⟨.inl (.inr rfl), o, eG _ _ z⟩
          · exact ⟨.inr hgl, _, gat⟩
        generalize upd HC gl (.lst (r.map V.int)) = HG at eG gat hIG
        obtain ⟨⟨dx, mv, h1, _⟩, _⟩ := id hIG
        refine ⟨_, rfl, p1, dx, _, rfl, h1, inf_no _ _ (by decide +kernel) (by decide +kernel), _, rfl, _, rfl, _, p1, tt1, ws', mo, g, gl, r, rfl, hIG, hGC, hgC, SqL.of gat, hRC, fun HT kT hIT => ?_⟩
        refine ⟨rfl, _, rfl, iteF ?_⟩
        -- given.append(guest)
        have nglp : gl ≠ p1 := fun z => ngl (.inl z)
        have nglt : gl ≠ tt1 := fun z => ngl (.inr (.inl z))
        have gat2 := kT _ _ gat nglp nglt
        refine ⟨_, rfl, .inl ⟨rfl, _, SqL.of gat2⟩, _, rfl, gl, _, _, rfl, rfl, gat2, ?_, ?_⟩
        · have := hR.sm
          rw [List.length_map]
          exact small1000 (by omega)
        -- wishes[guest] = row
        obtain ⟨as', a1, a2, a3⟩ := hTC.tw
        have nwp : wl ≠ p1 := fun z => hTC.inn.np (.inl z.symm)
        have nwt : wl ≠ tt1 := fun z => hTC.inn.nt (.inl z.symm)
        have nwg : wl ≠ gl := fun z => ngl (.inr (.inr (.inl z.symm)))
        have wat : upd HT gl (.lst (r.map V.int ++ [.int (g : Int)])) wl = some (.lst (as'.map V.ref)) := by
          rw [upd_ne nwg]
          exact kT _ _ (eG _ _ a1) nwp nwt
        refine ⟨_, rfl, _, rfl, _, rfl, wl, _, _, _, rfl, rfl, wat, ixN_of (by omega) (by rw [List.length_map]; omega), ?_⟩
        have egn : ((g : Nat) : Int).toNat = g := by omega
        rw [egn]
        have mW : MM p1 tt1 wl L wl := .inr (.inr (.inl rfl))
        have keep6 : ∀ b o, HC b = some o → ¬ MM p1 tt1 wl L b → upd (upd HT gl (.lst (r.map V.int ++ [.int (g : Int)]))) wl (.lst ((as'.map V.ref).set g (.ref rl))) b = some o := fun b o z nb => by
          rw [upd_ne (show b ≠ wl from fun w => nb (by rw [w]; exact mW)), upd_ne (ne_of_none z hgl)]
          exact kT _ _ (eG _ _ z) (fun w => nb (.inl w)) (fun w => nb (.inr (.inl w)))
        have hI5 : InnAt C (fun x => x = wl ∨ x = L ∨ x = gl) (upd HT gl (.lst (r.map V.int ++ [.int (g : Int)]))) p1 tt1 (ws'.set g r) (settleO (ws'.set g r) mo) :=
          hIT.put (fun b o z nb => by rw [upd_ne (show b ≠ gl from fun w => nb (.inr (.inr w)))]; exact z) (fun x hx => by
            by_cases w : x = gl
            · exact ⟨_, by rw [w, upd_same]⟩
            · obtain ⟨o, z⟩ := hIT.dm x hx
              exact ⟨o, by rw [upd_ne w]; exact z⟩)
        have hI6 : InnAt C (fun x => x = wl ∨ x = L ∨ x = gl) (upd (upd HT gl (.lst (r.map V.int ++ [.int (g : Int)]))) wl (.lst ((as'.map V.ref).set g (.ref rl)))) p1 tt1 (ws'.set g r) (settleO (ws'.set g r) mo) :=
          hI5.put (fun b o z nb => by rw [upd_ne (show b ≠ wl from fun w => nb (.inl w))]; exact z) (fun x hx => by
            by_cases w2 : x = wl
            · exact ⟨_, by rw [w2, upd_same]⟩
            · obtain ⟨o, z⟩ := hI5.dm x hx
              exact ⟨o, by rw [upd_ne w2]; exact z⟩)
        have w6 : upd (upd HT gl (.lst (r.map V.int ++ [.int (g : Int)]))) wl (.lst ((as'.map V.ref).set g (.ref rl))) wl = some (.lst ((as'.map V.ref).set g (.ref rl))) := upd_same
        have L6 : ∃ o, HC L = some o ∧ upd (upd HT gl (.lst (r.map V.int ++ [.int (g : Int)]))) wl (.lst ((as'.map V.ref).set g (.ref rl))) L = some o := by
          obtain ⟨tps, z, _⟩ := hTC.held
          refine ⟨_, z, ?_⟩
          have n1 : L ≠ p1 := fun w => hTC.inn.np (.inr w.symm)
          have n2 : L ≠ tt1 := fun w => hTC.inn.nt (.inr w.symm)
          rw [upd_ne nLw, upd_ne (ne_of_none z hgl)]
          exact kT _ _ (eG _ _ z) n1 n2
        generalize upd (upd HT gl (.lst (r.map V.int ++ [.int (g : Int)]))) wl (.lst ((as'.map V.ref).set g (.ref rl))) = H6' at keep6 hI6 w6 L6
        have off6 : Same (offH (MM p1 tt1 wl L) HC) (offH (MM p1 tt1 wl L) H6') := off_keep keep6
        have hG6 := good_set hGC hRC
        have hl6 : (ws'.set g r).length = ws.length := by rw [List.length_set]; exact hlC
        have tw6 : ∃ as : List Addr, H6' wl = some (.lst (as.map V.ref)) ∧ as.length = (ws'.set g r).length ∧ ∀ (i : Nat) (r' : List Int), (ws'.set g r)[i]? = some r' → ∃ b, as[i]? = some b ∧ offH (MM p1 tt1 wl L) H6' b = some (.lst (r'.map V.int)) := by
          refine ⟨as'.set g rl, by rw [w6, List.map_set], by rw [List.length_set, List.length_set]; exact a2, fun j r' hr' => ?_⟩
          rcases set_get hr' with ⟨rfl, _, rfl⟩ | ⟨ne, hj⟩
          · exact ⟨rl, by rw [List.getElem?_set_self (by omega)], off6 _ _ (off_get hrat nrl)⟩
          · obtain ⟨b, b1, b2⟩ := a3 j r' hj
            exact ⟨b, by rw [List.getElem?_set_ne ne]; exact b1, off6 _ _ b2⟩
        have tab6 : Tab K H6' wl (ws'.set g r) := by
          obtain ⟨as, h1, h2, h3⟩ := tw6
          refine ⟨as, SqL.of h1, h2, fun i r hr => ?_⟩
          obtain ⟨b, b1, b2⟩ := h3 i r hr
          exact ⟨b, b1, SqL.of (off_same _ _ _ _ b2)⟩
        have mem6 : ∀ x, MM p1 tt1 wl L x → ∃ o, H6' x = some o := by
          rintro x (rfl | rfl | rfl | rfl)
          · obtain ⟨dx, mv, z, _⟩ := hI6.ob
            exact ⟨_, z⟩
          · obtain ⟨_, z, _⟩ := hI6.tb
            exact ⟨_, z⟩
          · exact ⟨_, w6⟩
          · obtain ⟨o, _, z⟩ := L6
            exact ⟨o, z⟩
        -- the state behind the deed, whatever is due
        have state : ∀ (H7 : Hp) (dv2 : V), Same H6' H7 → DueAt (offH (MM p1 tt1 wl L) H7) dv2 (settleO (ws'.set g r) mo) → TurnAt K C (MM p1 tt1 wl L) H0 p1 tt1 wl L ws.length (i + 1) H7 (ws'.set g r) (settleO (ws'.set g r) mo) dv2 := fun H7 dv2 e7' hd => by
          have off7 : Same (offH (MM p1 tt1 wl L) HC) (offH (MM p1 tt1 wl L) H7) := off6.trans (off_keep fun b o z _ => e7' _ _ z)
          refine ⟨fun b o z nb => e7' _ _ (keep6 b o (hTC.keep b o z nb) nb), hG6, hl6, hI6.on e7' fun x hx => ?_, ?_, hd, fun ms h => calm_both (settle_in h), ?_⟩
          · obtain ⟨o, z⟩ := mem6 x (hx.elim (fun w => .inr (.inr (.inl w))) fun w => .inr (.inr (.inr w)))
            exact ⟨.inl (hx.imp id .inl), o, e7' _ _ z⟩
          · obtain ⟨as, h1, h2, h3⟩ := tw6
            refine ⟨as, e7' _ _ h1, h2, fun j r' hr' => ?_⟩
            obtain ⟨b, b1, b2⟩ := h3 j r' hr'
            exact ⟨b, b1, off_get (e7' _ _ (off_same _ _ _ _ b2)) (off_not b2)⟩
          · obtain ⟨tps, z1, z2, z3⟩ := hTC.held
            obtain ⟨o, z4, z5⟩ := L6
            rw [z1] at z4
            cases z4
            exact ⟨tps, e7' _ _ z5, z2, fun tp htp => (z3 tp htp).same off7⟩
        have fresh : ∀ (H7 : Hp) (v : V), Same H6' H7 → NewAt H6' H7 v (allCalm (ws'.set g r)).head? → settleO (ws'.set g r) mo = (allCalm (ws'.set g r)).head? → TurnAt K C (MM p1 tt1 wl L) H0 p1 tt1 wl L ws.length (i + 1) H7 (ws'.set g r) (settleO (ws'.set g r) mo) v := fun H7 v e7' hN he =>
          state H7 v e7' (by rw [he]; exact hN.off (Same.refl H7) mem6)
        have hD6 := hTC.due.same off6
        refine ⟨_, rfl, rfl, _, rfl, ?_⟩
        rcases hD6 with ⟨rfl, rfl⟩ | ⟨d, ms, rfl, rfl, hd6⟩
        · refine iteT ?_
          refine ⟨_, rfl, wl, ws'.set g r, rfl, tab6, hG6, fun H7 v e7' hN => ?_⟩
          exact ⟨_, _, v, _, _, _, _, _, rfl, fresh H7 v e7' hN rfl⟩
        · refine iteF ?_
          obtain ⟨hO, _⟩ := hTC.ok ms rfl
          have hml : ms.length = (ws'.set g r).length := by rw [List.length_set]; exact hO.len
          have hd6' := off_same _ _ _ _ hd6
          refine ⟨_, rfl, _, rfl, wl, d, ws'.set g r, ms, rfl, tab6, hG6.hi, SqL.of hd6', hml, fun j j0 j1 => by rw [List.length_set] at j1 ⊢; exact hO.oko j0 j1, fun tt htt => ⟨_, rfl, ?_⟩⟩
          cases tt with
          | false =>
            refine iteT ?_
            refine ⟨_, rfl, wl, ws'.set g r, rfl, tab6, hG6, fun H7 v e7' hN => ?_⟩
            refine ⟨_, _, v, _, _, _, _, _, rfl, fresh H7 v e7' hN (if_neg fun z => ?_)⟩
            have := htt.mpr (calm_out z).1
            cases this
          | true =>
            refine iteF ?_
            have hO6 := htt.mp rfl
            refine ⟨_, rfl, _, rfl, wl, d, ws'.set g r, ms, rfl, tab6, hG6, SqL.of hd6', hO6, fun H7 rr hrr hR7 => ?_⟩
            refine ⟨(by show 0 ≤ sizeLine; decide), fun e he => ?_⟩
            have s4 : Same H7 (upd H7 e (.lst [])) := same_new he _
            have e7' := hR7.1.trans s4
            refine ⟨dPs (wildAll (ws'.set g r) ms), dPs [], (hR7.prs.same s4).dp, .lst (SqL.of upd_same) .nil, dPs_shaped _, dPs_shaped _, _, rfl, ?_⟩
            rw [dPs_nil]
            cases hw : (wildAll (ws'.set g r) ms).isEmpty with
            | true =>
              refine iteF ?_
              have hin : ms ∈ allCalm (ws'.set g r) := calm_in hG6 hO6 (calm_of hw)
              have hse : settleO (ws'.set g r) (some ms) = some ms := if_pos hin
              refine ⟨_, _, .ref d, _, _, _, _, _, rfl, state _ _ e7' ?_⟩
              rw [hse]
              exact .inr ⟨d, ms, rfl, rfl, off_get (e7' _ _ hd6') (off_not hd6)⟩
            | false =>
              refine iteT ?_
              refine ⟨_, rfl, wl, ws'.set g r, rfl, tab6.same e7', hG6, fun H8' v e8' hN => ?_⟩
              have hN' : NewAt H6' H8' v (allCalm (ws'.set g r)).head? := hN.back e7'
              refine ⟨_, _, v, _, _, _, _, _, rfl, fresh H8' v (e7'.trans e8') hN' (if_neg fun z => ?_)⟩
              rw [(calm_both z).2] at hw
              cases hw
    rintro σ HD ⟨ws2, mo2, dv2, y3, y12, y13, y14, y15, rfl, hTD⟩
    refine ⟨_, rfl, _, rfl, _, rfl, _, p1, tt1, wl, dv2, ws2, mo2, rfl, hTD.inn, hTD.good, hTD.tab, hTD.due.same (off_same _ _), hTD.ok, fun HE eE => ⟨_, rfl, iteF ?_⟩⟩
    exact ⟨ws2, mo2, dv2, _, _, _, _, _, _, rfl, hTD.on eE⟩
  · rintro σ HZ ⟨ws', mo, dv', y3, y11, y12, y13, y14, y15, rfl, hTZ⟩
    have offZ : Same (offH (MM p1 tt1 wl L) H0) (offH (MM p1 tt1 wl L) HZ) := off_keep hTZ.keep
    obtain ⟨tps, hL0, _, hheld⟩ := hTZ.held
    have hlen10 : tps.length ≤ 10 := by
      have := hTZ.held
      obtain ⟨tps', z1, z2, _⟩ := this
      rw [hL0] at z1
      have e : tps.map V.ref = tps'.map V.ref := HO.lst.inj (Option.some.inj z1)
      have e2 := congrArg List.length e
      rw [List.length_map, List.length_map] at e2
      rw [List.length_map] at z2
      omega
    refine ⟨_, rfl, L, rfl, ⟨_, SqL.of hL0⟩, fun D hD => ?_⟩
    refine lc_list (K := K) (a := L) (xs := tps.map V.ref) (fun i H' => Same HZ H' ∧ H' D = some (.lst ((List.replicate i true).map V.bl))) ⟨same_new hD _, upd_same⟩ (fun i H' _ h => SqL.of (h.1 _ _ hL0)) ?_ ?_
    · rintro i x HY hx ⟨eY, hat⟩
      obtain ⟨tp, htp, rfl⟩ := map_ref_get hx
      have hi : i < tps.length := (List.getElem?_eq_some_iff.mp htp).1
      obtain ⟨xl, yl, d, r1, r2, r3, r4, r5⟩ := hheld tp (List.mem_of_getElem? htp)
      have sY : Same (offH (MM p1 tt1 wl L) HZ) HY := (off_same _ _).trans eY
      refine ⟨tp, _, rfl, SqT.of (sY _ _ r1), rfl, _, _, rfl, _, _, rfl, rfl, rfl, ?_⟩
      refine ⟨_, rfl, _, rfl, d, d, dp_same sY r2, dp_same sY r3, r4, r4, _, hat, ?_, same_put eY hD _, ?_⟩
      · rw [List.length_map, List.length_replicate]
        exact small1000 (by omega)
      · rw [upd_same, r5, List.replicate_succ', List.map_append]
        rfl
    · rintro HY ⟨eY, hat⟩
      refine ⟨D, _, rfl, SqL.of hat, _, rfl, ?_⟩
      have eall : (List.replicate (tps.map V.ref).length true).all id = true := by rw [List.all_replicate]; split <;> rfl
      rw [eall]
      refine iteF ?_
      have s0Y : Same (offH (MM p1 tt1 wl L) H0) HY := (offZ.trans (off_same _ _)).trans eY
      have inY : ∀ {H' : Hp}, Same HY H' → InnAt C (fun _ => False) H' p2 tt2 ws (allCalm ws).head? := fun e => hI20.on (s0Y.trans e) fun x hx => hx.elim
      obtain ⟨⟨dx, mv, h1, _⟩, _⟩ := inY (Same.refl HY)
      refine ⟨_, rfl, p2, dx, _, rfl, h1, inf_no _ _ (by decide +kernel) (by decide +kernel), _, p2, tt2, ws, _, rfl, inY (Same.refl HY), fun v2 HX eX hNX => ?_⟩
      refine ⟨_, rfl, _, _, hNX.due.dp, (hS0.same (s0Y.trans eX)).dp, dO_shaped _, dO_shaped _, _, rfl, ?_⟩
      rw [dO_refl]
      refine iteT ?_
      obtain ⟨⟨dx, mv, h1, _⟩, _⟩ := inY eX
      refine ⟨_, rfl, p2, dx, _, rfl, h1, inf_no _ _ (by decide +kernel) (by decide +kernel), _, p2, tt2, ws, _, rfl, inY eX, hm6, fun HW tl htl hBW => ?_⟩
      refine ⟨_, rfl, _, _, hBW.tab.dp (plain_ints ws), (hO0.same ((s0Y.trans eX).trans hBW.1)).dp (plain_ints ws), dLL_shaped _, dLL_shaped _, ?_⟩
      rw [dLL_refl]
      exact q _
end
end B2

namespace B2
open PySem L2
theorem all_mk {l : PySem.W.OpenLaw} {w : World} {K : PySem.W.Frag} {h : Heap} {mg : Str → Option Value} {fa : Addr} (X : K.In h) (G : h.Ns mainGlobals mg) (hfa : mg "law" = some (.ref fa))
    {f1 f2 f3 f4 f5 f6 f7 f8 f9 f10 f11 f12 f13 f14 f15 f16 f17 f18 f19 f20 f21 f22 f23 f24 : Addr} {od1 an1 od2 an2 od3 an3 od4 an4 od5 an5 od6 an6 od7 an7 od8 an8 od9 an9 od10 an10 od11 an11 od12 an12 od13 an13 od14 an14 od15 an15 od16 an16 od17 an17 od18 an18 od19 an19 od20 an20 od21 an21 od22 an22 od23 an23 od24 an24 : Option Addr} {sl1 sl2 sl3 sl4 sl5 sl6 sl7 sl8 sl9 sl10 sl11 sl12 sl13 sl14 sl15 sl16 sl17 sl18 sl19 sl20 sl21 sl22 sl23 sl24 : Array (Option Value)} {oc1 kV1 dc1 pm1 cd1 ct1 oc2 kV2 dc2 pm2 cd2 ct2 oc3 kV3 dc3 pm3 cd3 ct3 oc4 kV4 dc4 pm4 cd4 ct4 oc5 kV5 dc5 pm5 cd5 ct5 oc6 kV6 dc6 pm6 cd6 ct6 oc7 kV7 dc7 pm7 cd7 ct7 oc8 kV8 dc8 pm8 cd8 ct8 oc9 kV9 dc9 pm9 cd9 ct9 oc10 kV10 dc10 pm10 cd10 ct10 oc11 kV11 dc11 pm11 cd11 ct11 oc12 kV12 dc12 pm12 cd12 ct12 oc13 kV13 dc13 pm13 cd13 ct13 oc14 kV14 dc14 pm14 cd14 ct14 oc15 kV15 dc15 pm15 cd15 ct15 oc16 kV16 dc16 pm16 cd16 ct16 oc17 kV17 dc17 pm17 cd17 ct17 oc18 kV18 dc18 pm18 cd18 ct18 oc19 kV19 dc19 pm19 cd19 ct19 oc20 kV20 dc20 pm20 cd20 ct20 oc21 kV21 dc21 pm21 cd21 ct21 oc22 kV22 dc22 pm22 cd22 ct22 oc23 kV23 dc23 pm23 cd23 ct23 oc24 kV24 dc24 pm24 cd24 ct24 : Value}
    (a1 : PySem.W.nsIn K mainGlobals "is_guest" = some (some (.ref f1))) (l1 : K.lookup f1 = some ⟨oc1, od1, .func (PySem.W.fnOf "is_guest" "is_guest" (defArgs s_is_guest) (defBody s_is_guest) (defScope s_is_guest) .none kV1 dc1 pm1 an1 cd1 ct1), sl1⟩) (c1 : PySem.W.codeIn K cd1 "is_guest" = true) (k1 : PySem.W.keepIn K (.ref f1) = true)
    (a2 : PySem.W.nsIn K mainGlobals "need_row" = some (some (.ref f2))) (l2 : K.lookup f2 = some ⟨oc2, od2, .func (PySem.W.fnOf "need_row" "need_row" (defArgs s_need_row) (defBody s_need_row) (defScope s_need_row) .none kV2 dc2 pm2 an2 cd2 ct2), sl2⟩) (c2 : PySem.W.codeIn K cd2 "need_row" = true) (k2 : PySem.W.keepIn K (.ref f2) = true)
    (a3 : PySem.W.nsIn K mainGlobals "need_wishes" = some (some (.ref f3))) (l3 : K.lookup f3 = some ⟨oc3, od3, .func (PySem.W.fnOf "need_wishes" "need_wishes" (defArgs s_need_wishes) (defBody s_need_wishes) (defScope s_need_wishes) .none kV3 dc3 pm3 an3 cd3 ct3), sl3⟩) (c3 : PySem.W.codeIn K cd3 "need_wishes" = true) (k3 : PySem.W.keepIn K (.ref f3) = true)
    (a4 : PySem.W.nsIn K mainGlobals "need_guest" = some (some (.ref f4))) (l4 : K.lookup f4 = some ⟨oc4, od4, .func (PySem.W.fnOf "need_guest" "need_guest" (defArgs s_need_guest) (defBody s_need_guest) (defScope s_need_guest) .none kV4 dc4 pm4 an4 cd4 ct4), sl4⟩) (c4 : PySem.W.codeIn K cd4 "need_guest" = true) (k4 : PySem.W.keepIn K (.ref f4) = true)
    (a5 : PySem.W.nsIn K mainGlobals "in_both" = some (some (.ref f5))) (l5 : K.lookup f5 = some ⟨oc5, od5, .func (PySem.W.fnOf "in_both" "in_both" (defArgs s_in_both) (defBody s_in_both) (defScope s_in_both) .none kV5 dc5 pm5 an5 cd5 ct5), sl5⟩) (c5 : PySem.W.codeIn K cd5 "in_both" = true) (k5 : PySem.W.keepIn K (.ref f5) = true)
    (a6 : PySem.W.nsIn K mainGlobals "is_ahead" = some (some (.ref f6))) (l6 : K.lookup f6 = some ⟨oc6, od6, .func (PySem.W.fnOf "is_ahead" "is_ahead" (defArgs s_is_ahead) (defBody s_is_ahead) (defScope s_is_ahead) .none kV6 dc6 pm6 an6 cd6 ct6), sl6⟩) (c6 : PySem.W.codeIn K cd6 "is_ahead" = true) (k6 : PySem.W.keepIn K (.ref f6) = true)
    (a7 : PySem.W.nsIn K mainGlobals "restless_pairs" = some (some (.ref f7))) (l7 : K.lookup f7 = some ⟨oc7, od7, .func (PySem.W.fnOf "restless_pairs" "restless_pairs" (defArgs s_restless_pairs) (defBody s_restless_pairs) (defScope s_restless_pairs) .none kV7 dc7 pm7 an7 cd7 ct7), sl7⟩) (c7 : PySem.W.codeIn K cd7 "restless_pairs" = true) (k7 : PySem.W.keepIn K (.ref f7) = true)
    (a8 : PySem.W.nsIn K mainGlobals "joined" = some (some (.ref f8))) (l8 : K.lookup f8 = some ⟨oc8, od8, .func (PySem.W.fnOf "joined" "joined" (defArgs s_joined) (defBody s_joined) (defScope s_joined) .none kV8 dc8 pm8 an8 cd8 ct8), sl8⟩) (c8 : PySem.W.codeIn K cd8 "joined" = true) (k8 : PySem.W.keepIn K (.ref f8) = true)
    (a9 : PySem.W.nsIn K mainGlobals "settled" = some (some (.ref f9))) (l9 : K.lookup f9 = some ⟨oc9, od9, .func (PySem.W.fnOf "settled" "settled" (defArgs s_settled) (defBody s_settled) (defScope s_settled) .none kV9 dc9 pm9 an9 cd9 ct9), sl9⟩) (c9 : PySem.W.codeIn K cd9 "settled" = true) (k9 : PySem.W.keepIn K (.ref f9) = true)
    (a10 : PySem.W.nsIn K mainGlobals "all_twos" = some (some (.ref f10))) (l10 : K.lookup f10 = some ⟨oc10, od10, .func (PySem.W.fnOf "all_twos" "all_twos" (defArgs s_all_twos) (defBody s_all_twos) (defScope s_all_twos) .none kV10 dc10 pm10 an10 cd10 ct10), sl10⟩) (c10 : PySem.W.codeIn K cd10 "all_twos" = true) (k10 : PySem.W.keepIn K (.ref f10) = true)
    (a11 : PySem.W.nsIn K mainGlobals "all_calm" = some (some (.ref f11))) (l11 : K.lookup f11 = some ⟨oc11, od11, .func (PySem.W.fnOf "all_calm" "all_calm" (defArgs s_all_calm) (defBody s_all_calm) (defScope s_all_calm) .none kV11 dc11 pm11 an11 cd11 ct11), sl11⟩) (c11 : PySem.W.codeIn K cd11 "all_calm" = true) (k11 : PySem.W.keepIn K (.ref f11) = true)
    (a12 : PySem.W.nsIn K mainGlobals "_law_cell_at" = some (some (.ref f12))) (l12 : K.lookup f12 = some ⟨oc12, od12, .func (PySem.W.fnOf "_law_cell_at" "_law_cell_at" (defArgs s_cell_at) (defBody s_cell_at) (defScope s_cell_at) .none kV12 dc12 pm12 an12 cd12 ct12), sl12⟩) (c12 : PySem.W.codeIn K cd12 "_law_cell_at" = true) (k12 : PySem.W.keepIn K (.ref f12) = true)
    (a13 : PySem.W.nsIn K mainGlobals "_law_row_by" = some (some (.ref f13))) (l13 : K.lookup f13 = some ⟨oc13, od13, .func (PySem.W.fnOf "_law_row_by" "_law_row_by" (defArgs s_row_by) (defBody s_row_by) (defScope s_row_by) .none kV13 dc13 pm13 an13 cd13 ct13), sl13⟩) (c13 : PySem.W.codeIn K cd13 "_law_row_by" = true) (k13 : PySem.W.keepIn K (.ref f13) = true)
    (a14 : PySem.W.nsIn K mainGlobals "_law_wishes_by" = some (some (.ref f14))) (l14 : K.lookup f14 = some ⟨oc14, od14, .func (PySem.W.fnOf "_law_wishes_by" "_law_wishes_by" (defArgs s_wishes_by) (defBody s_wishes_by) (defScope s_wishes_by) .none kV14 dc14 pm14 an14 cd14 ct14), sl14⟩) (c14 : PySem.W.codeIn K cd14 "_law_wishes_by" = true) (k14 : PySem.W.keepIn K (.ref f14) = true)
    (a15 : PySem.W.nsIn K mainGlobals "_law_whole" = some (some (.ref f15))) (l15 : K.lookup f15 = some ⟨oc15, od15, .func (PySem.W.fnOf "_law_whole" "_law_whole" (defArgs s_whole) (defBody s_whole) (defScope s_whole) .none kV15 dc15 pm15 an15 cd15 ct15), sl15⟩) (c15 : PySem.W.codeIn K cd15 "_law_whole" = true) (k15 : PySem.W.keepIn K (.ref f15) = true)
    (a16 : PySem.W.nsIn K mainGlobals "_law_suits" = some (some (.ref f16))) (l16 : K.lookup f16 = some ⟨oc16, od16, .func (PySem.W.fnOf "_law_suits" "_law_suits" (defArgs s_lsuits) (defBody s_lsuits) (defScope s_lsuits) .none kV16 dc16 pm16 an16 cd16 ct16), sl16⟩) (c16 : PySem.W.codeIn K cd16 "_law_suits" = true) (k16 : PySem.W.keepIn K (.ref f16) = true)
    (a17 : PySem.W.nsIn K mainGlobals "_law_rather" = some (some (.ref f17))) (l17 : K.lookup f17 = some ⟨oc17, od17, .func (PySem.W.fnOf "_law_rather" "_law_rather" (defArgs s_lrather) (defBody s_lrather) (defScope s_lrather) .none kV17 dc17 pm17 an17 cd17 ct17), sl17⟩) (c17 : PySem.W.codeIn K cd17 "_law_rather" = true) (k17 : PySem.W.keepIn K (.ref f17) = true)
    (a18 : PySem.W.nsIn K mainGlobals "_law_restless" = some (some (.ref f18))) (l18 : K.lookup f18 = some ⟨oc18, od18, .func (PySem.W.fnOf "_law_restless" "_law_restless" (defArgs s_lrestless) (defBody s_lrestless) (defScope s_lrestless) .none kV18 dc18 pm18 an18 cd18 ct18), sl18⟩) (c18 : PySem.W.codeIn K cd18 "_law_restless" = true) (k18 : PySem.W.keepIn K (.ref f18) = true)
    (a19 : PySem.W.nsIn K mainGlobals "_law_mates" = some (some (.ref f19))) (l19 : K.lookup f19 = some ⟨oc19, od19, .func (PySem.W.fnOf "_law_mates" "_law_mates" (defArgs s_lmates) (defBody s_lmates) (defScope s_lmates) .none kV19 dc19 pm19 an19 cd19 ct19), sl19⟩) (c19 : PySem.W.codeIn K cd19 "_law_mates" = true) (k19 : PySem.W.keepIn K (.ref f19) = true)
    (a20 : PySem.W.nsIn K mainGlobals "_law_first" = some (some (.ref f20))) (l20 : K.lookup f20 = some ⟨oc20, od20, .func (PySem.W.fnOf "_law_first" "_law_first" (defArgs s_lfirst) (defBody s_lfirst) (defScope s_lfirst) .none kV20 dc20 pm20 an20 cd20 ct20), sl20⟩) (c20 : PySem.W.codeIn K cd20 "_law_first" = true) (k20 : PySem.W.keepIn K (.ref f20) = true)
    (a21 : PySem.W.nsIn K mainGlobals "_law_refused" = some (some (.ref f21))) (l21 : K.lookup f21 = some ⟨oc21, od21, .func (PySem.W.fnOf "_law_refused" "_law_refused" (defArgs s_lrefused) (defBody s_lrefused) (defScope s_lrefused) .none kV21 dc21 pm21 an21 cd21 ct21), sl21⟩) (c21 : PySem.W.codeIn K cd21 "_law_refused" = true) (k21 : PySem.W.keepIn K (.ref f21) = true)
    (a22 : PySem.W.nsIn K mainGlobals "_law_held" = some (some (.ref f22))) (l22 : K.lookup f22 = some ⟨oc22, od22, .func (PySem.W.fnOf "_law_held" "_law_held" (defArgs s_lheld) (defBody s_lheld) (defScope s_lheld) .none kV22 dc22 pm22 an22 cd22 ct22), sl22⟩) (c22 : PySem.W.codeIn K cd22 "_law_held" = true) (k22 : PySem.W.keepIn K (.ref f22) = true)
    (a23 : PySem.W.nsIn K mainGlobals "_law_deeds" = some (some (.ref f23))) (l23 : K.lookup f23 = some ⟨oc23, od23, .func (PySem.W.fnOf "_law_deeds" "_law_deeds" (defArgs s_ldeeds) (defBody s_ldeeds) (defScope s_ldeeds) .none kV23 dc23 pm23 an23 cd23 ct23), sl23⟩) (c23 : PySem.W.codeIn K cd23 "_law_deeds" = true) (k23 : PySem.W.keepIn K (.ref f23) = true)
    (a24 : PySem.W.nsIn K mainGlobals "law" = some (some (.ref f24))) (l24 : K.lookup f24 = some ⟨oc24, od24, .func (PySem.W.fnOf "law" "law" (defArgs s_law) (defBody s_law) (defScope s_law) .none kV24 dc24 pm24 an24 cd24 ct24), sl24⟩) (c24 : PySem.W.codeIn K cd24 "law" = true) (k24 : PySem.W.keepIn K (.ref f24) = true)
    (z_len : PySem.W.nsIn K mainGlobals "len" = some none)
    (z_rng : PySem.W.nsIn K mainGlobals "range" = some none)
    (z_isI : PySem.W.nsIn K mainGlobals "isinstance" = some none)
    (z_int : PySem.W.nsIn K mainGlobals "int" = some none)
    (z_bool : PySem.W.nsIn K mainGlobals "bool" = some none)
    (z_list : PySem.W.nsIn K mainGlobals "list" = some none)
    (z_set : PySem.W.nsIn K mainGlobals "set" = some none)
    (z_enm : PySem.W.nsIn K mainGlobals "enumerate" = some none)
    (z_all : PySem.W.nsIn K mainGlobals "all" = some none)
    {t_mg : Tok} (y_mg : PySem.W.nsIn K mainGlobals "MOST_GUESTS" = some (some (.int 6 t_mg)))
    {e_BadWishes : Addr} (g_BadWishes : PySem.W.nsIn K mainGlobals "BadWishes" = some (some (.ref e_BadWishes)))
    {e_BadGuest : Addr} (g_BadGuest : PySem.W.nsIn K mainGlobals "BadGuest" = some (some (.ref e_BadGuest)))
    {e_Inn : Addr} (g_Inn : PySem.W.nsIn K mainGlobals "Inn" = some (some (.ref e_Inn)))
    {fI : Addr} {odI anI : Option Addr} {slI : Array (Option Value)} {ocI kVI dcI pmI cdI ctI : Value}
    {fT : Addr} {odT anT : Option Addr} {slT : Array (Option Value)} {ocT kVT dcT pmT cdT ctT : Value}
    {fW : Addr} {odW anW : Option Addr} {slW : Array (Option Value)} {ocW kVW dcW pmW cdW ctW : Value}
    {fB : Addr} {odB anB : Option Addr} {slB : Array (Option Value)} {ocB kVB dcB pmB cdB ctB : Value}
    {fS : Addr} {odS anS : Option Addr} {slS : Array (Option Value)} {ocS kVS dcS pmS cdS ctS : Value}
    (w1BadWishes : PySem.W.excIn K e_BadWishes [.type "ValueError", .type "Exception", .type "BaseException", .type "object"] "ValueError.__new__" = true)
    (w2BadWishes : PySem.W.keepIn K (.ref e_BadWishes) = true)
    (d_BadWishes : PySem.W.hasDictIn K e_BadWishes = true)
    (t_BadWishes : PySem.W.typeIn K (.ref e_BadWishes) = some (.type "type"))
    (b_BadWishes : PySem.W.subIn K (.ref e_BadWishes) (.type "BaseException") = some true)
    (w1BadGuest : PySem.W.excIn K e_BadGuest [.type "ValueError", .type "Exception", .type "BaseException", .type "object"] "ValueError.__new__" = true)
    (w2BadGuest : PySem.W.keepIn K (.ref e_BadGuest) = true)
    (d_BadGuest : PySem.W.hasDictIn K e_BadGuest = true)
    (t_BadGuest : PySem.W.typeIn K (.ref e_BadGuest) = some (.type "type"))
    (b_BadGuest : PySem.W.subIn K (.ref e_BadGuest) (.type "BaseException") = some true)
    (s_BadWishes : PySem.W.subIn K (.ref e_BadWishes) (.ref e_BadWishes) = some true)
    (aI : PySem.W.findIn K (.ref e_Inn) "__init__" = some (some (.ref fI)))
    (iI : PySem.W.isFn K (.ref fI) = true)
    (lI : K.lookup fI = some ⟨ocI, odI, .func (PySem.W.fnOf "__init__" "Inn.__init__" (defArgs s_inn_init) (defBody s_inn_init) (defScope s_inn_init) .none kVI dcI pmI anI cdI ctI), slI⟩)
    (cI : PySem.W.codeIn K cdI "Inn.__init__" = true)
    (kI : PySem.W.keepIn K (.ref fI) = true)
    (aT : PySem.W.findIn K (.ref e_Inn) "turn" = some (some (.ref fT)))
    (iT : PySem.W.isFn K (.ref fT) = true)
    (lT : K.lookup fT = some ⟨ocT, odT, .func (PySem.W.fnOf "turn" "Inn.turn" (defArgs s_inn_turn) (defBody s_inn_turn) (defScope s_inn_turn) .none kVT dcT pmT anT cdT ctT), slT⟩)
    (cT : PySem.W.codeIn K cdT "Inn.turn" = true)
    (kT : PySem.W.keepIn K (.ref fT) = true)
    (aW : PySem.W.findIn K (.ref e_Inn) "twos" = some (some (.ref fW)))
    (iW : PySem.W.isFn K (.ref fW) = true)
    (lW : K.lookup fW = some ⟨ocW, odW, .func (PySem.W.fnOf "twos" "Inn.twos" (defArgs s_inn_twos) (defBody s_inn_twos) (defScope s_inn_twos) .none kVW dcW pmW anW cdW ctW), slW⟩)
    (cW : PySem.W.codeIn K cdW "Inn.twos" = true)
    (kW : PySem.W.keepIn K (.ref fW) = true)
    (aB : PySem.W.findIn K (.ref e_Inn) "table" = some (some (.ref fB)))
    (iB : PySem.W.isFn K (.ref fB) = true)
    (lB : K.lookup fB = some ⟨ocB, odB, .func (PySem.W.fnOf "table" "Inn.table" (defArgs s_inn_table) (defBody s_inn_table) (defScope s_inn_table) .none kVB dcB pmB anB cdB ctB), slB⟩)
    (cB : PySem.W.codeIn K cdB "Inn.table" = true)
    (kB : PySem.W.keepIn K (.ref fB) = true)
    (aS : PySem.W.findIn K (.ref e_Inn) "_settle" = some (some (.ref fS)))
    (iS : PySem.W.isFn K (.ref fS) = true)
    (lS : K.lookup fS = some ⟨ocS, odS, .func (PySem.W.fnOf "_settle" "Inn._settle" (defArgs s_inn_settle) (defBody s_inn_settle) (defScope s_inn_settle) .none kVS dcS pmS anS cdS ctS), slS⟩)
    (cS : PySem.W.codeIn K cdS "Inn._settle" = true)
    (kS : PySem.W.keepIn K (.ref fS) = true)
    (nmk : PySem.W.makesIn K e_Inn = true)
    (nkp : PySem.W.keepIn K (.ref e_Inn) = true)
    (npg : PySem.W.plainGet K e_Inn Str.empty = true)
    (nhd : PySem.W.hasDictIn K e_Inn = true)
    (npo : PySem.W.plainOver K e_Inn = true)
    (nsa : PySem.W.findIn K (.ref e_Inn) "__setattr__" = some (some (.builtin "object.__setattr__")))
    (nnw : PySem.W.findIn K (.ref e_Inn) "_wishes" = some none)
    (nnm : PySem.W.findIn K (.ref e_Inn) "_mates" = some none)
    :
    ∃ fd : FuncData, (∀ (s : Shared) (v : Value), BindsTo s fd ⟨[v], []⟩ [("_law_script", v)]) ∧ ∀ base : Heap, K.In base → base.Ns mainGlobals mg → FnOk l.prog w K mg base CX0 9 fa fd ["_law_script"] (sp_law K) := by
  have e := hfa.symm.trans (PySem.W.mg_of X G a24)
  cases e
  have T : Own mg := ⟨PySem.W.mg_none_of X G z_len, PySem.W.mg_none_of X G z_rng, PySem.W.mg_none_of X G z_isI, PySem.W.mg_none_of X G z_int, PySem.W.mg_none_of X G z_bool, PySem.W.mg_none_of X G z_list, PySem.W.mg_none_of X G z_set, PySem.W.mg_none_of X G z_enm, PySem.W.mg_none_of X G z_all⟩
  have W : ErrC K mg "BadWishes" e_BadWishes := ⟨PySem.W.mg_of X G g_BadWishes, w1BadWishes, w2BadWishes, b_BadWishes, t_BadWishes⟩
  have WG : ErrC K mg "BadGuest" e_BadGuest := ⟨PySem.W.mg_of X G g_BadGuest, w1BadGuest, w2BadGuest, b_BadGuest, t_BadGuest⟩
  have eW := exm_own ⟨d_BadWishes, t_BadWishes, b_BadWishes⟩ s_BadWishes
  have XI : TxtI K mg e_Inn fS := ⟨⟨npg, nhd, npo, nsa⟩, nnw, nnm, ⟨aS, iS, kS⟩⟩
  have MI : Mk K e_Inn fI := ⟨nmk, aI, iI, nkp⟩
  have mT : Meth K e_Inn "turn" fT := ⟨aT, iT, kT⟩
  have mW : Meth K e_Inn "twos" fW := ⟨aW, iW, kW⟩
  have mB : Meth K e_Inn "table" fB := ⟨aB, iB, kB⟩
  have FI := fun_mk (st := s_inn_init) lI cI kI
  have bI := FI.binds (ps := ["self", "wishes"]) fun _ _ _ _ _ _ us hl => match us, hl with | [_, _], _ => rfl
  have FT := fun_mk (st := s_inn_turn) lT cT kT
  have bT := FT.binds (ps := ["self", "guest", "row"]) fun _ _ _ _ _ _ us hl => match us, hl with | [_, _, _], _ => rfl
  have FW := fun_mk (st := s_inn_twos) lW cW kW
  have bW := FW.binds (ps := ["self"]) fun _ _ _ _ _ _ us hl => match us, hl with | [_], _ => rfl
  have FB := fun_mk (st := s_inn_table) lB cB kB
  have bB := FB.binds (ps := ["self"]) fun _ _ _ _ _ _ us hl => match us, hl with | [_], _ => rfl
  have FS := fun_mk (st := s_inn_settle) lS cS kS
  have bS := FS.binds (ps := ["self"]) fun _ _ _ _ _ _ us hl => match us, hl with | [_], _ => rfl
  have F1 := fun_mk (st := s_is_guest) l1 c1 k1
  have b1 := F1.binds (ps := ["number", "many"]) fun _ _ _ _ _ _ us hl => match us, hl with | [_, _], _ => rfl
  have F2 := fun_mk (st := s_need_row) l2 c2 k2
  have b2 := F2.binds (ps := ["row", "guest", "many"]) fun _ _ _ _ _ _ us hl => match us, hl with | [_, _, _], _ => rfl
  have F3 := fun_mk (st := s_need_wishes) l3 c3 k3
  have b3 := F3.binds (ps := ["wishes"]) fun _ _ _ _ _ _ us hl => match us, hl with | [_], _ => rfl
  have F4 := fun_mk (st := s_need_guest) l4 c4 k4
  have b4 := F4.binds (ps := ["wishes", "guest"]) fun _ _ _ _ _ _ us hl => match us, hl with | [_, _], _ => rfl
  have F5 := fun_mk (st := s_in_both) l5 c5 k5
  have b5 := F5.binds (ps := ["wishes", "one", "other"]) fun _ _ _ _ _ _ us hl => match us, hl with | [_, _, _], _ => rfl
  have F6 := fun_mk (st := s_is_ahead) l6 c6 k6
  have b6 := F6.binds (ps := ["wishes", "guest", "one", "other"]) fun _ _ _ _ _ _ us hl => match us, hl with | [_, _, _, _], _ => rfl
  have F7 := fun_mk (st := s_restless_pairs) l7 c7 k7
  have b7 := F7.binds (ps := ["wishes", "mates"]) fun _ _ _ _ _ _ us hl => match us, hl with | [_, _], _ => rfl
  have F8 := fun_mk (st := s_joined) l8 c8 k8
  have b8 := F8.binds (ps := ["mates", "one", "other"]) fun _ _ _ _ _ _ us hl => match us, hl with | [_, _, _], _ => rfl
  have F9 := fun_mk (st := s_settled) l9 c9 k9
  have b9 := F9.binds (ps := ["wishes", "mates", "guest"]) fun _ _ _ _ _ _ us hl => match us, hl with | [_, _, _], _ => rfl
  have F10 := fun_mk (st := s_all_twos) l10 c10 k10
  have b10 := F10.binds (ps := ["wishes"]) fun _ _ _ _ _ _ us hl => match us, hl with | [_], _ => rfl
  have F11 := fun_mk (st := s_all_calm) l11 c11 k11
  have b11 := F11.binds (ps := ["wishes"]) fun _ _ _ _ _ _ us hl => match us, hl with | [_], _ => rfl
  have F12 := fun_mk (st := s_cell_at) l12 c12 k12
  have b12 := F12.binds (ps := ["_law_script", "_law_k"]) fun _ _ _ _ _ _ us hl => match us, hl with | [_, _], _ => rfl
  have F13 := fun_mk (st := s_row_by) l13 c13 k13
  have b13 := F13.binds (ps := ["_law_cell", "_law_guest", "_law_many", "_law_full"]) fun _ _ _ _ _ _ us hl => match us, hl with | [_, _, _, _], _ => rfl
  have F14 := fun_mk (st := s_wishes_by) l14 c14 k14
  have b14 := F14.binds (ps := ["_law_script", "_law_many"]) fun _ _ _ _ _ _ us hl => match us, hl with | [_, _], _ => rfl
  have F15 := fun_mk (st := s_whole) l15 c15 k15
  have b15 := F15.binds (ps := ["_law_found"]) fun _ _ _ _ _ _ us hl => match us, hl with | [_], _ => rfl
  have F16 := fun_mk (st := s_lsuits) l16 c16 k16
  have b16 := F16.binds (ps := ["_law_wishes", "_law_one", "_law_other"]) fun _ _ _ _ _ _ us hl => match us, hl with | [_, _, _], _ => rfl
  have F17 := fun_mk (st := s_lrather) l17 c17 k17
  have b17 := F17.binds (ps := ["_law_wishes", "_law_guest", "_law_one", "_law_other"]) fun _ _ _ _ _ _ us hl => match us, hl with | [_, _, _, _], _ => rfl
  have F18 := fun_mk (st := s_lrestless) l18 c18 k18
  have b18 := F18.binds (ps := ["_law_wishes", "_law_mates_here"]) fun _ _ _ _ _ _ us hl => match us, hl with | [_, _], _ => rfl
  have F19 := fun_mk (st := s_lmates) l19 c19 k19
  have b19 := F19.binds (ps := ["_law_wishes", "_law_mates_here"]) fun _ _ _ _ _ _ us hl => match us, hl with | [_, _], _ => rfl
  have F20 := fun_mk (st := s_lfirst) l20 c20 k20
  have b20 := F20.binds (ps := ["_law_wishes"]) fun _ _ _ _ _ _ us hl => match us, hl with | [_], _ => rfl
  have F21 := fun_mk (st := s_lrefused) l21 c21 k21
  have b21 := F21.binds (ps := ["_law_inn", "_law_guest", "_law_row"]) fun _ _ _ _ _ _ us hl => match us, hl with | [_, _, _], _ => rfl
  have F22 := fun_mk (st := s_lheld) l22 c22 k22
  have b22 := F22.binds (ps := ["_law_inn", "_law_wishes", "_law_due"]) fun _ _ _ _ _ _ us hl => match us, hl with | [_, _, _], _ => rfl
  have F23 := fun_mk (st := s_ldeeds) l23 c23 k23
  have b23 := F23.binds (ps := ["_law_script", "_law_many"]) fun _ _ _ _ _ _ us hl => match us, hl with | [_, _], _ => rfl
  have F24 := fun_mk (st := s_law) l24 c24 k24
  refine ⟨PySem.W.fnOf "law" "law" (defArgs s_law) (defBody s_law) (defScope s_law) .none kV24 dc24 pm24 an24 cd24 ct24, fun s v => .of_eq rfl, fun base _ _ => ?_⟩
  have C1 : Cal l.prog w K mg base 1 "is_guest" ["number", "many"] (sp_is_guestX K) := ⟨⟨_, _, ok_is_guestX F1 T, PySem.W.mg_of X G a1, k1, b1⟩⟩
  have C2 : CalX l.prog w K mg base 2 "need_row" ["row", "guest", "many"] (sp_need_rowX K e_BadWishes) := ⟨⟨_, _, ok_need_rowX F2 T W C1, PySem.W.mg_of X G a2, k2, b2⟩⟩
  have C3 : CalX l.prog w K mg base 3 "need_wishes" ["wishes"] (sp_need_wishesX K e_BadWishes) := ⟨⟨_, _, ok_need_wishesX F3 T ⟨_, PySem.W.mg_of X G y_mg⟩ W C2, PySem.W.mg_of X G a3, k3, b3⟩⟩
  have C4 : CalX l.prog w K mg base 2 "need_guest" ["wishes", "guest"] (sp_need_guestX K e_BadGuest) := ⟨⟨_, _, ok_need_guestX F4 T WG C1, PySem.W.mg_of X G a4, k4, b4⟩⟩
  have C5 : Cal l.prog w K mg base 1 "in_both" ["wishes", "one", "other"] (sp_in_both K) := ⟨⟨_, _, ok_in_both F5, PySem.W.mg_of X G a5, k5, b5⟩⟩
  have C6 : Cal l.prog w K mg base 2 "is_ahead" ["wishes", "guest", "one", "other"] (sp_is_ahead K) := ⟨⟨_, _, ok_is_ahead F6 C5, PySem.W.mg_of X G a6, k6, b6⟩⟩
  have C7 : Cal l.prog w K mg base 3 "restless_pairs" ["wishes", "mates"] (sp_pairs K) := ⟨⟨_, _, ok_restless_pairs F7 T C6, PySem.W.mg_of X G a7, k7, b7⟩⟩
  have C8 : Cal l.prog w K mg base 1 "joined" ["mates", "one", "other"] (sp_joined K) := ⟨⟨_, _, ok_joined F8 T, PySem.W.mg_of X G a8, k8, b8⟩⟩
  have C9 : Cal l.prog w K mg base 2 "settled" ["wishes", "mates", "guest"] (sp_settled K) := ⟨⟨_, _, ok_settled F9 T C5 C8, PySem.W.mg_of X G a9, k9, b9⟩⟩
  have C10 : Cal l.prog w K mg base 4 "all_twos" ["wishes"] (sp_all_twos K) := ⟨⟨_, _, ok_all_twos F10 T (cal_need_wishes C3) C9, PySem.W.mg_of X G a10, k10, b10⟩⟩
  have C11 : Cal l.prog w K mg base 5 "all_calm" ["wishes"] (sp_all_calm K) := ⟨⟨_, _, ok_all_calm F11 C10 C7, PySem.W.mg_of X G a11, k11, b11⟩⟩
  have GS := ok_settle (P := l.prog) (w := w) (base := base) FS XI C11
  have GI := ok_inn_init FI T XI (cal_need_wishes C3) GS bS
  have GT := ok_inn_turn FT T XI C4 C2 GS bS
  have GW := ok_inn_twos (P := l.prog) (w := w) (base := base) FW T XI
  have GB := ok_inn_table (P := l.prog) (w := w) (base := base) FB T XI
  have C12 : Cal l.prog w K mg base 1 "_law_cell_at" ["_law_script", "_law_k"] (sp_cell_at K) := ⟨⟨_, _, ok_cell_at F12 T, PySem.W.mg_of X G a12, k12, b12⟩⟩
  have C13 : Cal l.prog w K mg base 1 "_law_row_by" ["_law_cell", "_law_guest", "_law_many", "_law_full"] sp_row_by := ⟨⟨_, _, ok_row_by F13 T, PySem.W.mg_of X G a13, k13, b13⟩⟩
  have C14 : Cal l.prog w K mg base 2 "_law_wishes_by" ["_law_script", "_law_many"] (sp_wishes_by K) := ⟨⟨_, _, ok_wishes_by F14 T C12 C13, PySem.W.mg_of X G a14, k14, b14⟩⟩
  have C15 : Cal l.prog w K mg base 1 "_law_whole" ["_law_found"] sp_whole := ⟨⟨_, _, ok_whole F15 T, PySem.W.mg_of X G a15, k15, b15⟩⟩
  have C16 : Cal l.prog w K mg base 1 "_law_suits" ["_law_wishes", "_law_one", "_law_other"] (sp_in_both K) := ⟨⟨_, _, ok_lsuits F16, PySem.W.mg_of X G a16, k16, b16⟩⟩
  have C17 : Cal l.prog w K mg base 2 "_law_rather" ["_law_wishes", "_law_guest", "_law_one", "_law_other"] (sp_lrather K) := ⟨⟨_, _, ok_lrather F17 C16, PySem.W.mg_of X G a17, k17, b17⟩⟩
  have C18 : Cal l.prog w K mg base 3 "_law_restless" ["_law_wishes", "_law_mates_here"] (sp_pairs K) := ⟨⟨_, _, ok_lrestless F18 T C17, PySem.W.mg_of X G a18, k18, b18⟩⟩
  have C19 : Cal l.prog w K mg base 2 "_law_mates" ["_law_wishes", "_law_mates_here"] (sp_lmates2 K) := ⟨⟨_, _, ok_lmates2 F19 T C15 C16, PySem.W.mg_of X G a19, k19, b19⟩⟩
  have C20 : Cal l.prog w K mg base 6 "_law_first" ["_law_wishes"] (sp_lfirst K) := ⟨⟨_, _, ok_lfirst F20 T C11, PySem.W.mg_of X G a20, k20, b20⟩⟩
  have C21 : Cal l.prog w K mg base 8 "_law_refused" ["_law_inn", "_law_guest", "_law_row"] (sp_lrefused K e_Inn) := ⟨⟨_, _, ok_lrefused F21 XI (PySem.W.mg_of X G g_BadWishes) eW mT bT GT, PySem.W.mg_of X G a21, k21, b21⟩⟩
  have C22 : Cal l.prog w K mg base 4 "_law_held" ["_law_inn", "_law_wishes", "_law_due"] (sp_lheld K e_Inn) := ⟨⟨_, _, ok_lheld F22 XI mW bW GW mB bB GB C19 C18, PySem.W.mg_of X G a22, k22, b22⟩⟩
  have C23 : Cal l.prog w K mg base 2 "_law_deeds" ["_law_script", "_law_many"] (sp_ldeeds K) := ⟨⟨_, _, ok_ldeeds F23 T C12, PySem.W.mg_of X G a23, k23, b23⟩⟩
  exact ok_law F24 T XI MI (PySem.W.mg_of X G g_Inn) bI GI mT bT GT mW bW GW mB bB GB C12 C14 C20 C22 C23 C13 C21 C19 C18
theorem walk {l : PySem.W.OpenLaw} {q : Program} {loose : List Str} {XP : (Str → Option Value) → Heap → Prop} {YP : World → Heap → Prop} {d : DefRec} {K : Params → PySem.W.Frag} (hn : l.most = some 63) (hdf : d.params.defaults = [])
    (hY : ∀ (w : World) (h : Heap), YP w h → (K w.params).In h)
    (F : ∀ (w : World) (mg : Str → Option Value) (fa : Addr) (h : Heap), (K w.params).In h → h.Ns mainGlobals mg → mg d.name = some (.ref fa) →
      ∃ fd : FuncData, (∀ (s : Shared) (u : Value), BindsTo s fd ⟨[u], []⟩ [("_law_script", u)]) ∧ ∀ base : Heap, (K w.params).In base → base.Ns mainGlobals mg → FnOk l.prog w (K w.params) mg base CX0 9 fa fd ["_law_script"] (sp_law (K w.params))) :
    PySem.W.WalkO q loose XP YP l.row.toRowW d [] (fun f vs => PySem.call f vs) :=
  L2.walk_of (n := 63) (k := 9) (x := "_law_script") (CX := fun _ => CX0) (sp := fun w => sp_law (K w.params)) hn (by decide) hdf ⟨rfl, by decide, by decide⟩ hY F (fun _ _ a ns hl _ hS => ⟨a, ns, rfl, hS, hl, fun _ => rfl⟩) fun _ _ _ _ _ z => z
end B2

open PySem PySem.W PyProof.Rows in
set_option maxRecDepth 100000 in
set_option maxHeartbeats 0 in
theorem PySem.Challenge.cw_bedtwos_k10_whole_inn_holds : PySem.Challenge.rw_bedtwos_k10_whole_inn.Holds := by
  w_on; o_law; k_head; (case hw => w_witness2)
  k_fill
  refine B2.walk (l := PySem.Challenge.rw_bedtwos_k10_whole_inn) rfl rfl (fun w h Y => PySem.W.kIn_of Y) ?F
  case F =>
    intro w mg fa h KX G hmg
    refine' B2.all_mk KX G hmg ?a1 ?l1 ?c1 ?k1 ?a2 ?l2 ?c2 ?k2 ?a3 ?l3 ?c3 ?k3 ?a4 ?l4 ?c4 ?k4 ?a5 ?l5 ?c5 ?k5 ?a6 ?l6 ?c6 ?k6 ?a7 ?l7 ?c7 ?k7 ?a8 ?l8 ?c8 ?k8 ?a9 ?l9 ?c9 ?k9 ?a10 ?l10 ?c10 ?k10 ?a11 ?l11 ?c11 ?k11 ?a12 ?l12 ?c12 ?k12 ?a13 ?l13 ?c13 ?k13 ?a14 ?l14 ?c14 ?k14 ?a15 ?l15 ?c15 ?k15 ?a16 ?l16 ?c16 ?k16 ?a17 ?l17 ?c17 ?k17 ?a18 ?l18 ?c18 ?k18 ?a19 ?l19 ?c19 ?k19 ?a20 ?l20 ?c20 ?k20 ?a21 ?l21 ?c21 ?k21 ?a22 ?l22 ?c22 ?k22 ?a23 ?l23 ?c23 ?k23 ?a24 ?l24 ?c24 ?k24 ?z_len ?z_rng ?z_isI ?z_int ?z_bool ?z_list ?z_set ?z_enm ?z_all ?y_mg ?g_BadWishes ?g_BadGuest ?g_Inn ?w1BadWishes ?w2BadWishes ?d_BadWishes ?t_BadWishes ?b_BadWishes ?w1BadGuest ?w2BadGuest ?d_BadGuest ?t_BadGuest ?b_BadGuest ?s_BadWishes ?aI ?iI ?lI ?cI ?kI ?aT ?iT ?lT ?cT ?kT ?aW ?iW ?lW ?cW ?kW ?aB ?iB ?lB ?cB ?kB ?aS ?iS ?lS ?cS ?kS ?nmk ?nkp ?npg ?nhd ?npo ?nsa ?nnw ?nnm
    (case a1 => k_is)
    (case l1 => k_is)
    (case c1 => k_is)
    (case k1 => k_is)
    (case a2 => k_is)
    (case l2 => k_is)
    (case c2 => k_is)
    (case k2 => k_is)
    (case a3 => k_is)
    (case l3 => k_is)
    (case c3 => k_is)
    (case k3 => k_is)
    (case a4 => k_is)
    (case l4 => k_is)
    (case c4 => k_is)
    (case k4 => k_is)
    (case a5 => k_is)
    (case l5 => k_is)
    (case c5 => k_is)
    (case k5 => k_is)
    (case a6 => k_is)
    (case l6 => k_is)
    (case c6 => k_is)
    (case k6 => k_is)
    (case a7 => k_is)
    (case l7 => k_is)
    (case c7 => k_is)
    (case k7 => k_is)
    (case a8 => k_is)
    (case l8 => k_is)
    (case c8 => k_is)
    (case k8 => k_is)
    (case a9 => k_is)
    (case l9 => k_is)
    (case c9 => k_is)
    (case k9 => k_is)
    (case a10 => k_is)
    (case l10 => k_is)
    (case c10 => k_is)
    (case k10 => k_is)
    (case a11 => k_is)
    (case l11 => k_is)
    (case c11 => k_is)
    (case k11 => k_is)
    (case a12 => k_is)
    (case l12 => k_is)
    (case c12 => k_is)
    (case k12 => k_is)
    (case a13 => k_is)
    (case l13 => k_is)
    (case c13 => k_is)
    (case k13 => k_is)
    (case a14 => k_is)
    (case l14 => k_is)
    (case c14 => k_is)
    (case k14 => k_is)
    (case a15 => k_is)
    (case l15 => k_is)
    (case c15 => k_is)
    (case k15 => k_is)
    (case a16 => k_is)
    (case l16 => k_is)
    (case c16 => k_is)
    (case k16 => k_is)
    (case a17 => k_is)
    (case l17 => k_is)
    (case c17 => k_is)
    (case k17 => k_is)
    (case a18 => k_is)
    (case l18 => k_is)
    (case c18 => k_is)
    (case k18 => k_is)
    (case a19 => k_is)
    (case l19 => k_is)
    (case c19 => k_is)
    (case k19 => k_is)
    (case a20 => k_is)
    (case l20 => k_is)
    (case c20 => k_is)
    (case k20 => k_is)
    (case a21 => k_is)
    (case l21 => k_is)
    (case c21 => k_is)
    (case k21 => k_is)
    (case a22 => k_is)
    (case l22 => k_is)
    (case c22 => k_is)
    (case k22 => k_is)
    (case a23 => k_is)
    (case l23 => k_is)
    (case c23 => k_is)
    (case k23 => k_is)
    (case a24 => k_is)
    (case l24 => k_is)
    (case c24 => k_is)
    (case k24 => k_is)
    (case z_len => k_is)
    (case z_rng => k_is)
    (case z_isI => k_is)
    (case z_int => k_is)
    (case z_bool => k_is)
    (case z_list => k_is)
    (case z_set => k_is)
    (case z_enm => k_is)
    (case z_all => k_is)
    (case y_mg => k_is)
    (case g_BadWishes => k_is)
    (case g_BadGuest => k_is)
    (case g_Inn => k_is)
    (case w1BadWishes => k_exc)
    (case w2BadWishes => k_is)
    (case d_BadWishes => k_is)
    (case t_BadWishes => k_is)
    (case b_BadWishes => k_is)
    (case w1BadGuest => k_exc)
    (case w2BadGuest => k_is)
    (case d_BadGuest => k_is)
    (case t_BadGuest => k_is)
    (case b_BadGuest => k_is)
    (case s_BadWishes => k_is)
    (case aI => k_is)
    (case iI => k_is)
    (case lI => k_is)
    (case cI => k_is)
    (case kI => k_is)
    (case aT => k_is)
    (case iT => k_is)
    (case lT => k_is)
    (case cT => k_is)
    (case kT => k_is)
    (case aW => k_is)
    (case iW => k_is)
    (case lW => k_is)
    (case cW => k_is)
    (case kW => k_is)
    (case aB => k_is)
    (case iB => k_is)
    (case lB => k_is)
    (case cB => k_is)
    (case kB => k_is)
    (case aS => k_is)
    (case iS => k_is)
    (case lS => k_is)
    (case cS => k_is)
    (case kS => k_is)
    (case nmk => k_is)
    (case nkp => k_is)
    (case npg => k_is)
    (case nhd => k_is)
    (case npo => k_is)
    (case nsa => k_is)
    (case nnw => k_is)
    (case nnm => k_is)
#print axioms PySem.Challenge.cw_bedtwos_k10_whole_inn_holds
