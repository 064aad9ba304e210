import PyProof.Rows.All
import Wide.All
import OpenK.AllK
import Wide.FinOn
import HandS.ForMost
import HandS.IsInst
import HandS.Zip
import HandS.Walk
import HandS.Evl
import HandS.Style
import HandS.Deep
import HandS.ForExc
import HandS.Small
import HandS.FStr
import HandS.ExcIs
import HandS.Conv
import KE.LtSeq
import KE.KIndexOf
import HandS.RepeatKit
import PySem.Challenge.RW_bedtwos_k07_whole_either_or
set_option Elab.async false
set_option maxRecDepth 100000
set_option maxHeartbeats 4000000
namespace B2
open PySem L2

/-! ### Data: tables of wishes, rows, what stands at an address -/

/-- a row of the guest g, one of n -/
structure GoodRow (n : Nat) (g : Int) (r : List Int) : Prop where
  nd : r.Nodup
  rg : ∀ x ∈ r, 0 ≤ x ∧ x < (n : Int) ∧ x ≠ g
  sm : r.length ≤ 6

structure Good (ws : List (List Int)) : Prop where
  lo : 1 ≤ ws.length
  hi : ws.length ≤ 6
  row : ∀ (g : Nat) (r : List Int), ws[g]? = some r → GoodRow ws.length (g : Int) r

/-- the table ws stands at a -/
def Tab (K : PySem.W.Frag) (H : Hp) (a : Addr) (ws : List (List Int)) : Prop :=
  ∃ as : List Addr, SqL K H a (as.map V.ref) ∧ as.length = ws.length ∧
    ∀ (i : Nat) (r : List Int), ws[i]? = some r → ∃ b, as[i]? = some b ∧ SqL K H b (r.map V.int)

theorem Tab.same {K : PySem.W.Frag} {H H' : Hp} {a : Addr} {ws : List (List Int)} (e : Same H H') (t : Tab K H a ws) : Tab K H' a ws := by
  obtain ⟨as, h1, h2, h3⟩ := t
  refine ⟨as, e.seq h1, h2, fun i r hr => ?_⟩
  obtain ⟨b, hb, hs⟩ := h3 i r hr
  exact ⟨b, hb, e.seq hs⟩

theorem same_new {H : Hp} {p : Addr} (h : H p = none) (o : HO) : Same H (upd H p o) := fun b u q => by
  rw [upd_ne (ne_of_none q h)]; exact q

/-- what was there at the start stays, though the new object at p is changed -/
theorem same_put {H H1 : Hp} {p : Addr} (e : Same H H1) (h : H p = none) (o : HO) : Same H (upd H1 p o) := fun b u q => by
  rw [upd_ne (ne_of_none q h)]; exact e b u q

def rowOf (ws : List (List Int)) (i : Int) : List Int := ws.getD i.toNat []

theorem rowOf_get {ws : List (List Int)} {i : Int} (h0 : 0 ≤ i) (h1 : i < (ws.length : Int)) :
    ws[i.toNat]? = some (rowOf ws i) ∧ i = ((i.toNat : Nat) : Int) := by
  have h : i.toNat < ws.length := by omega
  refine ⟨?_, by omega⟩
  unfold rowOf
  rw [List.getD_eq_getElem?_getD, List.getElem?_eq_getElem h]
  rfl

theorem rowOf_good {ws : List (List Int)} (g : Good ws) {i : Int} (h0 : 0 ≤ i) (h1 : i < (ws.length : Int)) : GoodRow ws.length i (rowOf ws i) := by
  have h := rowOf_get h0 h1
  have q := g.row _ _ h.1
  rw [← h.2] at q
  exact q

/-- wishes[i], as the list rules ask it -/
theorem Tab.at {K : PySem.W.Frag} {H : Hp} {a : Addr} {ws : List (List Int)} (t : Tab K H a ws) :
    ∃ as : List Addr, SqL K H a (as.map V.ref) ∧ as.length = ws.length ∧
    ∀ i : Int, 0 ≤ i → i < (ws.length : Int) → ∃ b, atI (as.map V.ref) i = some (.ref b) ∧ SqL K H b ((rowOf ws i).map V.int) := by
  obtain ⟨as, h1, h2, h3⟩ := t
  refine ⟨as, h1, h2, fun i i0 i1 => ?_⟩
  obtain ⟨q1, q2⟩ := rowOf_get i0 i1
  obtain ⟨b, hb, hs⟩ := h3 _ _ q1
  refine ⟨b, ?_, hs⟩
  have : atI (as.map V.ref) ((i.toNat : Nat) : Int) = some (.ref b) := atI_nat (by rw [List.getElem?_map, hb]; rfl)
  rw [← q2] at this
  exact this

theorem inV_int (j : Int) : ∀ r : List Int, inV (.int j) (r.map V.int) = decide (j ∈ r)
  | [] => by simp [inV]
  | x :: r => by
    have ih := inV_int j r
    unfold inV at ih ⊢
    rw [List.map_cons, List.any_cons, ih]
    show ((x == j) || decide (j ∈ r)) = decide (j ∈ x :: r)
    by_cases h : x = j
    · simp [h]
    · have h' : ¬ j = x := fun q => h q.symm
      simp [h, h']

theorem flat_ints (r : List Int) : (r.map V.int).all flatV = true := by
  rw [List.all_eq_true]
  intro x hx
  rw [List.mem_map] at hx
  obtain ⟨i, _, rfl⟩ := hx
  rfl

/-- two guests suit each other -/
def suitsB (ws : List (List Int)) (i j : Int) : Bool := decide (j ∈ rowOf ws i) && decide (i ∈ rowOf ws j)

theorem suitsB_comm (ws : List (List Int)) (i j : Int) : suitsB ws i j = suitsB ws j i := Bool.and_comm _ _

def ov : Option Int → V
  | none => .non
  | some i => .int i

theorem ov_inj {a b : Option Int} (h : ov a = ov b) : a = b := by
  cases a <;> cases b <;> first | rfl | (cases h; rfl) | (cases h)

theorem ov_dec (a b : Option Int) : decide (ov a = ov b) = decide (a = b) := by
  by_cases h : a = b
  · rw [h]; simp
  · have h' : ¬ ov a = ov b := fun q => h (ov_inj q)
    rw [decide_eq_false h, decide_eq_false h']

theorem ov_non (a : Option Int) : decide (ov a = .non) = a.isNone := by
  cases a <;> rfl

/-- a guest or none, of n -/
def OkO (n : Nat) : Option Int → Prop
  | none => True
  | some i => 0 ≤ i ∧ i < (n : Int)

/-- whether g would rather have one than other -/
def aheadB (ws : List (List Int)) (g : Int) : Option Int → Option Int → Bool
  | none, _ => false
  | some a, none => suitsB ws g a
  | some a, some b => if a = b then false else
      if suitsB ws g a = true then (if suitsB ws g b = true then decide ((rowOf ws g).idxOf a < (rowOf ws g).idxOf b) else true) else false

/-- as the law goes through the list -/
def scanB (s : Int → Bool) (a : Int) (o : Option Int) : List Int → Bool
  | [] => false
  | t :: r => if (decide (some t = o) && s t) = true then false else if t = a then true else scanB s a o r

theorem scanB_none (s : Int → Bool) (a : Int) : ∀ r : List Int, a ∈ r → scanB s a none r = true
  | [], h => by cases h
  | t :: r, h => by
    unfold scanB
    have e : (decide (some t = (none : Option Int)) && s t) = false := by
      rw [decide_eq_false (by intro q; cases q), Bool.false_and]
    rw [e]
    by_cases q : t = a
    · rw [if_neg (by decide), if_pos q]
    · rw [if_neg (by decide), if_neg q]
      rcases List.mem_cons.mp h with h | h
      · exact absurd h.symm q
      · exact scanB_none s a r h

theorem scanB_no (s : Int → Bool) (a b : Int) (hs : s b = false) : ∀ r : List Int, a ∈ r → scanB s a (some b) r = true
  | [], h => by cases h
  | t :: r, h => by
    unfold scanB
    have e : (decide (some t = some b) && s t) = false := by
      by_cases q : t = b
      · rw [q, hs, Bool.and_false]
      · rw [decide_eq_false (by intro z; exact q (Option.some.inj z)), Bool.false_and]
    rw [e]
    by_cases q : t = a
    · rw [if_neg (by decide), if_pos q]
    · rw [if_neg (by decide), if_neg q]
      rcases List.mem_cons.mp h with h | h
      · exact absurd h.symm q
      · exact scanB_no s a b hs r h

theorem scanB_yes (s : Int → Bool) (a b : Int) (hs : s b = true) (hab : a ≠ b) : ∀ r : List Int, a ∈ r → scanB s a (some b) r = decide (r.idxOf a < r.idxOf b)
  | [], h => by cases h
  | t :: r, h => by
    unfold scanB
    by_cases q : t = b
    · have e : (decide (some t = some b) && s t) = true := by rw [q, hs]; simp
      rw [if_pos e, q, List.idxOf_cons, List.idxOf_cons]
      have e1 : (b == a) = false := by
        apply beq_eq_false_iff_ne.mpr
        exact fun z => hab z.symm
      simp [e1]
    · have e : (decide (some t = some b) && s t) = false := by
        rw [decide_eq_false (by intro z; exact q (Option.some.inj z)), Bool.false_and]
      rw [e, if_neg (by decide)]
      have e2 : (t == b) = false := beq_eq_false_iff_ne.mpr q
      by_cases q1 : t = a
      · rw [if_pos q1, List.idxOf_cons, List.idxOf_cons]
        have e1 : (t == a) = true := by rw [q1]; exact beq_self_eq_true a
        rw [e1, e2]
        simp
      · rw [if_neg q1]
        have e1 : (t == a) = false := beq_eq_false_iff_ne.mpr q1
        have ha : a ∈ r := by
          rcases List.mem_cons.mp h with h | h
          · exact absurd h.symm q1
          · exact h
        rw [scanB_yes s a b hs hab r ha, List.idxOf_cons, List.idxOf_cons, e1, e2]
        simp

def ratherB (ws : List (List Int)) (g : Int) : Option Int → Option Int → Bool
  | none, _ => false
  | some a, o => if suitsB ws g a = true then scanB (suitsB ws g) a o (rowOf ws g) else false

theorem suitsB_mem {ws : List (List Int)} {g a : Int} (h : suitsB ws g a = true) : a ∈ rowOf ws g ∧ g ∈ rowOf ws a := by
  unfold suitsB at h
  rw [Bool.and_eq_true] at h
  exact ⟨of_decide_eq_true h.1, of_decide_eq_true h.2⟩

theorem scanB_same (s : Int → Bool) (a : Int) (hs : s a = true) : ∀ r : List Int, scanB s a (some a) r = false
  | [] => rfl
  | t :: r => by
    unfold scanB
    by_cases q : t = a
    · rw [if_pos (by rw [q, hs]; simp)]
    · rw [if_neg (by rw [decide_eq_false (by intro z; exact q (Option.some.inj z)), Bool.false_and]; decide), if_neg q]
      exact scanB_same s a hs r

theorem rather_is (ws : List (List Int)) (g : Int) : ∀ a o : Option Int, ratherB ws g a o = aheadB ws g a o
  | none, _ => rfl
  | some a, none => by
    show (if suitsB ws g a = true then scanB (suitsB ws g) a none (rowOf ws g) else false) = suitsB ws g a
    by_cases h : suitsB ws g a = true
    · rw [if_pos h, scanB_none _ _ _ (suitsB_mem h).1, h]
    · rw [if_neg h]
      exact (Bool.eq_false_iff.mpr h).symm
  | some a, some b => by
    show (if suitsB ws g a = true then scanB (suitsB ws g) a (some b) (rowOf ws g) else false) = (if a = b then false else
      if suitsB ws g a = true then (if suitsB ws g b = true then decide ((rowOf ws g).idxOf a < (rowOf ws g).idxOf b) else true) else false)
    by_cases h : suitsB ws g a = true
    · rw [if_pos h, if_pos h]
      by_cases q : a = b
      · rw [if_pos q, ← q, scanB_same _ _ h]
      · rw [if_neg q]
        by_cases h2 : suitsB ws g b = true
        · rw [if_pos h2, scanB_yes _ _ _ h2 q _ (suitsB_mem h).1]
        · rw [if_neg h2, scanB_no _ _ _ (Bool.eq_false_iff.mpr h2) _ (suitsB_mem h).1]
    · rw [if_neg h, if_neg h]
      by_cases q : a = b
      · rw [if_pos q]
      · rw [if_neg q]

/-- the first place of x in a list of ints, as list.index asks it -/
theorem index_at (x : Int) : ∀ r : List Int, x ∈ r →
    (r.map V.int)[r.idxOf x]? = some (.int x) ∧ ∀ (m : Nat) (z : V), m < r.idxOf x → (r.map V.int)[m]? = some z → eqV z (.int x) = false
  | [], h => by cases h
  | t :: r, h => by
    by_cases q : t = x
    · rw [List.idxOf_cons]
      have e1 : (t == x) = true := by rw [q]; exact beq_self_eq_true x
      rw [e1]
      refine ⟨by rw [q]; rfl, fun m z hm => ?_⟩
      simp at hm
    · have e1 : (t == x) = false := beq_eq_false_iff_ne.mpr q
      have ha : x ∈ r := by
        rcases List.mem_cons.mp h with h | h
        · exact absurd h.symm q
        · exact h
      obtain ⟨i1, i2⟩ := index_at x r ha
      rw [List.idxOf_cons, e1]
      refine ⟨?_, fun m z hm hz => ?_⟩
      · show (V.int t :: r.map V.int)[r.idxOf x + 1]? = _
        rw [List.getElem?_cons_succ]
        exact i1
      · cases m with
        | zero =>
          rw [List.map_cons, List.getElem?_cons_zero] at hz
          cases hz
          exact e1
        | succ m =>
          rw [List.map_cons, List.getElem?_cons_succ] at hz
          have hm' : m + 1 < r.idxOf x + 1 := hm
          exact i2 m z (by omega) hz
end B2

namespace B2
open PySem L2

/-! ### Data of nested lists -/
theorem canLayAll_of : ∀ ds : List PyData, (∀ d ∈ ds, d.canLay0 = true) → PyData.canLayAll0 ds = true
  | [], _ => by simp [PyData.canLayAll0]
  | d :: ds, h => by
    have h1 := h d (List.mem_cons_self ..)
    have h2 := canLayAll_of ds (fun e he => h e (List.mem_cons_of_mem _ he))
    simp [PyData.canLayAll0, h1, h2]
theorem depthAll_of (k : Nat) : ∀ ds : List PyData, (∀ d ∈ ds, d.depth ≤ k) → PyData.depthAll ds ≤ k
  | [], _ => by simp [PyData.depthAll]
  | d :: ds, h => by
    have h1 := h d (List.mem_cons_self ..)
    have h2 := depthAll_of k ds (fun e he => h e (List.mem_cons_of_mem _ he))
    simp only [PyData.depthAll]
    omega

def dV : V → PyData
  | .bl b => .bool b
  | .int i => .int i
  | _ => .none
/-- None, truths and numbers -/
def plainV : V → Bool
  | .non => true
  | .bl _ => true
  | .int _ => true
  | _ => false
theorem dV_dp {K : PySem.W.Frag} {H : Hp} : ∀ v : V, plainV v = true → Dp K H v (dV v)
  | .non, _ => .non
  | .bl b, _ => .bl b
  | .int i, _ => .int i
  | .str _, h | .byt _, h | .flt _, h | .ref _, h | .ty _, h => by cases h
theorem dV_lay : ∀ v : V, (dV v).canLay0 = true ∧ (dV v).depth ≤ 1
  | .non | .bl _ | .int _ | .str _ | .byt _ | .flt _ | .ref _ | .ty _ => by simp [dV, PyData.canLay0, PyData.depth]
theorem dpAll_plain {K : PySem.W.Frag} {H : Hp} : ∀ vs : List V, (∀ v ∈ vs, plainV v = true) → DpAll K H vs (vs.map dV)
  | [], _ => .nil
  | v :: vs, h => .cons (dV_dp v (h v (List.mem_cons_self ..))) (dpAll_plain vs fun u hu => h u (List.mem_cons_of_mem _ hu))
/-- what a list of plain things, a list of such lists is as data -/
def dL (vs : List V) : PyData := .list (vs.map dV)
def dLL (vss : List (List V)) : PyData := .list (vss.map dL)
theorem dL_lay (vs : List V) : (dL vs).canLay0 = true ∧ (dL vs).depth ≤ 2 := by
  have h1 := canLayAll_of (vs.map dV) (fun d hd => by
    obtain ⟨v, _, rfl⟩ := List.mem_map.mp hd
    exact (dV_lay v).1)
  have h2 := depthAll_of 1 (vs.map dV) (fun d hd => by
    obtain ⟨v, _, rfl⟩ := List.mem_map.mp hd
    exact (dV_lay v).2)
  unfold dL
  simp only [PyData.canLay0, PyData.depth]
  exact ⟨h1, by omega⟩
theorem dLL_lay (vss : List (List V)) : (dLL vss).canLay0 = true ∧ (dLL vss).depth ≤ 3 := by
  have h1 := canLayAll_of (vss.map dL) (fun d hd => by
    obtain ⟨v, _, rfl⟩ := List.mem_map.mp hd
    exact (dL_lay v).1)
  have h2 := depthAll_of 2 (vss.map dL) (fun d hd => by
    obtain ⟨v, _, rfl⟩ := List.mem_map.mp hd
    exact (dL_lay v).2)
  unfold dLL
  simp only [PyData.canLay0, PyData.depth]
  exact ⟨h1, by omega⟩
theorem shaped_of {d : PyData} (h : d.canLay0 = true) (k : d.depth ≤ 64) : SeqAt.shaped d = true := by
  unfold SeqAt.shaped
  rw [h, decide_eq_true k]
  rfl
theorem dL_shaped (vs : List V) : SeqAt.shaped (dL vs) = true := shaped_of (dL_lay vs).1 (Nat.le_trans (dL_lay vs).2 (by decide))
theorem dLL_shaped (vss : List (List V)) : SeqAt.shaped (dLL vss) = true := shaped_of (dLL_lay vss).1 (Nat.le_trans (dLL_lay vss).2 (by decide))
theorem dL_refl (vs : List V) : (dL vs).eqv (dL vs) = true := SeqAt.eqv_refl _ (dL_lay vs).1
theorem dLL_refl (vss : List (List V)) : (dLL vss).eqv (dLL vss) = true := SeqAt.eqv_refl _ (dLL_lay vss).1

/-! ### Lists of lists in the heap -/
/-- at a a list of lists, whose items are the values vss -/
def TabV (K : PySem.W.Frag) (H : Hp) (a : Addr) (vss : List (List V)) : Prop :=
  ∃ as : List Addr, SqL K H a (as.map V.ref) ∧ as.length = vss.length ∧
    ∀ (i : Nat) (r : List V), vss[i]? = some r → ∃ b, as[i]? = some b ∧ SqL K H b r

theorem TabV.same {K : PySem.W.Frag} {H H' : Hp} {a : Addr} {vss : List (List V)} (e : Same H H') (t : TabV K H a vss) : TabV K H' a vss := by
  obtain ⟨as, h1, h2, h3⟩ := t
  refine ⟨as, e.seq h1, h2, fun i r hr => ?_⟩
  obtain ⟨b, hb, hs⟩ := h3 i r hr
  exact ⟨b, hb, e.seq hs⟩

theorem Tab.v {K : PySem.W.Frag} {H : Hp} {a : Addr} {ws : List (List Int)} (t : Tab K H a ws) : TabV K H a (ws.map fun r => r.map V.int) := by
  obtain ⟨as, h1, h2, h3⟩ := t
  refine ⟨as, h1, by rw [List.length_map]; exact h2, fun i r hr => ?_⟩
  rw [List.getElem?_map] at hr
  cases e : ws[i]? with
  | none => rw [e] at hr; cases hr
  | some q =>
    rw [e] at hr
    cases hr
    exact h3 i q e

theorem TabV.t {K : PySem.W.Frag} {H : Hp} {a : Addr} {ws : List (List Int)} (t : TabV K H a (ws.map fun r => r.map V.int)) : Tab K H a ws := by
  obtain ⟨as, h1, h2, h3⟩ := t
  refine ⟨as, h1, by rw [h2, List.length_map], fun i r hr => ?_⟩
  exact h3 i _ (by rw [List.getElem?_map, hr]; rfl)

theorem dpAll_refs {K : PySem.W.Frag} {H : Hp} : ∀ (as : List Addr) (vss : List (List V)), as.length = vss.length →
    (∀ (i : Nat) (r : List V), vss[i]? = some r → ∃ b, as[i]? = some b ∧ SqL K H b r) → (∀ r ∈ vss, ∀ v ∈ r, plainV v = true) →
    DpAll K H (as.map V.ref) (vss.map dL)
  | [], [], _, _, _ => .nil
  | [], _ :: _, h, _, _ => by cases h
  | _ :: _, [], h, _, _ => by cases h
  | a :: as, r :: vss, h, g, p => by
    obtain ⟨b, hb, hs⟩ := g 0 r rfl
    cases hb
    refine .cons (.lst hs (dpAll_plain r (p r (List.mem_cons_self ..)))) (dpAll_refs as vss (Nat.succ.inj h) (fun i q hq => ?_) fun q hq => p q (List.mem_cons_of_mem _ hq))
    exact g (i + 1) q hq

theorem TabV.dp {K : PySem.W.Frag} {H : Hp} {a : Addr} {vss : List (List V)} (t : TabV K H a vss) (p : ∀ r ∈ vss, ∀ v ∈ r, plainV v = true) : Dp K H (.ref a) (dLL vss) := by
  obtain ⟨as, h1, h2, h3⟩ := t
  exact .lst h1 (dpAll_refs as vss h2 h3 p)

theorem plain_ints (ws : List (List Int)) : ∀ r ∈ (ws.map fun r => r.map V.int), ∀ v ∈ r, plainV v = true := by
  intro r hr v hv
  obtain ⟨q, _, rfl⟩ := List.mem_map.mp hr
  obtain ⟨i, _, rfl⟩ := List.mem_map.mp hv
  rfl

theorem Tab.dp {K : PySem.W.Frag} {H : Hp} {a : Addr} {ws : List (List Int)} (t : Tab K H a ws) : Dp K H (.ref a) (dLL (ws.map fun r => r.map V.int)) := t.v.dp (plain_ints ws)

/-- a list of new objects (f r for the items r) that is being built at D: all that stood in H stands -/
def BuiltF {α : Type} (f : α → HO) (H : Hp) (D : Addr) (vss : List α) (H' : Hp) : Prop :=
  Same H H' ∧ ∃ as : List Addr, H' D = some (.lst (as.map V.ref)) ∧ as.length = vss.length ∧
    ∀ (i : Nat) (r : α), vss[i]? = some r → ∃ b, as[i]? = some b ∧ H' b = some (f r) ∧ b ≠ D ∧ H b = none

abbrev Built (H : Hp) (D : Addr) (vss : List (List V)) (H' : Hp) : Prop := BuiltF HO.lst H D vss H'

theorem built_start {α : Type} {f : α → HO} {H : Hp} {D : Addr} (h : H D = none) : BuiltF f H D [] (upd H D (.lst [])) :=
  ⟨same_new h _, [], upd_same, rfl, fun i r hr => by cases hr⟩

theorem built_step {α : Type} {f : α → HO} {H H1 H2 : Hp} {D p : Addr} {vss : List α} {r : α} (hD : H D = none) (b : BuiltF f H D vss H1) (e : Same H1 H2) (hp : H1 p = none) (hp2 : H2 p = some (f r)) :
    ∃ acc, H2 D = some (.lst acc) ∧ acc.length = vss.length ∧ BuiltF f H D (vss ++ [r]) (upd H2 D (.lst (acc ++ [.ref p]))) := by
  obtain ⟨s, as, h1, h2, h3⟩ := b
  have npD : p ≠ D := (ne_of_none h1 hp).symm
  refine ⟨_, e _ _ h1, by rw [List.length_map]; exact h2, same_put (s.trans e) hD _, as ++ [p], ?_, ?_, fun i q hq => ?_⟩
  · rw [upd_same, List.map_append]
    rfl
  · rw [List.length_append, List.length_append, h2]
    rfl
  · rw [List.getElem?_append] at hq
    rw [List.getElem?_append]
    by_cases c : i < vss.length
    · rw [if_pos c] at hq
      rw [if_pos (by rw [h2]; exact c)]
      obtain ⟨b, b1, b2, b3, b4⟩ := h3 i q hq
      exact ⟨b, b1, by rw [upd_ne b3]; exact e _ _ b2, b3, b4⟩
    · rw [if_neg c] at hq
      rw [if_neg (by rw [h2]; exact c)]
      have i0 : i - vss.length = 0 := by
        have := (List.getElem?_eq_some_iff.mp hq).1
        simp at this
        omega
      rw [i0] at hq
      cases hq
      rw [h2, i0]
      exact ⟨p, rfl, by rw [upd_ne npD]; exact hp2, npD, s.free hp⟩

theorem BuiltF.on {α : Type} {f : α → HO} {H H1 H2 : Hp} {D : Addr} {vss : List α} (B : BuiltF f H D vss H1) (e : Same H1 H2) : BuiltF f H D vss H2 := by
  obtain ⟨s, as, h1, h2, h3⟩ := B
  refine ⟨s.trans e, as, e _ _ h1, h2, fun i r hr => ?_⟩
  obtain ⟨b, b1, b2, b3, b4⟩ := h3 i r hr
  exact ⟨b, b1, e _ _ b2, b3, b4⟩

theorem Built.tab {K : PySem.W.Frag} {H H' : Hp} {D : Addr} {vss : List (List V)} (b : Built H D vss H') : TabV K H' D vss := by
  obtain ⟨s, as, h1, h2, h3⟩ := b
  refine ⟨as, SqL.of h1, h2, fun i r hr => ?_⟩
  obtain ⟨b, b1, b2, _⟩ := h3 i r hr
  exact ⟨b, b1, SqL.of b2⟩

theorem map_int_get {r : List Int} {i : Nat} {x : V} (h : (r.map V.int)[i]? = some x) : ∃ y, r[i]? = some y ∧ x = .int y := by
  rw [List.getElem?_map] at h
  cases e : r[i]? with
  | none => rw [e] at h; cases h
  | some y =>
    rw [e] at h
    exact ⟨y, rfl, (Option.some.inj h).symm⟩

theorem map_ref_get {r : List Addr} {i : Nat} {x : V} (h : (r.map V.ref)[i]? = some x) : ∃ y, r[i]? = some y ∧ x = .ref y := by
  rw [List.getElem?_map] at h
  cases e : r[i]? with
  | none => rw [e] at h; cases h
  | some y =>
    rw [e] at h
    exact ⟨y, rfl, (Option.some.inj h).symm⟩

theorem take_one {α : Type} {xs : List α} {i : Nat} {x : α} (h : xs[i]? = some x) : xs.take (i + 1) = xs.take i ++ [x] := by
  rw [List.take_add_one, h]
  rfl

theorem seqIx {i : Int} {n : Nat} (h0 : 0 ≤ i) (h1 : i < (n : Int)) : seqIndex? i n = some i.toNat := by
  have e1 : ¬ (i < 0) := by omega
  unfold seqIndex?
  simp only [if_neg e1]
  rw [decide_eq_true h0, decide_eq_true h1]
  rfl

theorem map_erase {α β : Type} (f : α → β) : ∀ (l : List α) (k : Nat), (l.map f).eraseIdx k = (l.eraseIdx k).map f
  | [], _ => rfl
  | _ :: _, 0 => rfl
  | a :: l, k + 1 => by
    show f a :: (l.map f).eraseIdx k = f a :: (l.eraseIdx k).map f
    rw [map_erase f l k]

theorem le_line {n : Nat} (h : n ≤ 1000) : n ≤ sizeLine := Nat.le_of_lt (small1000 h)

theorem cut_take (r : List Int) (k : Int) : ∃ m, cutV (r.map V.int) none (some k) = (r.take m).map V.int := by
  refine ⟨HT.sIx (r.map V.int).length (r.map V.int).length (some k) - 0, ?_⟩
  unfold cutV
  have e0 : HT.sIx (r.map V.int).length 0 none = 0 := rfl
  rw [e0, List.drop_zero, List.map_take]
/-! ### Rules within a comprehension's block, whose K is the def's -/
def rLof (K : PySem.W.Frag) : List V → Hp → VK → Prop := fun xs H Q => ∃ p ys, xs = [.ref p] ∧ (SqL K H p ys ∨ SqT K H p ys) ∧ ∀ l, H l = none → Q (.ref l) (upd H l (.lst ys))
theorem call_lof {X : Cx} {K : PySem.W.Frag} (h : X.K = K) : CallR X (.type "list") (rLof K) := by
  subst h
  exact call_list_of

theorem ix_lst {X : Cx} {K : PySem.W.Frag} (h : X.K = K) : IxR X (rIxL K) := by
  subst h
  exact ix_list
theorem in_lst {X : Cx} {K : PySem.W.Frag} (h : X.K = K) : OpR X (compareOp .In) (rIn K false) := by
  subst h
  exact op_in_seq
def rLenOf (K : PySem.W.Frag) : List V → Hp → VK → Prop := fun xs H Q => ∃ p ys, xs = [.ref p] ∧ (SqL K H p ys ∨ SqT K H p ys) ∧ Q (.int ys.length) H
theorem len_lst {X : Cx} {K : PySem.W.Frag} (h : X.K = K) : CallR X (.builtin "len") (rLenOf K) := by
  subst h
  exact call_len_seq

theorem suitsB_self {ws : List (List Int)} (hG : Good ws) {g : Int} (h0 : 0 ≤ g) (h1 : g < (ws.length : Int)) : suitsB ws g g = false := by
  have : ¬ g ∈ rowOf ws g := fun h => ((rowOf_good hG h0 h1).rg g h).2.2 rfl
  unfold suitsB
  rw [decide_eq_false this]
  rfl

end B2

namespace B2
open PySem L2 PyProof.Rows

/-! ### len(set(xs)) of any numbers -/
def metN (us : List Int) : List Int := firstMet (fun i => us.getD i 0) us.length
theorem met_full (us : List Int) : ∀ i, i ≤ us.length → (firstMet (fun i => us.getD i 0) i).length = i → (us.take i).Nodup ∧ firstMet (fun i => us.getD i 0) i = us.take i
  | 0, _, _ => ⟨List.nodup_nil, rfl⟩
  | i + 1, hi, hl => by
    have hg : us[i]? = some (us.getD i 0) := by
      rw [List.getD_eq_getElem?_getD, List.getElem?_eq_getElem (show i < us.length from hi)]
      rfl
    have hle := firstMet_length_le (fun i => us.getD i 0) i
    rw [firstMet_succ] at hl ⊢
    unfold step_dedup at hl ⊢
    by_cases c : (firstMet (fun i => us.getD i 0) i).any (fun x => x == us.getD i 0) = true
    · rw [if_pos c] at hl
      omega
    · rw [if_neg c] at hl ⊢
      rw [List.length_append, List.length_singleton] at hl
      obtain ⟨h1, h2⟩ := met_full us i (by omega) (by omega)
      rw [h2] at c ⊢
      refine ⟨?_, (take_one hg).symm⟩
      rw [take_one hg, List.nodup_append]
      refine ⟨h1, by simp, fun x hx y hy e => ?_⟩
      rw [List.mem_singleton] at hy
      exact c (List.any_eq_true.mpr ⟨x, hx, by rw [e, hy]; exact beq_self_eq_true _⟩)
theorem met_less {us : List Int} (h : ¬ us.Nodup) : (metN us).length < us.length := by
  have h1 := firstMet_length_le (fun i => us.getD i 0) us.length
  refine Classical.byContradiction fun z => h ?_
  have h2 := (met_full us us.length (Nat.le_refl _) (by unfold metN at z; omega)).1
  rw [List.take_length] at h2
  exact h2
theorem met_same {us : List Int} (h : us.Nodup) : (metN us).length = us.length := by
  unfold metN
  rw [RZ.firstMet_nodup h _ (Nat.le_refl _), List.take_length]
def tSetLen (K : PySem.W.Frag) (ta : TE) : TE := fun σ H Q => ta σ H fun x H1 => ∃ (p : Addr) (us : List Int), x = .ref p ∧ SqL K H1 p (us.map V.int) ∧ us.length ≤ 4000 ∧ Q (.int ((metN us).length : Nat)) H1
theorem pe_setLen {X : Cx} {e : Expr} {te : TE} {p1 p2 p3 p4 : Pos} (gl : Gl X "len") (ml : X.mg "len" = none) (gs : Gl X "set") (ms : X.mg "set" = none) (he : PE X e te) (calm : X.calm = true := by rfl)
    (plain : starEach [e] X.env = (false, eval e X.env) :: starEach [] X.env := by rfl) : PE X (.Call (.Name "len" p1) [.Call (.Name "set" p2) [e] [] p3] [] p4) (tSetLen X.K te) := by
  constructor
  intro pins s σ H Q inv hyp
  refine Call_ (ld_blt inv gl ml boot_len (callWith_builtin1 (args_cons ?_ rfl) rfl rfl))
  refine Call_ (ld_blt inv gs ms boot_set (callWith_type1 (args_cons ?_ plain) plain rfl))
  refine thn (he.run pins s σ H _ inv hyp) fun v s1 ⟨x, H1, inv1, rx, hx⟩ => args_nil ?_
  obtain ⟨p, us, ex, hS, small, fin⟩ := hx
  subst ex
  cases rx
  obtain ⟨vs, rv, stands, _⟩ := inv1.list hS
  have size : vs.toArray.size = us.length := by rw [List.size_toArray, ← rv.length, List.length_map]
  refine call_set_list (inv1.ok.hd calm) stands.isList (by simpa using RZ.intsAre_vals rv) (by rw [size]; unfold scanBound; omega) fun h2 tk set2 keep => args_nil ?_
  rw [size] at set2
  obtain ⟨o, es, ep, t, get, exact', dat, _, _, _, fits, count⟩ := set2
  have inv2 : Inv X pins σ H1 { s1 with heap := h2, toks := tk } := inv1.kept fun b o e => keep b o (Heap.lt_size e) e
  have few := firstMet_length_le (fun i => us.getD i 0) us.length
  have count' : es.size = (metN us).length := count
  have few' : (metN us).length ≤ us.length := few
  refine call_len_set get exact' dat fits (by rw [count'] <;> omega) ⟨.int (metN us).length, H1, inv2.tok _, ⟨_, by rw [count']⟩, fin⟩

/-! ### Texts that are put together for an error: which text does not matter -/
def Sm (t : TE) (σ : L2.St) (H : Hp) : Prop := ∀ Q : VK, (∀ y : Str, y.length ≤ 1000 → Q (.str y) H) → t σ H Q
theorem sm_str {c : Str} {σ : L2.St} {H : Hp} (h : c.length ≤ 1000) : Sm (tC (.str c)) σ H := fun Q q => q c h
theorem small_text {g : Int} (h0 : 0 ≤ g) (h7 : g ≤ 7) : (Str.ofString (toString g)).length ≤ 1000 := by
  have : g = 0 ∨ g = 1 ∨ g = 2 ∨ g = 3 ∨ g = 4 ∨ g = 5 ∨ g = 6 ∨ g = 7 := by omega
  rcases this with h | h | h | h | h | h | h | h <;> (subst h; decide +kernel)
theorem small_log {g : Int} (h0 : 0 ≤ g) (h7 : g ≤ 7) : g.natAbs.log2 < 1920 := by
  have : g = 0 ∨ g = 1 ∨ g = 2 ∨ g = 3 ∨ g = 4 ∨ g = 5 ∨ g = 6 ∨ g = 7 := by omega
  rcases this with h | h | h | h | h | h | h | h <;> (subst h; decide +kernel)
theorem sm_fmt {te : TE} {σ : L2.St} {H : Hp} {g : Int} (h : ∀ Q : VK, Q (.int g) H → te σ H Q) (h0 : 0 ≤ g) (h7 : g ≤ 7) : Sm (tFmt te) σ H := fun Q q =>
  h _ (.inr ⟨g, rfl, small_log h0 h7, q _ (small_text h0 h7)⟩)
theorem js_small {σ : L2.St} {H : Hp} : ∀ (ts : List TE) (acc : Str) (Q : Str → Hp → Prop), (∀ t ∈ ts, Sm t σ H) → acc.length + 1000 * ts.length ≤ 1000000 → (∀ out, Q out H) → tJs ts acc σ H Q
  | [], acc, Q, _, _, q => q acc
  | t :: ts, acc, Q, h, hl, q => by
    rw [List.length_cons] at hl
    show t σ H fun x H1 => ∃ y : Str, x = .str y ∧ (acc ++ y).length ≤ sizeLine ∧ tJs ts (acc ++ y) σ H1 Q
    refine h t (List.mem_cons_self ..) _ fun y hy => ⟨y, rfl, ?_, js_small ts (acc ++ y) Q (fun u hu => h u (List.mem_cons_of_mem _ hu)) ?_ q⟩
    · rw [Str.length_append]
      exact Nat.le_of_lt (by unfold sizeLine; omega)
    · rw [Str.length_append]; omega

/-! ### Own errors -/
structure ErrC (K : PySem.W.Frag) (mg : Str → Option Value) (x : Str) (C : Addr) : Prop where
  g : mg x = some (.ref C)
  ex : PySem.W.excIn K C [.type "ValueError", .type "Exception", .type "BaseException", .type "object"] "ValueError.__new__" = true
  k : PySem.W.keepIn K (.ref C) = true
  b : PySem.W.subIn K (.ref C) (.type "BaseException") = some true
  t : PySem.W.typeIn K (.ref C) = some (.type "type")

/-- what a caller wants of a def that may raise -/
structure CalX (P : Program) (w : World) (K : PySem.W.Frag) (mg : Str → Option Value) (base : Heap) (k : Nat) (x : Str) (ps : List Str) (sp : Sp) : Prop where
  ex : ∃ (g : Addr) (gd : FuncData), FnOk P w K mg base (L2.CX P w) k g gd ps sp ∧ mg x = some (.ref g) ∧ PySem.W.keepIn K (.ref g) = true ∧ Binds K gd ps []

/-- isinstance of the error that a suite holds -/
def rIsEG (K : PySem.W.Frag) (cls : Value) (d : Option Addr) (a : Addr) : List V → Hp → VK → Prop := fun xs H Q => ∃ D, cls = .ref D ∧ d = none ∧ ExcC K D ∧ rIsE K D a xs H Q
theorem call_isEG {X : Cx} {K : PySem.W.Frag} (hK : X.K = K) {a : Addr} {oe : Obj} {cls : Value} {d : Option Addr} {pn : List (Addr × Obj)} (hz : Zc cls d oe) (hf : ∃ vs, oe.data = .fields vs) :
    CallR (X.suite a ((a, oe) :: pn)) (.builtin "isinstance") (rIsEG K cls d a) := by
  subst hK
  rintro pins s σ H xs us Q I r ⟨D, e1, e2, C, h⟩
  subst e1 e2
  exact call_isE C hz hf pins s σ H xs us Q I r h
/-- .. against a tuple of classes that was just laid -/
def rIsET (K : PySem.W.Frag) (cls : Value) (d : Option Addr) (a : Addr) : List V → Hp → VK → Prop := fun xs H Q => ∃ D, cls = .ref D ∧ d = none ∧ ExcC K D ∧
  ∃ (tp : Addr) (cs : List V) (ws : List Value) (b : Bool), xs = [.ref a, .ref tp] ∧ H tp = some (.tup cs) ∧ Paired ClsV cs ws ∧ PySem.W.kitAny K (.ref D) ws = some b ∧ Q (.bl b) H
theorem call_isET {X : Cx} {K : PySem.W.Frag} (hK : X.K = K) {a : Addr} {oe : Obj} {cls : Value} {d : Option Addr} {pn : List (Addr × Obj)} (hz : Zc cls d oe) (hf : ∃ vs, oe.data = .fields vs) :
    CallR (X.suite a ((a, oe) :: pn)) (.builtin "isinstance") (rIsET K cls d a) := by
  subst hK
  rintro pins s σ H xs us Q I r ⟨D, e1, e2, C, tp, cs, ws, b, e3, hT, pr, hk, q⟩
  subst e1 e2 e3
  obtain ⟨u1, u2, e4, r1, r2⟩ := vals2 r
  subst e4
  cases r1
  cases (show u2 = Value.ref tp from r2)
  obtain ⟨here, _⟩ := I.pin (a, oe) (List.mem_append.mpr (.inl List.mem_cons_self))
  obtain ⟨vs, dat⟩ := hf
  have inst : PySem.W.InstAt s.heap a oe D none := by
    obtain ⟨oc, od, oda, osl⟩ := oe
    obtain ⟨z1, z2⟩ := hz
    dsimp only at z1 z2 dat
    subst z1 z2 dat
    exact ⟨here, rfl, rfl, trivial⟩
  obtain ⟨_, its, rv, o, g1, g2, n, g3⟩ := (show ObjOk X.prog X.w H s.heap tp (.tup cs) from I.hok tp _ hT)
  have e5 := ClsV.all pr rv
  subst e5
  obtain ⟨oc, od, dt, sl⟩ := o
  simp only at g2 g3
  subst g2 g3
  exact PySem.W.kia_tup (PySem.W.handS_kitx_exc C.hg C.hk C.hs C.hd C.ha C.hn C.ht C.hm) I.kIn inst g1 hk (fun z => nomatch z) fun tk => ⟨.bl b, H, I.kept (t' := tk) fun _ _ z => z, rfl, q⟩

/-- an own class: what isinstance and except say of it -/
structure ClsK (K : PySem.W.Frag) (C : Addr) : Prop where
  d : PySem.W.hasDictIn K C = true
  t : PySem.W.typeIn K (.ref C) = some (.type "type")
  b : PySem.W.subIn K (.ref C) (.type "BaseException") = some true
theorem kit_own {K : PySem.W.Frag} {C D : Addr} {b : Bool} (c : ClsK K C) (s : PySem.W.subIn K (.ref D) (.ref C) = some b) (self : PySem.W.subIn K (.ref D) (.ref D) = some true) : PySem.W.kitOne K (.ref D) (.ref C) = some b := by
  unfold PySem.W.kitOne
  by_cases e : ((Value.ref D : Value) == .ref C) = true
  · rw [if_pos e]
    have e2 : D = C := Value.ref.inj (beq_iff_eq.mp e)
    subst e2
    rw [self] at s
    exact s
  · rw [if_neg e]
    obtain ⟨cd, hc, _⟩ := PySem.W.any_some c.d
    have e2 : ((PySem.W.clsIn K C).isSome && PySem.W.typeIn K (.ref C) == some (.type "type")) = true := by rw [hc, c.t]; rfl
    show (if ((PySem.W.clsIn K C).isSome && PySem.W.typeIn K (.ref C) == some (.type "type")) = true then PySem.W.subIn K (.ref D) (.ref C) else none) = some b
    rw [if_pos e2]
    exact s
theorem kit_val {K : PySem.W.Frag} {D : Addr} (s : PySem.W.subIn K (.ref D) (.type "ValueError") = some true) : PySem.W.kitOne K (.ref D) (.type "ValueError") = some true := by
  unfold PySem.W.kitOne
  have e : ((Value.ref D : Value) == .type "ValueError") = false := by
    apply beq_eq_false_iff_ne.mpr
    intro z
    cases z
  rw [e, if_neg Bool.false_ne_true]
  show (if PySem.W.kitMeta "ValueError" = true then PySem.W.subIn K (.ref D) (.type "ValueError") else none) = some true
  rw [if_pos (by decide +kernel)]
  exact s
theorem exm_own {K : PySem.W.Frag} {C : Addr} {cls : Value} {b : Bool} (c : ClsK K C) (s : PySem.W.subIn K cls (.ref C) = some b) : PySem.W.exmOne K cls (.ref C) = some b := PySem.W.exm_ref c.b c.d c.t s
theorem any_no {K : PySem.W.Frag} {t c : Value} {r : List Value} {b : Bool} (h : PySem.W.kitOne K t c = some false) (h2 : PySem.W.kitAny K t r = some b) : PySem.W.kitAny K t (c :: r) = some b := by
  unfold PySem.W.kitAny
  rw [h]
  exact h2
end B2

namespace B2
open PySem L2

/-- a walk within a comprehension, a loop: what holds between the turns -/
theorem in_it {J : It} {n : Nat} {G : Hp → Prop} {Y : Nat → Hp → V → Hp → Prop} (w : Walk J n G Y) {H1 : Hp} {Qd : Hp → Prop} {Body : (Hp → Prop) → V → Hp → Prop} (Pv : Nat → Hp → Prop)
    (h0 : Pv 0 H1) (hG : ∀ i H, i ≤ n → Pv i H → G H) (hs : ∀ i x H H', i < n → Pv i H → Y i H x H' → Body (Pv (i + 1)) x H') (hd : ∀ H, Pv n H → Qd H) :
    ∃ W : Nat → Nat → Hp → Prop, (∃ m, W 0 m H1) ∧ ∀ j k H, W j k H → (J.stop j H ∧ Qd H) ∨ (J.go j H ∧ ∃ Nx : Hp → Prop, (∀ H', Nx H' → ∃ k', k' < k ∧ W (j + 1) k' H') ∧ ∀ x H', J.yld j H x H' → Body Nx x H') := by
  refine ⟨fun j k H => k = n - j ∧ j ≤ n ∧ Pv j H, ⟨n, rfl, Nat.zero_le _, h0⟩, ?_⟩
  rintro j k H ⟨rfl, hj, p⟩
  have g := hG j H hj p
  by_cases c : j < n
  · refine .inr ⟨w.goes j H c g, Pv (j + 1), fun H' p' => ⟨n - (j + 1), by omega, rfl, c, p'⟩, fun x H' y => ?_⟩
    exact hs j x H H' c p (w.yields j H x H' c g y)
  · have e : j = n := by omega
    subst e
    exact .inl ⟨w.stops H g, hd H p⟩

/-! ### Mates -/
def mt (ms : List (Option Int)) (i : Int) : Option Int := ms.getD i.toNat none

structure OkMates (ws : List (List Int)) (ms : List (Option Int)) : Prop where
  len : ms.length = ws.length
  pr : ∀ i m : Int, 0 ≤ i → i < (ws.length : Int) → mt ms i = some m → 0 ≤ m ∧ m < (ws.length : Int) ∧ mt ms m = some i ∧ suitsB ws i m = true

theorem mt_get {ms : List (Option Int)} {i : Int} (h0 : 0 ≤ i) (h1 : i < (ms.length : Int)) : ms[i.toNat]? = some (mt ms i) := by
  have h : i.toNat < ms.length := by omega
  unfold mt
  rw [List.getD_eq_getElem?_getD, List.getElem?_eq_getElem h]
  rfl

theorem mt_at {ms : List (Option Int)} {i : Int} (h0 : 0 ≤ i) (h1 : i < (ms.length : Int)) : atI (ms.map ov) i = some (ov (mt ms i)) := by
  have e : i = ((i.toNat : Nat) : Int) := by omega
  have h : atI (ms.map ov) ((i.toNat : Nat) : Int) = some (ov (mt ms i)) := atI_nat (by rw [List.getElem?_map, mt_get h0 h1]; rfl)
  rw [← e] at h
  exact h

theorem OkMates.oko {ws : List (List Int)} {ms : List (Option Int)} (o : OkMates ws ms) {i : Int} (h0 : 0 ≤ i) (h1 : i < (ws.length : Int)) : OkO ws.length (mt ms i) := by
  cases e : mt ms i with
  | none => trivial
  | some m =>
    have := o.pr i m h0 h1 e
    exact ⟨this.1, this.2.1⟩

def tupO (p : Int × Int) : HO := .tup [.int p.1, .int p.2]

/-- the two are restless -/
def wild (ws : List (List Int)) (ms : List (Option Int)) (i j : Int) : Bool := aheadB ws i (some j) (mt ms i) && aheadB ws j (some i) (mt ms j)
/-- the restless pairs of i and the t guests behind it -/
def wildIn (ws : List (List Int)) (ms : List (Option Int)) (i : Nat) : Nat → List (Int × Int)
  | 0 => []
  | t + 1 => wildIn ws ms i t ++ (if wild ws ms (i : Int) ((i : Int) + 1 + (t : Int)) = true then [((i : Int), (i : Int) + 1 + (t : Int))] else [])
/-- the restless pairs of the first k guests, of n -/
def wildUp (ws : List (List Int)) (ms : List (Option Int)) (n : Nat) : Nat → List (Int × Int)
  | 0 => []
  | k + 1 => wildUp ws ms n k ++ wildIn ws ms k (n - (k + 1))
def wildAll (ws : List (List Int)) (ms : List (Option Int)) : List (Int × Int) := wildUp ws ms ws.length ws.length

theorem wildIn_le (ws : List (List Int)) (ms : List (Option Int)) (i : Nat) : ∀ t, (wildIn ws ms i t).length ≤ t
  | 0 => Nat.le_refl _
  | t + 1 => by
    have := wildIn_le ws ms i t
    unfold wildIn
    rw [List.length_append]
    split
    · rw [List.length_singleton]; omega
    · rw [List.length_nil]; omega
theorem wildUp_le (ws : List (List Int)) (ms : List (Option Int)) (n : Nat) : ∀ k, (wildUp ws ms n k).length ≤ k * n
  | 0 => Nat.zero_le _
  | k + 1 => by
    have h1 := wildUp_le ws ms n k
    have h2 := wildIn_le ws ms k (n - (k + 1))
    unfold wildUp
    rw [List.length_append, Nat.succ_mul]
    omega

theorem flat_ovs (ms : List (Option Int)) : ∀ v ∈ ms.map ov, plainV v = true := by
  intro v hv
  obtain ⟨i, _, rfl⟩ := List.mem_map.mp hv
  cases i <;> rfl

/-! ### Pairs as data -/
def dP (p : Int × Int) : PyData := .tuple [.int p.1, .int p.2]
def dPs (ps : List (Int × Int)) : PyData := .list (ps.map dP)
theorem dP_lay (p : Int × Int) : (dP p).canLay0 = true ∧ (dP p).depth ≤ 2 := by
  simp [dP, PyData.canLay0, PyData.canLayAll0, PyData.depth, PyData.depthAll]
theorem dPs_lay (ps : List (Int × Int)) : (dPs ps).canLay0 = true ∧ (dPs ps).depth ≤ 3 := by
  have h1 := canLayAll_of (ps.map dP) (fun d hd => by
    obtain ⟨v, _, rfl⟩ := List.mem_map.mp hd
    exact (dP_lay v).1)
  have h2 := depthAll_of 2 (ps.map dP) (fun d hd => by
    obtain ⟨v, _, rfl⟩ := List.mem_map.mp hd
    exact (dP_lay v).2)
  unfold dPs
  simp only [PyData.canLay0, PyData.depth]
  exact ⟨h1, by omega⟩
theorem dPs_shaped (ps : List (Int × Int)) : SeqAt.shaped (dPs ps) = true := shaped_of (dPs_lay ps).1 (Nat.le_trans (dPs_lay ps).2 (by decide))
theorem dPs_refl (ps : List (Int × Int)) : (dPs ps).eqv (dPs ps) = true := SeqAt.eqv_refl _ (dPs_lay ps).1
theorem dPs_nil (ps : List (Int × Int)) : (dPs ps).eqv (dPs []) = ps.isEmpty := by
  cases ps <;> simp [dPs, PyData.eqv, PyData.eqvAll]

/-- at a a list of pairs -/
def PrsAt (H : Hp) (a : Addr) (ps : List (Int × Int)) : Prop :=
  ∃ as : List Addr, H a = some (.lst (as.map V.ref)) ∧ as.length = ps.length ∧ ∀ (i : Nat) (p : Int × Int), ps[i]? = some p → ∃ b, as[i]? = some b ∧ H b = some (tupO p)
theorem PrsAt.same {H H' : Hp} {a : Addr} {ps : List (Int × Int)} (e : Same H H') (t : PrsAt H a ps) : PrsAt H' a ps := by
  obtain ⟨as, h1, h2, h3⟩ := t
  refine ⟨as, e _ _ h1, h2, fun i r hr => ?_⟩
  obtain ⟨b, hb, hs⟩ := h3 i r hr
  exact ⟨b, hb, e _ _ hs⟩
theorem BuiltF.prs {H H' : Hp} {D : Addr} {ps : List (Int × Int)} (b : BuiltF tupO H D ps H') : PrsAt H' D ps := by
  obtain ⟨s, as, h1, h2, h3⟩ := b
  refine ⟨as, h1, h2, fun i r hr => ?_⟩
  obtain ⟨b, b1, b2, _⟩ := h3 i r hr
  exact ⟨b, b1, b2⟩
theorem dpAll_prs {K : PySem.W.Frag} {H : Hp} : ∀ (as : List Addr) (ps : List (Int × Int)), as.length = ps.length →
    (∀ (i : Nat) (p : Int × Int), ps[i]? = some p → ∃ b, as[i]? = some b ∧ H b = some (tupO p)) → DpAll K H (as.map V.ref) (ps.map dP)
  | [], [], _, _ => .nil
  | [], _ :: _, h, _ => by cases h
  | _ :: _, [], h, _ => by cases h
  | a :: as, r :: ps, h, g => by
    obtain ⟨b, hb, hs⟩ := g 0 r rfl
    cases hb
    exact .cons (.tup (SqT.of hs) (.cons (.int _) (.cons (.int _) .nil))) (dpAll_prs as ps (Nat.succ.inj h) fun i q hq => g (i + 1) q hq)
theorem PrsAt.dp {K : PySem.W.Frag} {H : Hp} {a : Addr} {ps : List (Int × Int)} (t : PrsAt H a ps) : Dp K H (.ref a) (dPs ps) := by
  obtain ⟨as, h1, h2, h3⟩ := t
  exact .lst (SqL.of h1) (dpAll_prs as ps h2 h3)
end B2

namespace B2
open PySem L2

/-! ### All mates -/
def joinL (ms : List (Option Int)) (g o : Int) : List (Option Int) := (ms.set g.toNat (some o)).set o.toNat (some g)
def joinsL (ws : List (List Int)) (ms : List (Option Int)) (g : Nat) : Nat → List (List (Option Int))
  | 0 => []
  | t + 1 => joinsL ws ms g t ++ (if (mt ms ((g : Int) + 1 + (t : Int)) = none ∧ suitsB ws (g : Int) ((g : Int) + 1 + (t : Int)) = true) then [joinL ms (g : Int) ((g : Int) + 1 + (t : Int))] else [])
/-- what may come of these mates by what guest g does, behind that it stays as it is -/
def moreL (ws : List (List Int)) (ms : List (Option Int)) (g : Nat) : List (List (Option Int)) := if mt ms (g : Int) = none then joinsL ws ms g (ws.length - (g + 1)) else []
def settledL (ws : List (List Int)) (ms : List (Option Int)) (g : Nat) : List (List (Option Int)) := ms :: moreL ws ms g
def stageL (ws : List (List Int)) : Nat → List (List (Option Int))
  | 0 => [List.replicate ws.length none]
  | g + 1 => (stageL ws g).flatMap fun ms => settledL ws ms g
def allTwos (ws : List (List Int)) : List (List (Option Int)) := stageL ws ws.length
def allCalm (ws : List (List Int)) : List (List (Option Int)) := (allTwos ws).filter fun ms => (wildAll ws ms).isEmpty

theorem mt_none (n : Nat) (i : Int) : mt (List.replicate n none) i = none := by
  unfold mt
  rw [List.getD_eq_getElem?_getD, List.getElem?_replicate]
  split <;> rfl
theorem mt_set {ms : List (Option Int)} {k : Nat} {v : Option Int} {i : Int} (hk : k < ms.length) : mt (ms.set k v) i = if i.toNat = k then v else mt ms i := by
  unfold mt
  rw [List.getD_eq_getElem?_getD, List.getD_eq_getElem?_getD, List.getElem?_set]
  by_cases c : k = i.toNat
  · rw [if_pos c, if_pos c.symm, if_pos hk]; rfl
  · rw [if_neg c, if_neg (fun z => c z.symm)]

theorem OkMates.put {ws : List (List Int)} {ms : List (Option Int)} (o : OkMates ws ms) {g m : Int} (g0 : 0 ≤ g) (g1 : g < (ws.length : Int)) (m0 : 0 ≤ m) (m1 : m < (ws.length : Int)) (ne : m ≠ g)
    (hg : mt ms g = none) (hm : mt ms m = none) (hs : suitsB ws g m = true) : OkMates ws ((ms.set g.toNat (some m)).set m.toNat (some g)) := by
  have hl := o.len
  refine ⟨by rw [List.length_set, List.length_set]; exact hl, fun i k i0 i1 h => ?_⟩
  have h1 : m.toNat < (ms.set g.toNat (some m)).length := by rw [List.length_set]; omega
  have h2 : g.toNat < ms.length := by omega
  rw [mt_set h1, mt_set h2] at h
  by_cases c1 : i.toNat = m.toNat
  · rw [if_pos c1] at h
    cases h
    have e : i = m := by omega
    subst e
    refine ⟨g0, g1, ?_, by rw [suitsB_comm]; exact hs⟩
    rw [mt_set h1, mt_set h2, if_neg (by omega), if_pos rfl]
  · rw [if_neg c1] at h
    by_cases c2 : i.toNat = g.toNat
    · rw [if_pos c2] at h
      cases h
      have e : i = g := by omega
      subst e
      refine ⟨m0, m1, ?_, hs⟩
      rw [mt_set h1, if_pos rfl]
    · rw [if_neg c2] at h
      obtain ⟨p0, p1, p2, p3⟩ := o.pr i k i0 i1 h
      refine ⟨p0, p1, ?_, p3⟩
      have n1 : ¬ k.toNat = m.toNat := fun z => by
        have e : k = m := by omega
        rw [e, hm] at p2
        cases p2
      have n2 : ¬ k.toNat = g.toNat := fun z => by
        have e : k = g := by omega
        rw [e, hg] at p2
        cases p2
      rw [mt_set h1, mt_set h2, if_neg n1, if_neg n2]
      exact p2

theorem ixN_of {n : Nat} {i : Int} (h0 : 0 ≤ i) (h1 : i < (n : Int)) : ixN n i = some i.toNat := by
  unfold ixN
  rw [if_pos h0, if_pos h1]
theorem flat_nones : ∀ n : Nat, (List.replicate n [V.non]).flatten = (List.replicate n (none : Option Int)).map ov
  | 0 => rfl
  | n + 1 => by
    rw [List.replicate_succ, List.flatten_cons, flat_nones n, List.replicate_succ]
    rfl

theorem joins_ok {ws : List (List Int)} {ms : List (Option Int)} (o : OkMates ws ms) {g : Nat} (hn : mt ms (g : Int) = none) (hg : g < ws.length) : ∀ t, g + 1 + t ≤ ws.length → ∀ m ∈ joinsL ws ms g t, OkMates ws m
  | 0, _, m, h => by cases h
  | t + 1, ht, m, h => by
    unfold joinsL at h
    rcases List.mem_append.mp h with h | h
    · exact joins_ok o hn hg t (by omega) m h
    · split at h
      · rename_i c
        rw [List.mem_singleton] at h
        rw [h]
        exact o.put (by omega) (by omega) (by omega) (by omega) (by omega) hn c.1 c.2
      · cases h
theorem joins_le (ws : List (List Int)) (ms : List (Option Int)) (g : Nat) : ∀ t, (joinsL ws ms g t).length ≤ t
  | 0 => Nat.le_refl _
  | t + 1 => by
    have := joins_le ws ms g t
    unfold joinsL
    rw [List.length_append]
    split
    · rw [List.length_singleton]; omega
    · rw [List.length_nil]; omega
theorem settled_ok {ws : List (List Int)} {ms : List (Option Int)} (o : OkMates ws ms) {g : Nat} (hg : g < ws.length) : ∀ m ∈ settledL ws ms g, OkMates ws m := by
  intro m h
  unfold settledL at h
  rcases List.mem_cons.mp h with h | h
  · rw [h]; exact o
  · unfold moreL at h
    split at h
    · rename_i c
      exact joins_ok o c hg _ (by omega) m h
    · cases h
theorem settled_le {ws : List (List Int)} {ms : List (Option Int)} {g : Nat} (hg : g < ws.length) : (settledL ws ms g).length ≤ ws.length := by
  unfold settledL moreL
  rw [List.length_cons]
  split
  · have := joins_le ws ms g (ws.length - (g + 1)); omega
  · rw [List.length_nil]; omega
theorem stage_ok (ws : List (List Int)) : ∀ g, g ≤ ws.length → ∀ m ∈ stageL ws g, OkMates ws m
  | 0, _, m, h => by
    unfold stageL at h
    rw [List.mem_singleton] at h
    rw [h]
    exact ⟨List.length_replicate, fun i k _ _ h => by rw [mt_none] at h; cases h⟩
  | g + 1, hg, m, h => by
    unfold stageL at h
    obtain ⟨a, ha, hm⟩ := List.mem_flatMap.mp h
    exact settled_ok (stage_ok ws g (by omega) a ha) (by omega) m hm
theorem flatMap_le {α β : Type} (f : α → List β) (k : Nat) : ∀ l : List α, (∀ a ∈ l, (f a).length ≤ k) → (l.flatMap f).length ≤ l.length * k
  | [], _ => Nat.zero_le _
  | a :: l, h => by
    have h1 := h a (List.mem_cons_self ..)
    have h2 := flatMap_le f k l fun b hb => h b (List.mem_cons_of_mem _ hb)
    rw [List.flatMap_cons, List.length_append, List.length_cons, Nat.succ_mul]
    omega
theorem stage_le (ws : List (List Int)) (h6 : ws.length ≤ 6) : ∀ g, g ≤ ws.length → (stageL ws g).length ≤ 6 ^ g
  | 0, _ => Nat.le_refl _
  | g + 1, hg => by
    have h1 := stage_le ws h6 g (by omega)
    have h2 := flatMap_le (fun ms => settledL ws ms g) 6 (stageL ws g) fun a _ => Nat.le_trans (settled_le (by omega)) h6
    unfold stageL
    rw [Nat.pow_succ]
    exact Nat.le_trans h2 (Nat.mul_le_mul_right 6 h1)
theorem stage_small (ws : List (List Int)) (h6 : ws.length ≤ 6) (g : Nat) (hg : g ≤ ws.length) : (stageL ws g).length ≤ 46656 :=
  Nat.le_trans (stage_le ws h6 g hg) (Nat.le_trans (Nat.pow_le_pow_right (by decide) (Nat.le_trans hg h6)) (by decide))

/-- mates as an object -/
def fm (ms : List (Option Int)) : HO := .lst (ms.map ov)

theorem built_put {α : Type} {f : α → HO} {H H1 : Hp} {D b : Addr} {vss : List α} {r : α} (hD : H D = none) (B : BuiltF f H D vss H1) (hb : H1 b = some (f r)) (nb : b ≠ D) (h0 : H b = none) :
    ∃ acc, H1 D = some (.lst acc) ∧ acc.length = vss.length ∧ BuiltF f H D (vss ++ [r]) (upd H1 D (.lst (acc ++ [.ref b]))) := by
  obtain ⟨s, as, h1, h2, h3⟩ := B
  refine ⟨_, h1, by rw [List.length_map]; exact h2, same_put s hD _, as ++ [b], ?_, ?_, fun i q hq => ?_⟩
  · rw [upd_same, List.map_append]
    rfl
  · rw [List.length_append, List.length_append, h2]
    rfl
  · rw [List.getElem?_append] at hq
    rw [List.getElem?_append]
    by_cases c : i < vss.length
    · rw [if_pos c] at hq
      rw [if_pos (by rw [h2]; exact c)]
      obtain ⟨b, b1, b2, b3, b4⟩ := h3 i q hq
      exact ⟨b, b1, by rw [upd_ne b3]; exact b2, b3, b4⟩
    · rw [if_neg c] at hq
      rw [if_neg (by rw [h2]; exact c)]
      have i0 : i - vss.length = 0 := by
        have := (List.getElem?_eq_some_iff.mp hq).1
        simp at this
        omega
      rw [i0] at hq
      cases hq
      rw [h2, i0]
      exact ⟨b, rfl, by rw [upd_ne nb]; exact hb, nb, h0⟩

theorem BuiltF.back {α : Type} {f : α → HO} {H0 H H1 : Hp} {D : Addr} {vss : List α} (s : Same H0 H) (B : BuiltF f H D vss H1) : BuiltF f H0 D vss H1 := by
  obtain ⟨e, as, h1, h2, h3⟩ := B
  refine ⟨s.trans e, as, h1, h2, fun i r hr => ?_⟩
  obtain ⟨b, b1, b2, b3, b4⟩ := h3 i r hr
  exact ⟨b, b1, b2, b3, s.free b4⟩

theorem big_line {n : Nat} (h : n ≤ 1000000) : n < sizeLine := by
  unfold sizeLine
  omega
theorem pi_lst {X : Cx} {K : PySem.W.Frag} (h : X.K = K) {tg l : Expr} {tl : TE} (e : PE X l tl) : PI X tg l (iList K tl) := by
  subst h
  exact pi_list e
theorem eq_dat {X : Cx} {K : PySem.W.Frag} (h : X.K = K) (hu : X.A.units + 64 < cLine) : OpR X (compareOp .Eq) (rEqD K) := by
  subst h
  exact op_eqD hu
end B2

namespace B2
open PySem L2

/-! ### Tuples whose one object is known to have no dict: so t.index can be asked of them -/
def TupF (H : Hp) (p : Addr) (xs : List V) : Prop := ∃ ob : Obj, H p = some (.frz ob (.tup xs)) ∧ ob.cls = .type "tuple" ∧ ob.dict = none
/-- a list, or such a tuple -/
def SqA (K : PySem.W.Frag) (H : Hp) (p : Addr) (xs : List V) : Prop := SqL K H p xs ∨ TupF H p xs
theorem TupF.t {K : PySem.W.Frag} {H : Hp} {p : Addr} {xs : List V} (h : TupF H p xs) : SqT K H p xs := by
  obtain ⟨ob, h, _⟩ := h
  exact .inl (.inr ⟨ob, h⟩)
theorem SqA.s {K : PySem.W.Frag} {H : Hp} {p : Addr} {xs : List V} (h : SqA K H p xs) : SqL K H p xs ∨ SqT K H p xs := h.imp id TupF.t
theorem SqA.same {K : PySem.W.Frag} {H H' : Hp} {p : Addr} {xs : List V} (e : Same H H') (h : SqA K H p xs) : SqA K H' p xs := by
  rcases h with h | ⟨ob, h, c, d⟩
  · exact .inl (e.seq h)
  · exact .inr ⟨ob, e _ _ h, c, d⟩
def rIxA (K : PySem.W.Frag) : R2 := fun x y H Q => ∃ (p : Addr) (xs : List V) (i : Int) (v : V), x = .ref p ∧ y = .int i ∧ SqA K H p xs ∧ atI xs i = some v ∧ Q v H
theorem ix_any {X : Cx} {K : PySem.W.Frag} (h : X.K = K) : IxR X (rIxA K) := by
  subst h
  intro value slice pins s σ H x y v u Q I rx ry q hs
  refine (ix_list.or ix_tup) value slice pins s σ H x y v u Q I rx ry ?_ hs
  obtain ⟨p, xs, i, z, h1, h2, h3, h4, h5⟩ := q
  rcases h3.s with h3 | h3
  · exact .inl ⟨p, xs, i, z, h1, h2, h3, h4, h5⟩
  · exact .inr ⟨p, xs, i, z, h1, h2, h3, h4, h5⟩

/-- a method of such a tuple -/
def tBMT (r : V → List V → Hp → VK → Prop) (to : TE) (ta : TA) : TE := fun σ H Q => to σ H fun x H1 => (∃ p xs, x = .ref p ∧ TupF H1 p xs) ∧ ta σ H1 fun vs H2 => r x vs H2 Q
theorem pe_bmT {X : Cx} {o e : Expr} {es : List Expr} {to : TE} {ta : TA} {nm : Str} {ap cp : Pos} {id : String} {r : V → List V → Hp → VK → Prop}
    (slot : Slot "tuple" nm id) (hty : typeOf (.builtin id) = pure (.type "method_descriptor")) (hm : MtR X id r) (ho : PE X o to) (ha : PA X (e :: es) ta)
    (hb : attributeBase o nm X.env (eval o X.env) = eval o X.env := by rfl)
    (hf : ((backTo cp (starEach (e :: es) X.env)).all (fun x => !x.1) && (backToKw cp (keywordEach [] X.env)).all (fun x => x.1.isSome) &&
      decide ((e :: es).length + ([] : List Keyword).length + (if ([] : List Keyword).isEmpty then 0 else 1) < 30)) = true := by rfl)
    (hl : (ap.endLine == cp.line) = true := by rfl) (hs : starEach (e :: es) X.env = (false, eval e X.env) :: starEach es X.env := by rfl)
    (hp : (backTo cp (starEach es X.env)).any (·.1) = false := by rfl) : PE X (.Call (.Attribute o nm ap) (e :: es) [] cp) (tBMT r to ta) := by
  constructor
  intro pins s σ H Q I h
  refine wpAny_Call_method_late hb hf hl rfl (thn (ho.run pins s σ H _ I h) ?_)
  rintro v s1 ⟨x, H1, I1, r1, ⟨p, xs, rfl, ob, hob, hc, hd⟩, q1⟩
  cases r1
  have at1 : s1.heap.get? p = some ob := (show ObjOk X.prog X.w H1 s1.heap p (.frz ob (.tup xs)) from I1.hok p _ hob).1
  refine ⟨"tuple", id, PySem.F.plainAttrs_tuple, slot, hty, ⟨ob, at1, hc⟩, fun a ea => ?_, ?_⟩
  · cases ea
    exact ⟨ob, at1, hd⟩
  have hA := ha.run cp pins s1 σ H1 _ I1 q1
  rw [hs] at hA
  rw [hs]
  refine Calls.callWith_builtin (by show (false || (backTo cp (starEach es X.env)).any (·.1)) = false; rw [hp]; rfl) (Calls.evalArgs_plain ?_)
  exact thn hA fun us s2 ⟨vs, H2, I2, r2, q2⟩ => hm pins s2 σ H2 (.ref p) vs (.ref p) us Q I2 rfl r2 q2
/-- a method of a builtin within a comprehension -/
theorem pe_bmK {X : Cx} {K : PySem.W.Frag} {o e : Expr} {es : List Expr} {to : TE} {ta : TA} {nm : Str} {ap cp : Pos} {T id : String} {r : V → List V → Hp → VK → Prop} (hK : X.K = K)
    (pa : PlainAttrs T) (slot : Slot T nm id) (hty : typeOf (.builtin id) = pure (.type "method_descriptor")) (hm : MtR X id r) (ho : PE X o to) (ha : PA X (e :: es) ta)
    (hb : attributeBase o nm X.env (eval o X.env) = eval o X.env := by rfl)
    (hf : ((backTo cp (starEach (e :: es) X.env)).all (fun x => !x.1) && (backToKw cp (keywordEach [] X.env)).all (fun x => x.1.isSome) &&
      decide ((e :: es).length + ([] : List Keyword).length + (if ([] : List Keyword).isEmpty then 0 else 1) < 30)) = true := by rfl)
    (hl : (ap.endLine == cp.line) = true := by rfl) (hs : starEach (e :: es) X.env = (false, eval e X.env) :: starEach es X.env := by rfl)
    (hp : (backTo cp (starEach es X.env)).any (·.1) = false := by rfl) : PE X (.Call (.Attribute o nm ap) (e :: es) [] cp) (tBM K T r to ta) := by
  subst hK
  exact pe_bm pa slot hty hm ho ha hb hf hl hs hp
/-- t.index(x) among ints -/
def rTupIx (K : PySem.W.Frag) : V → List V → Hp → VK → Prop := fun x ys H Q => ∃ (p : Addr) (ns : List Int) (z : Int), x = .ref p ∧ ys = [.int z] ∧ SqT K H p (ns.map V.int) ∧ z ∈ ns ∧ Q (.int (ns.idxOf z : Nat)) H
theorem mi_tup {X : Cx} {K : PySem.W.Frag} (h : X.K = K) : MtR X "tuple.index" (rTupIx K) := by
  subst h
  rintro pins s σ H x ys v us Q I rx rs ⟨p, ns, z, rfl, rfl, hq, hz, q⟩
  cases rx
  obtain ⟨u, rfl, t, rfl⟩ := vals1 rs
  obtain ⟨its, r, pl, _⟩ := I.tuple hq
  exact PySem.SeqAt.tuple_index_ints pl (Vals.ints r) hz ⟨.int _, H, I.tok _, ⟨_, rfl⟩, q⟩
end B2

namespace B2
open PySem PySem.Spec
/-! ### itertools.permutations, of at most six things -/
theorem pm_mro : mroOf (.type "itertools.permutations") = pure [.type "itertools.permutations", .type "object"] := by
  rw [mroOf_type]
  kernel_rfl
theorem pm_lookup_new : typeLookup (.type "itertools.permutations") "__new__" = pure (some (.builtin "itertools.permutations.__new__")) := by
  rw [typeLookup_type, builtinLookup_eq_fast]
  kernel_rfl
theorem pm_sub : isSubtype (.type "itertools.permutations") (.type "itertools.permutations") = pure true := by
  rw [isSubtype_type]
  kernel_rfl
theorem pm_init : Slot "itertools.permutations" "__init__" "object.__init__" := .of (owner := "object") (n := "__init__") (by rw [typeLookup_type, builtinLookup_eq_fast]; kernel_rfl)
  (by decide +kernel) (by decide +kernel) (by decide +kernel) (.inl (by decide +kernel)) (by rw [isSubtype_type]; kernel_rfl)
theorem pm_called : TypeCalled "itertools.permutations" "itertools.permutations.__new__" "object.__init__" :=
  ⟨by decide +kernel, by decide +kernel, ⟨_, _, pm_mro⟩, madeBy_type pm_mro pm_lookup_new (by decide +kernel), by decide +kernel, pm_sub, pm_init⟩
theorem pm_typeCall (a : Value) : checkTypeCall "itertools.permutations" ⟨[a], []⟩ = pure () := by kernel_rfl
theorem pm_newCall (a : Value) : checkBuiltinCall "itertools.permutations.__new__" ⟨[.type "itertools.permutations", a], []⟩ = pure () := by kernel_rfl
theorem pm_entry_new : entryFor table "itertools.permutations.__new__" = some Builtin.«itertools.permutations.__new__» := entryFor_of_tree (by kernel_rfl)
theorem pm_slot_iter : Slot "itertools.permutations" "__iter__" "itertools.permutations.__iter__" := .of (owner := "itertools.permutations") (n := "__iter__") (by rw [typeLookup_type, builtinLookup_eq_fast]; kernel_rfl)
  (by decide +kernel) (by decide +kernel) (by decide +kernel) (.inl (by decide +kernel)) pm_sub
theorem pm_slot_next : Slot "itertools.permutations" "__next__" "itertools.permutations.__next__" := .of (owner := "itertools.permutations") (n := "__next__") (by rw [typeLookup_type, builtinLookup_eq_fast]; kernel_rfl)
  (by decide +kernel) (by decide +kernel) (by decide +kernel) (.inl (by decide +kernel)) pm_sub
theorem pm_entry_iter : entryFor table "itertools.permutations.__iter__" = some Builtin.«dict_keyiterator.__iter__» :=
  entryFor_alias (id' := "dict_keyiterator.__iter__") (by kernel_rfl) (by first | rfl | decide +kernel) (by decide +kernel) (by kernel_rfl)
theorem pm_entry_next : entryFor table "itertools.permutations.__next__" = some Builtin.«itertools.permutations.__next__» := entryFor_of_tree (by kernel_rfl)
theorem pm_owner : Manifest.owners.lookup (String.ofList ['s', 'n', 'o', 'i', 't', 'a', 't', 'u', 'm', 'r', 'e', 'p', '.', 's', 'l', 'o', 'o', 't', 'r', 'e', 't', 'i'].reverse) = some Manifest.sig_itertools_permutations := by kernel_rfl
theorem pm_args_iter (a : Value) : argsOk "itertools.permutations.__iter__" ⟨[a], []⟩ := by
  unfold argsOk
  rw [signature?_of (id := "itertools.permutations.__iter__") (n := ['_', '_', 'r', 'e', 't', 'i', '_', '_']) (o := ['s', 'n', 'o', 'i', 't', 'a', 't', 'u', 'm', 'r', 'e', 'p', '.', 's', 'l', 'o', 'o', 't', 'r', 'e', 't', 'i']) (by kernel_rfl) pm_owner]
  kernel_rfl
theorem pm_args_next (a : Value) : argsOk "itertools.permutations.__next__" ⟨[a], []⟩ := by
  unfold argsOk
  rw [signature?_of (id := "itertools.permutations.__next__") (n := ['_', '_', 't', 'x', 'e', 'n', '_', '_']) (o := ['s', 'n', 'o', 'i', 't', 'a', 't', 'u', 'm', 'r', 'e', 'p', '.', 's', 'l', 'o', 'o', 't', 'r', 'e', 't', 'i']) (by kernel_rfl) pm_owner]
  kernel_rfl
theorem pm_noDict : typeHasDict (.type "itertools.permutations") = false := by decide +kernel
end B2
namespace B2
open PySem PySem.Spec
theorem pm_plain_new : plainId "itertools.permutations.__new__" = true := by decide +kernel
/-- a permutations object: its pool, how far it is (0 fresh, 1 going, 2 ended), of how many, what was told last, the places, the cycles -/
def pmFields (pool : Addr) (k : Int) (n : Nat) (last : Value) (ix cy : List Nat) : Array Value :=
  (Value.ref pool :: rawInt k :: rawInt (n : Int) :: last :: (ix.map (fun (i : Nat) => rawInt (i : Int)) ++ cy.map (fun (i : Nat) => rawInt (i : Int)))).toArray
abbrev IsPm (h : Heap) (it pool : Addr) (k : Int) (n : Nat) (last : Value) (ix cy : List Nat) : Prop :=
  h.get? it = some { cls := .type "itertools.permutations", dict := none, data := .fields (pmFields pool k n last ix cy), slots := #[] }
/-- the cycles at the start -/
def pmStart (n : Nat) : List Nat := (List.range n).map fun i => n - i
theorem pm_start_fields (pool : Addr) {n : Nat} (h6 : n ≤ 6) :
    ([Value.ref pool, rawInt (if ((n : Int)).toNat > n then 2 else 0), rawInt (((n : Int)).toNat : Int), Value.none] ++ (List.range n).map (fun (i : Nat) => rawInt (i : Int)) ++ (List.range ((n : Int)).toNat).map (fun (i : Nat) => rawInt ((n : Int) - (i : Int)))).toArray =
      pmFields pool 0 n .none (List.range n) (pmStart n) := by
  have : n = 0 ∨ n = 1 ∨ n = 2 ∨ n = 3 ∨ n = 4 ∨ n = 5 ∨ n = 6 := by omega
  rcases this with h | h | h | h | h | h | h <;> (subst h; rfl)
section
variable {prog : Program} {w : World} {A : Around} {E : Value → Shared → Prop} {s : Shared} {r : Addr} {t u v : Tok} {n : Nat}
theorem pm_class {x : Value} {Q : Value × List Value → Shared → Prop} (h : Q (.type "itertools.permutations", [x]) s) :
    wpAny (model prog w) A (Builtin.Itertools.itClassAndRest "permutations" ⟨[.type "itertools.permutations", x], []⟩) Q E s := by
  have hsub := pm_sub
  have en : ("itertools." ++ "permutations" : String) = "itertools.permutations" := by decide +kernel
  unfold Builtin.Itertools.itClassAndRest
  rw [en]
  repeat wp_step
  all_goals exact h
theorem pm_bind {x : Value} {Q : List (Option Value) → Shared → Prop} (h : Q [some x, none] s) :
    wpAny (model prog w) A (Builtin.Itertools.itBindNamed "permutations" ["iterable", "r"] 1 2 [x] []) Q E s := by
  unfold Builtin.Itertools.itBindNamed
  repeat (first | wp_step | simp only [List.length_cons, List.length_nil, List.forIn_nil, List.zipIdx_cons, List.zipIdx_nil, List.forIn_cons])
  all_goals exact h
theorem pm_record {fs : List Value} {Q : Value → Shared → Prop} (hs : fs.length ≤ 100)
    (h : Q (.ref s.heap.objs.size) { s with heap := s.heap.push { cls := .type "itertools.permutations", data := .fields fs.toArray } }) : wpAny (model prog w) A (Builtin.Itertools.itNewRecord (.type "itertools.permutations") fs) Q E s := by
  have hd := pm_noDict
  unfold Builtin.Itertools.itNewRecord
  rw [hd]
  show wpAny _ _ (newObj (.type "itertools.permutations") (.fields fs.toArray)) _ _ s
  exact wpAny_newObj_type h (by first | size_fits | (show fs.toArray.size ≤ _; simp; omega))
theorem pm_code_new {Q₁ : Value → Shared → Prop} (hh : A.handled = none) (hr : IsRange s.heap r 0 (n : Int) 1 t u v) (h6 : n ≤ 6)
    (h : ∀ (h' : Heap) (tk : Nat) (acc : Array Value), (∀ b o, s.heap.get? b = some o → h'.get? b = some o) → ItemsOf (fun i v => ∃ t, v = .int (0 + i * 1) t) acc n →
      Q₁ (.ref (h'.objs.size + 1)) { s with heap := (h'.push { cls := .type "tuple", data := .seq acc }).push { cls := .type "itertools.permutations", data := .fields (pmFields h'.objs.size 0 n .none (List.range n) (pmStart n)) }, toks := tk }) :
    codeAny (model prog w) A (.call (.builtin "itertools.permutations.__new__") ⟨[.type "itertools.permutations", .ref r], []⟩) (wants Q₁ E) s := by
  refine codeAny_of_tree ?_
  show wpAny _ A.in1 (do checkBuiltinCall "itertools.permutations.__new__" ⟨[.type "itertools.permutations", .ref r], []⟩; again (.builtin "itertools.permutations.__new__" ⟨[.type "itertools.permutations", .ref r], []⟩)) _ _ s
  refine wpAny_bind (wpAny_of_eq (pm_newCall _) (wpAny_pure ⟨plainId_quiet pm_plain_new _, codeAny_builtin pm_entry_new ?_⟩))
  rw [Around.under_plainId pm_plain_new _]
  have hh1 : A.in1.handled = none := hh
  unfold Builtin.«itertools.permutations.__new__»
  refine wpAny_bind (pm_class ?_)
  refine wpAny_bind (pm_bind ?_)
  refine wpAny_bind (L2.collect_range hh1 hr (PySem.small_one (by omega) (by omega) (by omega) (by omega)) (by have := PyProof.Rows.rangeSize_nat 0 (n : Int); rw [this]; omega) (n := n) (by omega) fun h' tk acc hk hi => ?_)
  have hl : acc.toList.length = n := by rw [Array.length_toList]; exact hi.1
  have ht : acc.toList.toArray = acc := by simp
  show wpAny _ _ ((pure (acc.toList.length : Int)) >>= _) _ _ _
  refine wpAny_bind (wpAny_pure ?_)
  rw [hl]
  show wpAny _ _ (if ((n : Int) < 0) then _ else _) _ _ _
  rw [if_neg (by omega)]
  show wpAny _ _ (if Builtin.Itertools.itTooMany (n : Int) = true then _ else _) _ _ _
  rw [if_neg (by unfold Builtin.Itertools.itTooMany; rw [decide_eq_false (by omega)]; exact Bool.false_ne_true)]
  show wpAny _ _ (newTuple acc.toList >>= _) _ _ _
  refine wpAny_bind ?_
  simp only [newTuple]
  refine wpAny_newObj_type ?_ (by show acc.toList.toArray.size ≤ sizeLine; rw [List.size_toArray, hl]; exact Nat.le_trans (show n ≤ 1000 by omega) (Nat.le_of_lt (by decide)))
  rw [ht]
  refine wpAny_bind (pm_record (by simp; omega) ?_)
  rw [pm_start_fields _ h6]
  refine wpAny_pure ?_
  rw [Heap.size_push]
  exact h h' tk acc hk hi
end
end B2
namespace B2
open PySem PySem.Spec
section
variable {prog : Program} {w : World} {A : Around} {E : Value → Shared → Prop} {s : Shared} {it pool : Addr} {n : Nat} {last : Value} {ix cy : List Nat}
theorem pm_call {Q : Value → Shared → Prop} {r : Addr} {t u v : Tok} (hh : A.handled = none) (hr : IsRange s.heap r 0 (n : Int) 1 t u v) (h6 : n ≤ 6)
    (hQ : ∀ (h' : Heap) (tk : Nat) (acc : Array Value), (∀ b o, s.heap.get? b = some o → h'.get? b = some o) → ItemsOf (fun i v => ∃ t, v = .int (0 + i * 1) t) acc n →
      Q (.ref (h'.objs.size + 1)) { s with heap := (h'.push { cls := .type "tuple", data := .seq acc }).push { cls := .type "itertools.permutations", data := .fields (pmFields h'.objs.size 0 n .none (List.range n) (pmStart n)) }, toks := tk }) :
    wpAny (model prog w) A (call (.type "itertools.permutations") [.ref r]) Q E s := by
  refine callType_codes (Q₁ := fun obj s₁ => s₁.TypeIs obj "itertools.permutations" ∧ Q obj s₁) pm_called (pm_typeCall _) F.entry_object_init
    (pm_code_new (A := A.in1) hh hr h6 fun h' tk acc hk hi => ⟨⟨_, by have e := Heap.get?_push_size (h'.push { cls := .type "tuple", data := .seq acc }) (o := { cls := .type "itertools.permutations", data := .fields (pmFields h'.objs.size 0 n .none (List.range n) (pmStart n)) }) rfl; rw [Heap.size_push] at e; exact e, rfl⟩, hQ h' tk acc hk hi⟩) fun obj s₁ h₁ => ?_
  exact ⟨h₁.1, F.args_object_init_2 obj _, object_init_meets pm_called.init.lookup pm_called.made (by decide) prog w A.in1 _ s₁ ⟨h₁.1, rfl, h₁.2⟩⟩
theorem pm_iter {k : Int} {Q : Value → Shared → Prop} (hit : IsPm s.heap it pool k n last ix cy) (h : Q (.ref it) s) : wpAny (model prog w) A (pyIter (.ref it)) Q E s := by
  have hT : s.TypeIs (.ref it) "itertools.permutations" := ⟨_, hit, rfl⟩
  refine wpAny_pyIter_slot hT pm_slot_iter (wpAny_call_entry pm_slot_iter hT pm_entry_iter ?_ (pm_args_iter _))
  show wpAny _ _ (ret (.ref it)) _ _ s
  exact wpAny_pure ⟨_, rfl, "itertools.permutations", _, hT, pm_slot_next.lookup, h⟩
theorem pm_numbers (k : Int) : (((pmFields pool k n last ix cy).toList.drop 4).map fun | .int n _ => n.toNat | _ => 0) = ix ++ cy := by
  unfold pmFields
  show ((ix.map (fun (i : Nat) => rawInt (i : Int)) ++ cy.map (fun (i : Nat) => rawInt (i : Int))).map _) = _
  rw [List.map_append, List.map_map, List.map_map]
  have e : ∀ l : List Nat, l.map ((fun | .int n _ => n.toNat | _ => 0 : Value → Nat) ∘ fun (i : Nat) => rawInt (i : Int)) = l := fun l => by
    induction l with
    | nil => rfl
    | cons a l ih =>
      rw [List.map_cons, ih]
      rfl
  rw [e, e]
theorem pm_set1 (k k' : Int) : (pmFields pool k n last ix cy).setIfInBounds 1 (rawInt k') = pmFields pool k' n last ix cy := by
  unfold pmFields
  rw [List.setIfInBounds_toArray]
  rfl
theorem pm_set3 (k : Int) (v : Value) : (pmFields pool k n last ix cy).setIfInBounds 3 v = pmFields pool k n v ix cy := by
  unfold pmFields
  rw [List.setIfInBounds_toArray]
  rfl
theorem pm_put1 {h : Heap} {k : Int} (k' : Int) (hit : IsPm h it pool k n last ix cy) : IsPm (h.update it (Obj.mapFields fun x => x.setIfInBounds 1 (rawInt k'))) it pool k' n last ix cy := by
  have e := Heap.get?_update_self (Obj.mapFields fun x => x.setIfInBounds 1 (rawInt k')) hit rfl
  show _ = some _
  rw [e]
  show some (Obj.mk (.type "itertools.permutations") none (.fields ((pmFields pool k n last ix cy).setIfInBounds 1 (rawInt k'))) #[]) = _
  rw [pm_set1]
theorem pm_put3 {h : Heap} {k : Int} (v : Value) (hit : IsPm h it pool k n last ix cy) : IsPm (h.update it (Obj.mapFields fun x => x.setIfInBounds 3 v)) it pool k n v ix cy := by
  have e := Heap.get?_update_self (Obj.mapFields fun x => x.setIfInBounds 3 v) hit rfl
  show _ = some _
  rw [e]
  show some (Obj.mk (.type "itertools.permutations") none (.fields ((pmFields pool k n last ix cy).setIfInBounds 3 v)) #[]) = _
  rw [pm_set3]
theorem pm_putN {h : Heap} {k : Int} (ix' cy' : List Nat) (hit : IsPm h it pool k n last ix cy) :
    IsPm (h.update it (Obj.mapFields fun x => x.extract 0 4 ++ ((ix' ++ cy').map fun (i : Nat) => rawInt (i : Int)).toArray)) it pool k n last ix' cy' := by
  have e := Heap.get?_update_self (Obj.mapFields fun x => x.extract 0 4 ++ ((ix' ++ cy').map fun (i : Nat) => rawInt (i : Int)).toArray) hit rfl
  show _ = some _
  rw [e]
  show some (Obj.mk (.type "itertools.permutations") none (.fields ((pmFields pool k n last ix cy).extract 0 4 ++ ((ix' ++ cy').map fun (i : Nat) => rawInt (i : Int)).toArray)) #[]) = _
  have : (pmFields pool k n last ix cy).extract 0 4 ++ ((ix' ++ cy').map fun (i : Nat) => rawInt (i : Int)).toArray = pmFields pool k n last ix' cy' := by
    unfold pmFields
    rw [List.extract_toArray, List.append_toArray, List.map_append]
    rfl
  rw [this]
theorem pm_size (h : Heap) (a : Addr) (f : Array Value → Array Value) : (h.update a (Obj.mapFields f)).objs.size = h.objs.size := (Heap.SameBut.update (a := a) (h := h) (f := Obj.mapFields f)).1
theorem pm_else {h : Heap} {a b : Addr} {o : Obj} (f : Array Value → Array Value) (ne : b ≠ a) (hb : h.get? b = some o) : (h.update a (Obj.mapFields f)).get? b = some o := (Heap.SameBut.update (a := a) (h := h) (f := Obj.mapFields f)).extBut b o ne hb
theorem pm_fits (items : Array Value) {l : List Nat} (h : l.length = n) (h6 : n ≤ 6) : ¬ (l.map fun i => items.getD i Value.none).toArray.size > sizeLine := by
  rw [List.size_toArray, List.length_map, h]
  exact Nat.not_lt.mpr (Nat.le_trans (Nat.le_trans h6 (by decide)) (show 1000 ≤ sizeLine from Nat.le_of_lt (by decide)))
theorem pm_item0 {items : Array Value} {Q : Option Value → Shared → Prop} (hit : IsPm s.heap it pool 0 n last ix cy) (hp : s.heap.get? pool = some { cls := .type "tuple", data := .seq items }) (hn : items.size = n) (hix : ix.length = n) (hh6 : n ≤ 6)
    (hQ : ∀ h', IsPm h' it pool 1 n (.ref s.heap.objs.size) ix cy → h'.get? s.heap.objs.size = some { cls := .type "tuple", data := .seq (ix.map fun i => items.getD i .none).toArray } → (∀ c o, c ≠ it → s.heap.get? c = some o → h'.get? c = some o) →
      Q (some (.ref s.heap.objs.size)) { s with heap := h' }) : wpAny (model prog w) A (callSpecial? (.ref it) "__next__") Q E s := by
  have hT : s.TypeIs (.ref it) "itertools.permutations" := ⟨_, hit, rfl⟩
  refine wpAny_callSpecial?_slot (name := Str.ofString "__next__") hT pm_slot_next (wpAny_call_entry pm_slot_next hT pm_entry_next ?_ (pm_args_next _))
  unfold Builtin.«itertools.permutations.__next__»
  repeat wp_step
  generalize hx : List.map _ (List.drop 4 (pmFields pool 0 n last ix cy).toList) = numbers
  have hx2 : numbers = ix ++ cy := hx.symm.trans (pm_numbers 0)
  have ht : (ix ++ cy).take ((n : Int)).toNat = ix := by rw [Int.toNat_natCast, ← hix, List.take_left]
  rw [hx2, ht]
  clear hx hx2
  refine wpAny_ite_false (decide_eq_false (pm_fits items hix hh6)) ?_
  repeat wp_step
  have hlt : it < s.heap.objs.size := Heap.lt_size hit
  have h1 := pm_put1 1 hit
  have h2 : IsPm ((s.heap.update it (Obj.mapFields fun x => x.setIfInBounds 1 (rawInt 1))).push { cls := .type "tuple", data := .seq (ix.map fun i => items.getD i Value.none).toArray }) it pool 1 n last ix cy := Heap.get?_push_of_some _ h1
  have h3 := pm_put3 (.ref (s.heap.update it (Obj.mapFields fun x => x.setIfInBounds 1 (rawInt 1))).objs.size) h2
  refine ⟨_, rfl, ?_⟩
  have hsz := pm_size s.heap it fun x => x.setIfInBounds 1 (rawInt 1)
  rw [hsz] at h3 ⊢
  refine hQ _ h3 (pm_else _ (Nat.ne_of_gt hlt) ?_) fun c o ne e => pm_else _ ne (Heap.get?_push_of_some _ (pm_else _ ne e))
  have e := Heap.get?_push_size (s.heap.update it (Obj.mapFields fun x => x.setIfInBounds 1 (rawInt 1))) (o := { cls := .type "tuple", data := .seq (ix.map fun i => items.getD i Value.none).toArray }) rfl
  rw [hsz] at e
  exact e
/-- as the machine turns the places and the cycles -/
def nextP (n : Nat) : Nat → List Nat → List Nat → Option (List Nat × List Nat)
  | 0, _, _ => none
  | k + 1, a, b => if (b.getD k 0 - 1 == 0) = true then nextP n k (a.take k ++ a.drop (k + 1) ++ [a.getD k 0]) (b.set k (n - k))
    else some ((a.set k (a.getD (n - (b.getD k 0 - 1)) 0)).set (n - (b.getD k 0 - 1)) (a.getD k 0), b.set k (b.getD k 0 - 1))
theorem pm_item1 {items : Array Value} {ix' cy' : List Nat} {Q : Option Value → Shared → Prop} (hit : IsPm s.heap it pool 1 n last ix cy) (hp : s.heap.get? pool = some { cls := .type "tuple", data := .seq items }) (hn : items.size = n) (hix : ix.length = n) (hh6 : n ≤ 6)
    (hnx : nextP n n ix cy = some (ix', cy')) (hix' : ix'.length = n) (hcy' : cy'.length ≤ 6)
    (hQ : ∀ h', IsPm h' it pool 1 n (.ref s.heap.objs.size) ix' cy' → h'.get? s.heap.objs.size = some { cls := .type "tuple", data := .seq (ix'.map fun i => items.getD i .none).toArray } → (∀ c o, c ≠ it → s.heap.get? c = some o → h'.get? c = some o) →
      Q (some (.ref s.heap.objs.size)) { s with heap := h' }) : wpAny (model prog w) A (callSpecial? (.ref it) "__next__") Q E s := by
  have hT : s.TypeIs (.ref it) "itertools.permutations" := ⟨_, hit, rfl⟩
  refine wpAny_callSpecial?_slot (name := Str.ofString "__next__") hT pm_slot_next (wpAny_call_entry pm_slot_next hT pm_entry_next ?_ (pm_args_next _))
  unfold Builtin.«itertools.permutations.__next__»
  repeat wp_step
  generalize hx : List.map _ (List.drop 4 (pmFields pool 1 n last ix cy).toList) = numbers
  have hx2 : numbers = ix ++ cy := hx.symm.trans (pm_numbers 1)
  have ht : (ix ++ cy).take n = ix := by rw [← hix, List.take_left]
  have hd : (ix ++ cy).drop n = cy := by rw [← hix, List.drop_left]
  rw [hx2, hn, ht, hd, Int.toNat_natCast]
  clear hx hx2
  split
  · rename_i i2 c2 heq
    have heq2 : nextP n n ix cy = some (i2, c2) := by set_option smartUnfolding false in exact heq
    rw [hnx] at heq2
    cases heq2
    clear heq
    refine wpAny_bind ?_
    show wpAny _ _ (updateFields it fun fs => fs.extract 0 4 ++ ((ix' ++ cy').map fun (i : Nat) => rawInt (i : Int)).toArray) _ _ _
    refine wpAny_updateFields hit rfl ?_ ?_
    · have h0 := pm_putN ix' cy' hit
      have hlt : it < s.heap.objs.size := Heap.lt_size hit
      have hsz0 := pm_size s.heap it fun fs => fs.extract 0 4 ++ ((ix' ++ cy').map fun (i : Nat) => rawInt (i : Int)).toArray
      have hel : ∀ c o, c ≠ it → s.heap.get? c = some o → (s.heap.update it (Obj.mapFields fun fs => fs.extract 0 4 ++ ((ix' ++ cy').map fun (i : Nat) => rawInt (i : Int)).toArray)).get? c = some o := fun c o ne e => pm_else _ ne e
      generalize s.heap.update it (Obj.mapFields fun fs => fs.extract 0 4 ++ ((ix' ++ cy').map fun (i : Nat) => rawInt (i : Int)).toArray) = h1 at h0 hsz0 hel
      have ht2 : ix'.take n = ix' := by rw [← hix', List.take_length]
      show wpAny _ _ (newTuple ((ix'.take n).map fun i => items.getD i Value.none) >>= _) _ _ _
      rw [ht2]
      refine wpAny_bind ?_
      simp only [newTuple]
      refine wpAny_newObj_type ?_ (Nat.not_lt.mp (pm_fits items hix' hh6))
      have h2 : IsPm (h1.push { cls := .type "tuple", data := .seq (ix'.map fun i => items.getD i Value.none).toArray }) it pool 1 n last ix' cy' := Heap.get?_push_of_some _ h0
      repeat wp_step
      refine ⟨_, rfl, ?_⟩
      have h3 := pm_put3 (.ref h1.objs.size) h2
      have e := Heap.get?_push_size h1 (o := { cls := .type "tuple", data := .seq (ix'.map fun i => items.getD i Value.none).toArray }) rfl
      rw [hsz0] at h3 e ⊢
      exact hQ _ h3 (pm_else _ (Nat.ne_of_gt hlt) e) fun c o ne e => pm_else _ ne (Heap.get?_push_of_some _ (hel c o ne e))
    · have e2 : (((ix' ++ cy').map fun (i : Nat) => rawInt (i : Int)).toArray).size = n + cy'.length := by rw [List.size_toArray, List.length_map, List.length_append, hix']
      rw [Array.size_append, e2]
      have : ((pmFields pool 1 n last ix cy).extract 0 4).size ≤ 4 := by rw [Array.size_extract]; omega
      have h1000 : 1000 ≤ sizeLine := Nat.le_of_lt (by decide)
      omega
  · rename_i heq
    have heq2 : nextP n n ix cy = none := by set_option smartUnfolding false in exact heq
    rw [hnx] at heq2
    cases heq2
theorem pm_end {items : Array Value} {Q : Option Value → Shared → Prop} (hh : A.handled = none) (hit : IsPm s.heap it pool 1 n last ix cy) (hp : s.heap.get? pool = some { cls := .type "tuple", data := .seq items }) (hn : items.size = n) (hix : ix.length = n)
    (hnx : nextP n n ix cy = none) (hQ : ∀ e h', CpRep.StopE e h' → Heap.ExtBut it s.heap h' → E e { s with heap := h' }) : wpAny (model prog w) A (callSpecial? (.ref it) "__next__") Q E s := by
  have hT : s.TypeIs (.ref it) "itertools.permutations" := ⟨_, hit, rfl⟩
  refine wpAny_callSpecial?_slot (name := Str.ofString "__next__") hT pm_slot_next (wpAny_call_entry pm_slot_next hT pm_entry_next ?_ (pm_args_next _))
  unfold Builtin.«itertools.permutations.__next__»
  repeat wp_step
  generalize hx : List.map _ (List.drop 4 (pmFields pool 1 n last ix cy).toList) = numbers
  have hx2 : numbers = ix ++ cy := hx.symm.trans (pm_numbers 1)
  have ht : (ix ++ cy).take n = ix := by rw [← hix, List.take_left]
  have hd : (ix ++ cy).drop n = cy := by rw [← hix, List.drop_left]
  rw [hx2, hn, ht, hd, Int.toNat_natCast]
  clear hx hx2
  split
  · rename_i i2 c2 heq
    have heq2 : nextP n n ix cy = some (i2, c2) := by set_option smartUnfolding false in exact heq
    rw [hnx] at heq2
    cases heq2
  · clear ht hd
    refine wpAny_bind (wpAny_setField hit rfl (by unfold pmFields; simp) ?_)
    show wpAny _ _ (newExc (.type "StopIteration") [] >>= _) _ _ _
    refine wpAny_bind ?_
    simp only [newExc, newTuple]
    refine wpAny_bind (wpAny_newObj_type ?_ (by size_fits)); refine wpAny_bind (m := firstArgMember _ _) (wpAny_of_eq (a := Value.none) (by first | rfl | (simp only [firstArgMember]; rfl)) ?_)
    refine wpAny_newObj_type ?_ (by size_fits); simp only [raiseNew]; refine wpAny_bind (wpAny_handled ?_)
    rw [show A.in1.handled = none from hh]
    refine wpAny_bind (wpAny_pure (wpAny_throw ?_))
    exact hQ _ _ ⟨_, _, _, rfl, Heap.get?_push_size _ rfl, rfl, rfl, rfl⟩ (((Heap.SameBut.update ..).extBut.push _).push _)
end
end B2

namespace B2
open PySem L2
/-! ### All orders of some numbers -/
def pL : Nat → List Nat → List (List Nat)
  | 0, _ => [[]]
  | k + 1, xs => xs.flatMap fun x => (pL k (xs.erase x)).map (x :: ·)
theorem pL_all : ∀ (k : Nat) (xs l : List Nat), l.length = k → l.Nodup → (∀ x ∈ l, x ∈ xs) → l ∈ pL k xs
  | 0, xs, l, h, _, _ => by
    rw [List.length_eq_zero_iff.mp h]
    exact List.mem_singleton.mpr rfl
  | k + 1, xs, [], h, _, _ => by cases h
  | k + 1, xs, x :: l, h, nd, hs => by
    have nd' := List.nodup_cons.mp nd
    refine List.mem_flatMap.mpr ⟨x, hs x (List.mem_cons_self ..), List.mem_map.mpr ⟨l, pL_all k _ l (Nat.succ.inj h) nd'.2 fun y hy => ?_, rfl⟩⟩
    exact (List.mem_erase_of_ne (fun e => nd'.1 (by rw [← e]; exact hy))).mpr (hs y (List.mem_cons_of_mem _ hy))
theorem pL_of : ∀ (k : Nat) (xs l : List Nat), xs.Nodup → l ∈ pL k xs → l.length = k ∧ l.Nodup ∧ ∀ x ∈ l, x ∈ xs
  | 0, xs, l, _, h => by
    rw [List.mem_singleton.mp h]
    exact ⟨rfl, List.nodup_nil, fun x hx => nomatch hx⟩
  | k + 1, xs, l, nd, h => by
    obtain ⟨x, hx, h2⟩ := List.mem_flatMap.mp h
    obtain ⟨l', hl', rfl⟩ := List.mem_map.mp h2
    obtain ⟨h3, h4, h5⟩ := pL_of k _ l' (List.Nodup.erase x nd) hl'
    refine ⟨by rw [List.length_cons, h3], List.nodup_cons.mpr ⟨fun z => ?_, h4⟩, fun y hy => ?_⟩
    · exact (List.Nodup.mem_erase_iff nd).mp (h5 x z) |>.1 rfl
    · rcases List.mem_cons.mp hy with h | h
      · rw [h]; exact hx
      · exact List.mem_of_mem_erase (h5 y h)
def permsN (n : Nat) : List (List Nat) := pL n (List.range n)

/-! ### The machine's places and cycles, one behind the other -/
def runP (n : Nat) : Nat → List Nat × List Nat → List (List Nat × List Nat)
  | 0, s => [s]
  | f + 1, s => s :: match nextP n n s.1 s.2 with
    | none => []
    | some s' => runP n f s'
def stsN (n : Nat) : List (List Nat × List Nat) := runP n 720 (List.range n, pmStart n)
theorem runP_head (n : Nat) : ∀ f s, (runP n f s)[0]? = some s
  | 0, _ => rfl
  | _ + 1, _ => rfl
theorem runP_next (n : Nat) : ∀ (f i : Nat) (s a b : List Nat × List Nat), (runP n f s)[i]? = some a → (runP n f s)[i + 1]? = some b → nextP n n a.1 a.2 = some b
  | 0, i, s, a, b, _, h2 => by
    have := (List.getElem?_eq_some_iff.mp h2).1
    have e : (runP n 0 s).length = 1 := rfl
    omega
  | f + 1, i, s, a, b, h1, h2 => by
    unfold runP at h1 h2
    cases e : nextP n n s.1 s.2 with
    | none =>
      rw [e] at h2
      have := (List.getElem?_eq_some_iff.mp h2).1
      simp at this
    | some s' =>
      rw [e] at h1 h2
      cases i with
      | zero =>
        cases h1
        have h3 : (runP n f s')[0]? = some b := h2
        rw [runP_head] at h3
        cases h3
        exact e
      | succ i => exact runP_next n f i s' a b h1 h2
theorem runP_last (n : Nat) : ∀ (f i : Nat) (s a : List Nat × List Nat), (runP n f s)[i]? = some a → (runP n f s)[i + 1]? = none → i < f → nextP n n a.1 a.2 = none
  | 0, i, s, a, _, _, h => by omega
  | f + 1, i, s, a, h1, h2, h => by
    unfold runP at h1 h2
    cases e : nextP n n s.1 s.2 with
    | none =>
      rw [e] at h1
      cases i with
      | zero => cases h1; exact e
      | succ i => cases h1
    | some s' =>
      rw [e] at h1 h2
      cases i with
      | zero =>
        have h3 : (runP n f s')[0]? = none := h2
        rw [runP_head] at h3
        cases h3
      | succ i => exact runP_last n f i s' a h1 h2 (by omega)
theorem nextP_len (n : Nat) : ∀ (k : Nat) (a b a' b' : List Nat), nextP n k a b = some (a', b') → b'.length = b.length
  | 0, _, _, _, _, h => by cases h
  | k + 1, a, b, a', b', h => by
    unfold nextP at h
    split at h
    · have := nextP_len n k _ _ _ _ h
      rw [this, List.length_set]
    · cases h
      rw [List.length_set]
theorem runP_len (n m : Nat) : ∀ (f : Nat) (s a : List Nat × List Nat), s.2.length = m → a ∈ runP n f s → a.2.length = m
  | 0, s, a, h, ha => by rw [List.mem_singleton.mp ha]; exact h
  | f + 1, s, a, h, ha => by
    unfold runP at ha
    rcases List.mem_cons.mp ha with z | z
    · rw [z]; exact h
    · cases e : nextP n n s.1 s.2 with
      | none => rw [e] at z; cases z
      | some s' =>
        rw [e] at z
        exact runP_len n m f s' a (by rw [nextP_len n n s.1 s.2 s'.1 s'.2 e]; exact h) z
theorem sts_perms {n : Nat} (h1 : 1 ≤ n) (h6 : n ≤ 6) : (stsN n).map (·.1) = permsN n := by
  have : n = 1 ∨ n = 2 ∨ n = 3 ∨ n = 4 ∨ n = 5 ∨ n = 6 := by omega
  rcases this with h | h | h | h | h | h <;> subst h <;> decide +kernel
theorem perms_few {n : Nat} (h1 : 1 ≤ n) (h6 : n ≤ 6) : 1 ≤ (permsN n).length ∧ (permsN n).length ≤ 720 := by
  have : n = 1 ∨ n = 2 ∨ n = 3 ∨ n = 4 ∨ n = 5 ∨ n = 6 := by omega
  rcases this with h | h | h | h | h | h <;> subst h <;> decide +kernel
end B2

namespace B2
open PySem PySem.Spec L2 PyProof.Rows
/-! ### for x in permutations(range(n)), of one to six -/
def permV (l : List Nat) : List V := l.map fun (j : Nat) => V.int (j : Int)
def Itp (n : Nat) : It :=
  ⟨fun i _ => i < (permsN n).length, fun i H x H' => ∃ (p : Addr) (ob : Obj) (l : List Nat), x = .ref p ∧ H p = none ∧ ob.cls = .type "tuple" ∧ ob.dict = none ∧ (permsN n)[i]? = some l ∧ H' = upd H p (.frz ob (.tup (permV l))), fun i _ => (permsN n).length ≤ i⟩
/-- the places, as the machine holds them at a turn -/
def PmAt (n : Nat) (it : Addr) (pool : Addr) (acc : Array Value) (i : Nat) (h : Heap) : Prop :=
  h.get? pool = some { cls := .type "tuple", data := .seq acc } ∧ ((i = 0 ∧ IsPm h it pool 0 n .none (List.range n) (pmStart n)) ∨ ∃ (j : Nat) (last : Value) (a : List Nat × List Nat), i = j + 1 ∧ (stsN n)[j]? = some a ∧ IsPm h it pool 1 n last a.1 a.2)
theorem pm_pick {n : Nat} {acc : Array Value} (hi : ItemsOf (fun i v => ∃ t, v = .int (0 + i * 1) t) acc n) : ∀ l : List Nat, (∀ j ∈ l, j < n) → Vals (permV l) (l.map fun i => acc.getD i Value.none)
  | [], _ => .nil
  | j :: l, h => by
    refine .cons ?_ (pm_pick hi l fun x hx => h x (List.mem_cons_of_mem _ hx))
    have hj := h j (List.mem_cons_self ..)
    have hs : acc.size = n := hi.1
    have e : acc[j]? = some acc[j] := Array.getElem?_eq_getElem (by omega)
    obtain ⟨t, et⟩ := hi.2 j acc[j] e
    refine ⟨t, ?_⟩
    have e2 : acc.getD j Value.none = acc[j] := by
      rw [Array.getD_eq_getD_getElem?, e]
      rfl
    show acc.getD j Value.none = _
    rw [e2, et]
    congr 1
    omega
theorem sts_ok {n : Nat} (h1 : 1 ≤ n) (h6 : n ≤ 6) {j : Nat} {a : List Nat × List Nat} (h : (stsN n)[j]? = some a) : (permsN n)[j]? = some a.1 ∧ a.1.length = n ∧ (∀ x ∈ a.1, x < n) ∧ a.2.length ≤ 6 := by
  have e : (permsN n)[j]? = some a.1 := by rw [← sts_perms h1 h6, List.getElem?_map, h]; rfl
  have hp := pL_of n (List.range n) a.1 List.nodup_range (List.mem_of_getElem? e)
  refine ⟨e, hp.1, fun x hx => List.mem_range.mp (hp.2.2 x hx), ?_⟩
  have := runP_len n n 720 (List.range n, pmStart n) a (by unfold pmStart; rw [List.length_map, List.length_range]) (List.mem_of_getElem? h)
  omega
theorem sts_len {n : Nat} (h1 : 1 ≤ n) (h6 : n ≤ 6) : (stsN n).length = (permsN n).length := by rw [← sts_perms h1 h6, List.length_map]
theorem turn_perm {P : Program} {w : World} {K : PySem.W.Frag} {tg : Expr} {n : Nat} {it pool : Addr} {acc : Array Value} (h1 : 1 ≤ n) (h6 : n ≤ 6) (ne : pool ≠ it) (hi : ItemsOf (fun i v => ∃ t, v = .int (0 + i * 1) t) acc n) :
    Turn P w K tg (Itp n) [it, pool] it (PmAt n it pool acc) where
  mem := List.mem_cons_self ..
  obj := fun i h st c hc => by
    obtain ⟨hp, st⟩ := st
    rcases List.mem_cons.mp hc with rfl | hc
    · rcases st with ⟨_, z⟩ | ⟨_, _, _, _, _, z⟩
      · exact ⟨_, z, fun v q => nomatch q⟩
      · exact ⟨_, z, fun v q => nomatch q⟩
    · rw [List.mem_singleton.mp hc]
      exact ⟨_, hp, fun v q => nomatch q⟩
  keep := fun i h h' st k => by
    obtain ⟨hp, st⟩ := st
    refine ⟨k pool (List.mem_cons_of_mem _ (List.mem_singleton.mpr rfl)) _ hp, ?_⟩
    rcases st with ⟨e, z⟩ | ⟨j, last, a, e, ha, z⟩
    · exact .inl ⟨e, k it (List.mem_cons_self ..) _ z⟩
    · exact .inr ⟨j, last, a, e, ha, k it (List.mem_cons_self ..) _ z⟩
  item := by
    intro X hP hw hK hc i pins s σ H E I hf st hg
    subst hP hw hK
    obtain ⟨hp, st⟩ := st
    have hs : acc.size = n := hi.1
    have hg' : i < (permsN n).length := hg
    have fin : ∀ (h' : Heap) (a : List Nat × List Nat), (stsN n)[i]? = some a → IsPm h' it pool 1 n (.ref s.heap.objs.size) a.1 a.2 → h'.get? s.heap.objs.size = some { cls := .type "tuple", data := .seq (a.1.map fun i => acc.getD i Value.none).toArray } →
        (∀ c o, c ≠ it → s.heap.get? c = some o → h'.get? c = some o) → ∃ u, some (Value.ref s.heap.objs.size) = some u ∧
        wpAny (model X.prog X.w) X.A (letOwnedTupleGo tg (.ref it) u) (fun _ s2 => ∃ x H', Inv X pins σ H' s2 ∧ RelV x u ∧ (Itp n).yld i H x H' ∧ PmAt n it pool acc (i + 1) s2.heap ∧ ∀ b ∈ [it, pool], H' b = none) E { s with heap := h' } := fun h' a ha hit hT hk => by
      obtain ⟨q1, q2, q3, _⟩ := sts_ok h1 h6 ha
      refine ⟨_, rfl, go_of hit rfl rfl (by decide +kernel) ?_⟩
      have hl : (permV a.1).length ≤ sizeLine := by
        unfold permV
        rw [List.length_map, q2]
        exact Nat.le_trans (show n ≤ 1000 by omega) (Nat.le_of_lt (by decide))
      have new : ObjOk X.prog X.w (upd H s.heap.objs.size (.frz { cls := .type "tuple", data := .seq (a.1.map fun i => acc.getD i Value.none).toArray } (.tup (permV a.1)))) h' s.heap.objs.size
          (.frz { cls := .type "tuple", data := .seq (a.1.map fun i => acc.getD i Value.none).toArray } (.tup (permV a.1))) := ⟨hT, hl, _, pm_pick hi a.1 q3, ⟨_, hT, rfl, _, rfl⟩⟩
      have I1 := I.turnedNew (t' := s.toks) (ch := [it, pool]) (fun c o hb q => hk c o (fun z => hb (by rw [z]; exact List.mem_cons_self ..)) q) hf (Nat.le_refl _) new
      have hlt : it < s.heap.objs.size := by
        rcases st with ⟨_, z⟩ | ⟨_, _, _, _, _, z⟩
        · exact Heap.lt_size z
        · exact Heap.lt_size z
      have hlp : pool < s.heap.objs.size := Heap.lt_size hp
      refine ⟨.ref s.heap.objs.size, _, I1, rfl, ⟨_, _, a.1, rfl, I.hok.fresh (Nat.le_refl _), rfl, rfl, q1, rfl⟩, ⟨hk _ _ ne hp, .inr ⟨i, _, a, rfl, ha, hit⟩⟩, fun b hb => ?_⟩
      have hbl : b < s.heap.objs.size := by
        rcases List.mem_cons.mp hb with z | z
        · rw [z]; exact hlt
        · rw [List.mem_singleton.mp z]; exact hlp
      rw [upd_ne (Nat.ne_of_lt hbl)]
      exact (hf b hb).1
    have hst : ∃ a, (stsN n)[i]? = some a := ⟨_, List.getElem?_eq_getElem (by rw [sts_len h1 h6]; exact hg')⟩
    obtain ⟨a, ha⟩ := hst
    obtain ⟨_, q2, _, q4⟩ := sts_ok h1 h6 ha
    unfold pyNext
    rcases st with ⟨rfl, z⟩ | ⟨j, last, b, rfl, hb, z⟩
    · have e0 : a = (List.range n, pmStart n) := by
        have := runP_head n 720 (List.range n, pmStart n)
        have ha' : (runP n 720 (List.range n, pmStart n))[0]? = some a := ha
        rw [this] at ha'
        exact (Option.some.inj ha').symm
      subst e0
      exact wpAny_bind (wpAny_attempt (pm_item0 z hp hs q2 h6 fun h' r1 r2 r3 => wpAny_pure (fin h' _ ha r1 r2 r3)))
    · have hnx := runP_next n 720 j _ b a hb ha
      obtain ⟨_, p2, _, _⟩ := sts_ok h1 h6 hb
      exact wpAny_bind (wpAny_attempt (pm_item1 z hp hs p2 h6 hnx q2 q4 fun h' r1 r2 r3 => wpAny_pure (fin h' a ha r1 r2 r3)))
  done := by
    intro X hP hw hK hc i pins s σ H E I hf st hg
    subst hP hw hK
    obtain ⟨hp, st⟩ := st
    have hs : acc.size = n := hi.1
    have hg' : (permsN n).length ≤ i := hg
    have few := perms_few h1 h6
    rcases st with ⟨rfl, z⟩ | ⟨j, last, b, rfl, hb, z⟩
    · omega
    · have hlast : (stsN n)[j + 1]? = none := List.getElem?_eq_none (by rw [sts_len h1 h6]; exact hg')
      have hjl := (List.getElem?_eq_some_iff.mp hb).1
      rw [sts_len h1 h6] at hjl
      have hnx := runP_last n 720 j _ b hb hlast (by omega)
      obtain ⟨_, p2, _, _⟩ := sts_ok h1 h6 hb
      unfold pyNext
      refine wpAny_bind (wpAny_attempt (pm_end (I.ok.hd hc) z hp hs p2 hnx fun e h' he hk => ?_))
      obtain ⟨ea, o, vs, rfl, ho, hcl, _⟩ := he
      refine wpAny_bind (wpAny_isInstance (T := "StopIteration") (b := true) ⟨o, ho, hcl⟩ isSubtype_stop ?_)
      exact wpAny_pure ⟨rfl, I.turnedL (t' := s.toks) (ch := [it, pool]) (fun c o hb q => hk c o (fun z => hb (by rw [z]; exact List.mem_cons_self ..)) q) hf⟩
  self := fun A i s Q E st h => by
    rcases st.2 with ⟨_, z⟩ | ⟨_, _, _, _, _, z⟩
    · exact pm_iter z h
    · exact pm_iter z h
def iPerm (te : L2.St → Hp → (Int → Int → Hp → Prop) → Prop) : TI := fun σ H R => te σ H fun a b H1 => a = 0 ∧ ∃ n : Nat, b = (n : Int) ∧ 1 ≤ n ∧ n ≤ 6 ∧ R (Itp n) H1
theorem pi_perm {X : Cx} {tg e : Expr} {te : L2.St → Hp → (Int → Int → Hp → Prop) → Prop} {p pos : Pos} (hc : X.calm = true) (hg : Gl X "permutations") (hm : X.mg "permutations" = some (.type "itertools.permutations")) (he : PRg X e te)
    (na : starEach [e] X.env = (false, eval e X.env) :: starEach [] X.env := by rfl) : PI X tg (.Call (.Name "permutations" p) [e] [] pos) (iPerm te) := by
  refine ⟨fun pins s σ H R I h => ?_⟩
  refine PyProof.Rows.Call_ (ld_glob I hg hm (PyProof.Rows.callWith_type1 (args_cons (thn (he pins s σ H _ I h) fun x s1 hx => args_nil ?_) na) na))
  obtain ⟨r, a, b, t, u, v, H1, ex, hr, I1, ea, n, eb, h1, h6, q⟩ := hx
  subst ex ea eb
  refine pm_call (I1.ok.hd hc) hr h6 fun h' tk acc hk hi => ?_
  have I2 : Inv X pins σ H1 { s1 with heap := h', toks := tk } := I1.kept hk
  have I3 : Inv X pins σ H1 { s1 with heap := (h'.push { cls := .type "tuple", data := .seq acc }).push { cls := .type "itertools.permutations", data := .fields (pmFields h'.objs.size 0 n .none (List.range n) (pmStart n)) }, toks := tk } :=
    I2.kept (t' := tk) fun b o e => Heap.get?_push_of_some _ (Heap.get?_push_of_some _ e)
  have hit : IsPm ((h'.push { cls := .type "tuple", data := .seq acc }).push { cls := .type "itertools.permutations", data := .fields (pmFields h'.objs.size 0 n .none (List.range n) (pmStart n)) }) (h'.objs.size + 1) h'.objs.size 0 n .none (List.range n) (pmStart n) := by
    have e := Heap.get?_push_size (h'.push { cls := .type "tuple", data := .seq acc }) (o := { cls := .type "itertools.permutations", data := .fields (pmFields h'.objs.size 0 n .none (List.range n) (pmStart n)) }) rfl
    rw [Heap.size_push] at e
    exact e
  have hp : ((h'.push { cls := .type "tuple", data := .seq acc }).push { cls := .type "itertools.permutations", data := .fields (pmFields h'.objs.size 0 n .none (List.range n) (pmStart n)) }).get? h'.objs.size = some { cls := .type "tuple", data := .seq acc } :=
    Heap.get?_push_of_some _ (Heap.get?_push_size _ rfl)
  refine pm_iter hit ?_
  refine ⟨h'.objs.size + 1, [h'.objs.size + 1, h'.objs.size], _, Itp n, H1, rfl, I3, turn_perm h1 h6 (Nat.ne_of_lt (Nat.lt_succ_self _)) hi, ⟨hp, .inl ⟨rfl, hit⟩⟩, fun b hb => ?_, q⟩
  have hle : h'.objs.size ≤ b := by
    rcases List.mem_cons.mp hb with z | z
    · rw [z]; exact Nat.le_succ _
    · rw [List.mem_singleton.mp z]; exact Nat.le_refl _
  have f2 := I2.fpOk (H' := H1) hle (I2.hok.fresh hle)
  exact f2
/-- the walk of a comprehension, a loop -/
theorem walk_perm {n : Nat} : L2.Walk (Itp n) (permsN n).length (fun _ => True) (fun i H x H' => ∃ (p : Addr) (ob : Obj) (l : List Nat), x = .ref p ∧ H p = none ∧ ob.cls = .type "tuple" ∧ ob.dict = none ∧ (permsN n)[i]? = some l ∧ H' = upd H p (.frz ob (.tup (permV l)))) where
  goes := fun i H h _ => h
  stops := fun H _ => Nat.le_refl _
  yields := fun i H x H' _ _ y => y
end B2

namespace B2
open PySem L2

/-! ### How many mates, and in which order: the mathematics -/
def rngL (lo : Int) (k : Nat) : List Int := (List.range k).map fun (j : Nat) => lo + (j : Int)
def sumL (f : Int → Int) : List Int → Int
  | [] => 0
  | x :: r => f x + sumL f r
theorem sumL_append (f : Int → Int) : ∀ a b : List Int, sumL f (a ++ b) = sumL f a + sumL f b
  | [], b => by show sumL f b = 0 + sumL f b; omega
  | x :: a, b => by
    show f x + sumL f (a ++ b) = f x + sumL f a + sumL f b
    rw [sumL_append f a b]
    omega
theorem sumL_congr {f h : Int → Int} : ∀ l : List Int, (∀ x ∈ l, f x = h x) → sumL f l = sumL h l
  | [], _ => rfl
  | x :: r, e => by
    show f x + sumL f r = h x + sumL h r
    rw [e x (List.mem_cons_self ..), sumL_congr r fun y hy => e y (List.mem_cons_of_mem _ hy)]
theorem sumL_if (p : Int → Bool) (f : Int → Int) : ∀ l : List Int, sumL (fun m => if p m = true then f m else 0) l = sumL f (l.filter p)
  | [] => rfl
  | x :: r => by
    have ih := sumL_if p f r
    show (if p x = true then f x else 0) + sumL _ r = _
    rw [ih, List.filter_cons]
    by_cases c : p x = true
    · rw [if_pos c, if_pos c]; rfl
    · rw [if_neg c, if_neg c]; omega

theorem rngL_succ (lo : Int) (k : Nat) : rngL lo (k + 1) = rngL lo k ++ [lo + (k : Int)] := by
  unfold rngL
  rw [List.range_succ, List.map_append]
  rfl
theorem rngL_cons (lo : Int) (k : Nat) : rngL lo (k + 1) = lo :: rngL (lo + 1) k := by
  unfold rngL
  rw [List.range_succ_eq_map, List.map_cons, List.map_map]
  congr 1
  · show lo + 0 = lo
    omega
  · apply List.map_congr_left
    intro j _
    show lo + ((j + 1 : Nat) : Int) = lo + 1 + (j : Int)
    omega
theorem rngL_mem {lo : Int} {k : Nat} {x : Int} (h : x ∈ rngL lo k) : lo ≤ x ∧ x < lo + (k : Int) := by
  unfold rngL at h
  obtain ⟨j, hj, rfl⟩ := List.mem_map.mp h
  have := List.mem_range.mp hj
  omega
theorem rngL_len (lo : Int) (k : Nat) : (rngL lo k).length = k := by
  unfold rngL
  rw [List.length_map, List.length_range]
theorem rngL_lt (lo : Int) (k : Nat) : (rngL lo k).Pairwise (· < ·) := by
  unfold rngL
  rw [List.pairwise_map]
  exact List.Pairwise.imp (fun {i j} (h : i < j) => by omega) List.pairwise_lt_range

/-- may g share with o -/
def mayJ (ws : List (List Int)) (ms : List (Option Int)) (g : Int) (o : Int) : Bool := suitsB ws g o && (mt ms o).isNone
theorem joins_is (ws : List (List Int)) (ms : List (Option Int)) (g : Nat) : ∀ t, joinsL ws ms g t = ((rngL ((g : Int) + 1) t).filter (mayJ ws ms (g : Int))).map fun o => joinL ms (g : Int) o
  | 0 => rfl
  | t + 1 => by
    rw [rngL_succ, List.filter_append, List.map_append, ← joins_is ws ms g t]
    have e : joinsL ws ms g (t + 1) = joinsL ws ms g t ++ (if (mt ms ((g : Int) + 1 + (t : Int)) = none ∧ suitsB ws (g : Int) ((g : Int) + 1 + (t : Int)) = true) then [joinL ms (g : Int) ((g : Int) + 1 + (t : Int))] else []) := rfl
    rw [e]
    congr 1
    rw [List.filter_cons]
    unfold mayJ
    by_cases c : mt ms ((g : Int) + 1 + (t : Int)) = none ∧ suitsB ws (g : Int) ((g : Int) + 1 + (t : Int)) = true
    · rw [if_pos c, c.1, c.2]
      rfl
    · rw [if_neg c, if_neg]
      · rfl
      · intro z
        rw [Bool.and_eq_true] at z
        exact c ⟨Option.isNone_iff_eq_none.mp z.2, z.1⟩

/-- all that comes of these mates by what the last k guests do -/
def procL (ws : List (List Int)) : Nat → List (Option Int) → List (List (Option Int))
  | 0, ms => [ms]
  | k + 1, ms => (settledL ws ms (ws.length - (k + 1))).flatMap (procL ws k)
theorem proc_stage (ws : List (List Int)) : ∀ k, k ≤ ws.length → (stageL ws (ws.length - k)).flatMap (procL ws k) = allTwos ws
  | 0, _ => by
    show (stageL ws ws.length).flatMap (fun ms => [ms]) = stageL ws ws.length
    induction stageL ws ws.length with
    | nil => rfl
    | cons a l ih => rw [List.flatMap_cons, ih]; rfl
  | k + 1, h => by
    rw [← proc_stage ws k (by omega)]
    have e : ws.length - k = (ws.length - (k + 1)) + 1 := by omega
    have e2 : stageL ws ((ws.length - (k + 1)) + 1) = (stageL ws (ws.length - (k + 1))).flatMap fun ms => settledL ws ms (ws.length - (k + 1)) := rfl
    rw [e, e2, List.flatMap_assoc]
    rfl
theorem all_proc (ws : List (List Int)) : allTwos ws = procL ws ws.length (List.replicate ws.length none) := by
  have h := proc_stage ws ws.length (Nat.le_refl _)
  rw [Nat.sub_self] at h
  have e : stageL ws 0 = [List.replicate ws.length none] := rfl
  rw [e, List.flatMap_cons, List.flatMap_nil, List.append_nil] at h
  exact h.symm

/-- how many mates there are of those in the list -/
def countL (ws : List (List Int)) : Nat → List Int → Int
  | 0, _ => 1
  | _ + 1, [] => 1
  | k + 1, x :: r => countL ws k r + sumL (fun m => if suitsB ws x m = true then countL ws k (r.filter fun y => decide (y ≠ m)) else 0) r
theorem count_fuel (ws : List (List Int)) : ∀ (k : Nat) (l : List Int), l.length ≤ k → countL ws (k + 1) l = countL ws k l
  | 0, [], _ => rfl
  | 0, _ :: _, h => by simp at h
  | k + 1, [], _ => rfl
  | k + 1, x :: r, h => by
    have hr : r.length ≤ k := Nat.le_of_succ_le_succ h
    show countL ws (k + 1) r + sumL (fun m => if suitsB ws x m = true then countL ws (k + 1) (r.filter fun y => decide (y ≠ m)) else 0) r =
      countL ws k r + sumL (fun m => if suitsB ws x m = true then countL ws k (r.filter fun y => decide (y ≠ m)) else 0) r
    rw [count_fuel ws k r hr]
    congr 1
    apply sumL_congr
    intro m _
    by_cases c : suitsB ws x m = true
    · rw [if_pos c, if_pos c, count_fuel ws k _ (Nat.le_trans (List.length_filter_le _ _) hr)]
    · rw [if_neg c, if_neg c]

def freeL (ms : List (Option Int)) (lo : Int) (k : Nat) : List Int := (rngL lo k).filter fun i => (mt ms i).isNone

theorem mt_join {ms : List (Option Int)} {g o i : Int} (g0 : 0 ≤ g) (g1 : g < (ms.length : Int)) (o0 : 0 ≤ o) (o1 : o < (ms.length : Int)) (i0 : 0 ≤ i) :
    mt (joinL ms g o) i = if i = o then some g else if i = g then some o else mt ms i := by
  unfold joinL
  rw [mt_set (by rw [List.length_set]; omega), mt_set (by omega)]
  by_cases c : i = o
  · rw [if_pos c, if_pos (by rw [c])]
  · rw [if_neg c, if_neg (by omega)]
    by_cases c2 : i = g
    · rw [if_pos c2, if_pos (by rw [c2])]
    · rw [if_neg c2, if_neg (by omega)]

theorem free_join {ms : List (Option Int)} {g : Nat} {o : Int} {k : Nat} (hk : g + 1 + k = ms.length) (ho : o ∈ rngL ((g : Int) + 1) k) :
    freeL (joinL ms (g : Int) o) ((g : Int) + 1) k = (freeL ms ((g : Int) + 1) k).filter fun y => decide (y ≠ o) := by
  unfold freeL
  rw [List.filter_filter]
  apply List.filter_congr
  intro x hx
  have hx' := rngL_mem hx
  have ho' := rngL_mem ho
  rw [mt_join (by omega) (by omega) (by omega) (by omega) (by omega)]
  by_cases c : x = o
  · rw [if_pos c, decide_eq_false (fun z => z c)]
    rfl
  · rw [if_neg c, if_neg (by omega), decide_eq_true c, Bool.true_and]

theorem join_len (ms : List (Option Int)) (g o : Int) : (joinL ms g o).length = ms.length := by
  unfold joinL
  rw [List.length_set, List.length_set]

theorem len_flat (f : List (Option Int) → List (List (Option Int))) : ∀ (l : List Int) (h : Int → List (Option Int)), (((l.map h).flatMap f).length : Int) = sumL (fun m => ((f (h m)).length : Int)) l
  | [], _ => rfl
  | x :: r, h => by
    rw [List.map_cons, List.flatMap_cons, List.length_append]
    have := len_flat f r h
    show (((f (h x)).length + ((r.map h).flatMap f).length : Nat) : Int) = ((f (h x)).length : Int) + sumL (fun m => ((f (h m)).length : Int)) r
    omega

/-- as many as are counted -/
theorem proc_count (ws : List (List Int)) : ∀ (k : Nat) (ms : List (Option Int)), k ≤ ws.length → ms.length = ws.length →
    ((procL ws k ms).length : Int) = countL ws k (freeL ms (((ws.length - k : Nat)) : Int) k)
  | 0, ms, _, _ => rfl
  | k + 1, ms, hk, hl => by
    have hg : ∃ g : Nat, ws.length - (k + 1) = g ∧ ws.length - k = g + 1 ∧ g + 1 + k = ws.length := ⟨ws.length - (k + 1), rfl, by omega, by omega⟩
    obtain ⟨g, eg, eg1, egk⟩ := hg
    have ih : ∀ ms : List (Option Int), ms.length = ws.length → ((procL ws k ms).length : Int) = countL ws k (freeL ms ((g : Int) + 1) k) := fun ms h => by
      have := proc_count ws k ms (by omega) h
      rw [eg1] at this
      exact this
    show ((((settledL ws ms (ws.length - (k + 1))).flatMap (procL ws k)).length : Nat) : Int) = _
    rw [eg]
    have ekg : ws.length - (g + 1) = k := by omega
    unfold settledL moreL
    rw [ekg, List.flatMap_cons, List.length_append]
    have ef : freeL ms ((g : Nat) : Int) (k + 1) = if mt ms (g : Int) = none then (g : Int) :: freeL ms ((g : Int) + 1) k else freeL ms ((g : Int) + 1) k := by
      unfold freeL
      rw [rngL_cons, List.filter_cons]
      by_cases c : mt ms (g : Int) = none
      · rw [if_pos c, c]; rfl
      · rw [if_neg c, if_neg (fun z => c (Option.isNone_iff_eq_none.mp z))]
    rw [ef]
    have h1 := ih ms hl
    have hfl : (freeL ms ((g : Int) + 1) k).length ≤ k := by
      unfold freeL
      exact Nat.le_trans (List.length_filter_le _ _) (by rw [rngL_len]; exact Nat.le_refl _)
    by_cases c : mt ms (g : Int) = none
    · rw [if_pos c, if_pos c, joins_is]
      have h2 := len_flat (procL ws k) ((rngL ((g : Int) + 1) k).filter (mayJ ws ms (g : Int))) (fun o => joinL ms (g : Int) o)
      show (((procL ws k ms).length + _ : Nat) : Int) = countL ws k (freeL ms ((g : Int) + 1) k) + sumL (fun m => if suitsB ws (g : Int) m = true then countL ws k ((freeL ms ((g : Int) + 1) k).filter fun y => decide (y ≠ m)) else 0) (freeL ms ((g : Int) + 1) k)
      rw [sumL_if]
      have e3 : (freeL ms ((g : Int) + 1) k).filter (suitsB ws (g : Int)) = (rngL ((g : Int) + 1) k).filter (mayJ ws ms (g : Int)) := by
        unfold freeL
        rw [List.filter_filter]
        rfl
      rw [e3]
      have e4 : sumL (fun m => ((procL ws k (joinL ms (g : Int) m)).length : Int)) ((rngL ((g : Int) + 1) k).filter (mayJ ws ms (g : Int))) =
          sumL (fun m => countL ws k ((freeL ms ((g : Int) + 1) k).filter fun y => decide (y ≠ m))) ((rngL ((g : Int) + 1) k).filter (mayJ ws ms (g : Int))) := by
        apply sumL_congr
        intro m hm
        have hm' := (List.mem_filter.mp hm).1
        rw [ih (joinL ms (g : Int) m) (by rw [join_len]; exact hl), free_join (by omega) hm']
      omega
    · rw [if_neg c, if_neg c, List.flatMap_nil, count_fuel ws k _ hfl]
      show (((procL ws k ms).length + 0 : Nat) : Int) = _
      omega

theorem all_count (ws : List (List Int)) : ((allTwos ws).length : Int) = countL ws ws.length (rngL 0 ws.length) := by
  rw [all_proc, proc_count ws ws.length _ (Nat.le_refl _) List.length_replicate, Nat.sub_self]
  congr 1
  unfold freeL
  apply List.filter_eq_self.mpr
  intro x _
  rw [mt_none]
  rfl

/-! the order -/
def keyO (o : Option Int) : Int := o.getD (-1)
/-- the first place at which they differ has less at a -/
def ltK (n : Nat) (a b : List (Option Int)) : Prop := ∃ i : Nat, i < n ∧ (∀ j : Nat, j < i → mt a (j : Int) = mt b (j : Int)) ∧ keyO (mt a (i : Int)) < keyO (mt b (i : Int))

theorem proc_order (ws : List (List Int)) : ∀ (k : Nat) (ms : List (Option Int)), k ≤ ws.length → ms.length = ws.length →
    (∀ m ∈ procL ws k ms, m.length = ws.length ∧ ∀ i : Nat, i < ws.length - k → mt m (i : Int) = mt ms (i : Int)) ∧ (procL ws k ms).Pairwise (ltK ws.length)
  | 0, ms, _, hl => by
    refine ⟨fun m h => ?_, List.pairwise_singleton _ _⟩
    have e : m = ms := List.mem_singleton.mp h
    rw [e]
    exact ⟨hl, fun i _ => rfl⟩
  | k + 1, ms, hk, hl => by
    obtain ⟨g, eg, eg1, egk⟩ : ∃ g : Nat, ws.length - (k + 1) = g ∧ ws.length - k = g + 1 ∧ g + 1 + k = ws.length := ⟨ws.length - (k + 1), rfl, by omega, by omega⟩
    have ih := fun m h => proc_order ws k m (by omega) h
    rw [eg1] at ih
    rw [eg]
    have eP : procL ws (k + 1) ms = (settledL ws ms g).flatMap (procL ws k) := by
      rw [← eg]
      rfl
    rw [eP]
    have ekg : ws.length - (g + 1) = k := by omega
    -- what a choice changes
    have hs : ∀ s ∈ settledL ws ms g, s.length = ws.length ∧ ∀ i : Nat, i < g → mt s (i : Int) = mt ms (i : Int) := by
      intro s h
      unfold settledL moreL at h
      rw [ekg] at h
      rcases List.mem_cons.mp h with h | h
      · rw [h]; exact ⟨hl, fun i _ => rfl⟩
      · split at h
        · rw [joins_is] at h
          obtain ⟨o, ho, rfl⟩ := List.mem_map.mp h
          have ho' := rngL_mem (List.mem_filter.mp ho).1
          refine ⟨by rw [join_len]; exact hl, fun i hi => ?_⟩
          rw [mt_join (by omega) (by omega) (by omega) (by omega) (by omega), if_neg (by omega), if_neg (by omega)]
        · cases h
    have hp : (settledL ws ms g).Pairwise fun s t => keyO (mt s (g : Int)) < keyO (mt t (g : Int)) := by
      unfold settledL moreL
      rw [ekg]
      refine List.pairwise_cons.mpr ⟨fun t ht => ?_, ?_⟩
      · split at ht
        · rename_i c
          rw [joins_is] at ht
          obtain ⟨o, ho, rfl⟩ := List.mem_map.mp ht
          have ho' := rngL_mem (List.mem_filter.mp ho).1
          rw [c, mt_join (by omega) (by omega) (by omega) (by omega) (by omega), if_neg (by omega), if_pos rfl]
          show (-1 : Int) < o
          omega
        · cases ht
      · split
        · rw [joins_is, List.pairwise_map]
          refine List.Pairwise.imp_of_mem (fun {a b} ha hb hab => ?_) ((rngL_lt ((g : Int) + 1) k).sublist List.filter_sublist)
          have ha' := rngL_mem (List.mem_filter.mp ha).1
          have hb' := rngL_mem (List.mem_filter.mp hb).1
          rw [mt_join (by omega) (by omega) (by omega) (by omega) (by omega), mt_join (by omega) (by omega) (by omega) (by omega) (by omega), if_neg (by omega), if_pos rfl, if_neg (by omega), if_pos rfl]
          exact hab
        · exact List.Pairwise.nil
    refine ⟨fun m h => ?_, ?_⟩
    · obtain ⟨s, hs1, hm⟩ := List.mem_flatMap.mp h
      obtain ⟨q1, q2⟩ := hs s hs1
      obtain ⟨p1, p2⟩ := (ih s q1).1 m hm
      exact ⟨p1, fun i hi => (p2 i (by omega)).trans (q2 i hi)⟩
    · rw [List.pairwise_flatMap]
      refine ⟨fun s h => (ih s (hs s h).1).2, List.Pairwise.imp_of_mem (fun {s t} h1 h2 hst => ?_) hp⟩
      intro x hx y hy
      obtain ⟨a1, a2⟩ := hs s h1
      obtain ⟨b1, b2⟩ := hs t h2
      obtain ⟨c1, c2⟩ := (ih s a1).1 x hx
      obtain ⟨d1, d2⟩ := (ih t b1).1 y hy
      refine ⟨g, by omega, fun j hj => ?_, ?_⟩
      · rw [c2 j (by omega), d2 j (by omega), a2 j hj, b2 j hj]
      · rw [c2 g (by omega), d2 g (by omega)]
        exact hst

theorem all_order (ws : List (List Int)) : (allTwos ws).Pairwise (ltK ws.length) := by
  rw [all_proc]
  exact (proc_order ws ws.length _ (Nat.le_refl _) List.length_replicate).2
end B2

namespace B2
open PySem L2

/-! ### All calm mates leave the same guests alone: the mathematics -/
theorem nodup_le : ∀ (n : Nat) (r : List Int), r.Nodup → (∀ x ∈ r, 0 ≤ x ∧ x < (n : Int)) → r.length ≤ n
  | 0, r, _, h => by
    cases r with
    | nil => exact Nat.le_refl _
    | cons x r =>
      have := h x (List.mem_cons_self ..)
      omega
  | n + 1, r, nd, h => by
    have h1 := nodup_le n (r.filter fun x => decide ¬((x == (n : Int)) = true)) (nd.sublist List.filter_sublist) (fun x hx => by
      obtain ⟨a, b⟩ := List.mem_filter.mp hx
      have := h x a
      have c : ¬ (x == (n : Int)) = true := of_decide_eq_true b
      have d : x ≠ (n : Int) := fun z => c (by rw [z]; exact beq_self_eq_true _)
      omega)
    have h2 := List.length_eq_countP_add_countP (fun x : Int => x == (n : Int)) (l := r)
    have h3 : r.countP (fun x : Int => x == (n : Int)) ≤ 1 := List.nodup_iff_count.mp nd (n : Int)
    rw [List.countP_eq_length_filter (p := fun a => decide ¬((a == (n : Int)) = true))] at h2
    omega

theorem wildIn_nil {ws : List (List Int)} {ms : List (Option Int)} {i : Nat} : ∀ {t : Nat}, wildIn ws ms i t = [] → ∀ k, k < t → wild ws ms (i : Int) ((i : Int) + 1 + (k : Int)) = false
  | 0, _, k, hk => by omega
  | t + 1, h, k, hk => by
    unfold wildIn at h
    rw [List.append_eq_nil_iff] at h
    by_cases c : k < t
    · exact wildIn_nil h.1 k c
    · have e : k = t := by omega
      subst e
      cases z : wild ws ms (i : Int) ((i : Int) + 1 + (k : Int)) with
      | false => rfl
      | true =>
        have h2 := h.2
        rw [z] at h2
        cases h2
theorem wildUp_nil {ws : List (List Int)} {ms : List (Option Int)} {n : Nat} : ∀ {k : Nat}, wildUp ws ms n k = [] → ∀ i, i < k → wildIn ws ms i (n - (i + 1)) = []
  | 0, _, i, hi => by omega
  | k + 1, h, i, hi => by
    unfold wildUp at h
    rw [List.append_eq_nil_iff] at h
    by_cases c : i < k
    · exact wildUp_nil h.1 i c
    · have e : i = k := by omega
      subst e
      exact h.2

/-- no two different guests would rather have each other -/
def Calm (ws : List (List Int)) (ms : List (Option Int)) : Prop := ∀ i j : Int, 0 ≤ i → i < (ws.length : Int) → 0 ≤ j → j < (ws.length : Int) → i ≠ j → wild ws ms i j = false
theorem wild_comm (ws : List (List Int)) (ms : List (Option Int)) (i j : Int) : wild ws ms i j = wild ws ms j i := Bool.and_comm _ _
theorem calm_of {ws : List (List Int)} {ms : List (Option Int)} (h : (wildAll ws ms).isEmpty = true) : Calm ws ms := by
  have h0 : wildUp ws ms ws.length ws.length = [] := List.isEmpty_iff.mp h
  have key : ∀ i j : Int, 0 ≤ i → i < j → j < (ws.length : Int) → wild ws ms i j = false := fun i j i0 ij j1 => by
    have h1 := wildUp_nil h0 i.toNat (by omega)
    have h2 := wildIn_nil h1 (j - i - 1).toNat (by omega)
    have e1 : ((i.toNat : Nat) : Int) = i := by omega
    have e2 : ((i.toNat : Nat) : Int) + 1 + (((j - i - 1).toNat : Nat) : Int) = j := by omega
    rw [e2, e1] at h2
    exact h2
  intro i j i0 i1 j0 j1 ne
  by_cases c : i < j
  · exact key i j i0 c j1
  · rw [wild_comm]
    exact key j i j0 (by omega) i1

theorem ahead_total {ws : List (List Int)} {g a b : Int} (ha : suitsB ws g a = true) (hb : suitsB ws g b = true) (ne : a ≠ b) (h : aheadB ws g (some a) (some b) = false) : aheadB ws g (some b) (some a) = true := by
  have e1 : aheadB ws g (some a) (some b) = if a = b then false else if suitsB ws g a = true then (if suitsB ws g b = true then decide ((rowOf ws g).idxOf a < (rowOf ws g).idxOf b) else true) else false := rfl
  have e2 : aheadB ws g (some b) (some a) = if b = a then false else if suitsB ws g b = true then (if suitsB ws g a = true then decide ((rowOf ws g).idxOf b < (rowOf ws g).idxOf a) else true) else false := rfl
  rw [e1, if_neg ne, if_pos ha, if_pos hb] at h
  rw [e2, if_neg (fun z => ne z.symm), if_pos hb, if_pos ha]
  have h' : ¬ (rowOf ws g).idxOf a < (rowOf ws g).idxOf b := of_decide_eq_false h
  apply decide_eq_true
  have h3 := (suitsB_mem ha).1
  have h4 := (suitsB_mem hb).1
  have h5 : (rowOf ws g).idxOf a ≠ (rowOf ws g).idxOf b := fun z => by
    have p1 := (index_at a (rowOf ws g) h3).1
    have p2 := (index_at b (rowOf ws g) h4).1
    rw [z, p2] at p1
    cases p1
    exact ne rfl
  omega

theorem ahead_same (ws : List (List Int)) (g : Int) (x : Option Int) : aheadB ws g x x = false := by
  cases x with
  | none => rfl
  | some a =>
    show (if a = a then false else _) = false
    rw [if_pos rfl]

section
variable {ws : List (List Int)} {M : Bool → List (Option Int)}

/-- where the walk stands: a guest who would rather have its mate by p than that by the other -/
structure On (ws : List (List Int)) (M : Bool → List (Option Int)) (s : Int × Bool) : Prop where
  lo : 0 ≤ s.1
  hi : s.1 < (ws.length : Int)
  is : ∃ u, mt (M s.2) s.1 = some u
  ra : aheadB ws s.1 (mt (M s.2) s.1) (mt (M (!s.2)) s.1) = true

def goOn (M : Bool → List (Option Int)) (s : Int × Bool) : Int × Bool := ((mt (M s.2) s.1).getD 0, !s.2)

theorem on_go (hG : Good ws) (hO : ∀ p, OkMates ws (M p)) (hC : ∀ p, Calm ws (M p)) {s : Int × Bool} (h : On ws M s) : On ws M (goOn M s) := by
  obtain ⟨v, p⟩ := s
  obtain ⟨v0, v1, ⟨u, hu⟩, ra⟩ := h
  simp only at v0 v1 hu ra
  obtain ⟨u0, u1, hv, su⟩ := (hO p).pr v u v0 v1 hu
  have su' : suitsB ws u v = true := by rw [suitsB_comm]; exact su
  have e : goOn M (v, p) = (u, !p) := by unfold goOn; simp only [hu]; rfl
  rw [e]
  have nvu : v ≠ u := fun z => by
    subst z
    rw [suitsB_self hG v0 v1] at su
    cases su
  have hw := hC (!p) v u v0 v1 u0 u1 nvu
  unfold wild at hw
  rw [hu] at ra
  rw [ra, Bool.true_and] at hw
  cases hq : mt (M (!p)) u with
  | none =>
    rw [hq] at hw
    have : aheadB ws u (some v) none = suitsB ws u v := rfl
    rw [this, su'] at hw
    cases hw
  | some w =>
    rw [hq] at hw
    obtain ⟨w0, w1, hwu, sw⟩ := (hO (!p)).pr u w u0 u1 hq
    have nwv : v ≠ w := fun z => by
      subst z
      rw [hwu] at ra
      rw [ahead_same] at ra
      cases ra
    refine ⟨u0, u1, ⟨w, hq⟩, ?_⟩
    show aheadB ws u (mt (M (!p)) u) (mt (M (!!p)) u) = true
    rw [Bool.not_not, hq, hv]
    exact ahead_total su' sw nwv hw

theorem go_inj (hO : ∀ p, OkMates ws (M p)) {s t : Int × Bool} (hs : On ws M s) (ht : On ws M t) (e : goOn M s = goOn M t) : s = t := by
  obtain ⟨v, p⟩ := s
  obtain ⟨v', p'⟩ := t
  obtain ⟨v0, v1, ⟨u, hu⟩, _⟩ := hs
  obtain ⟨w0, w1, ⟨u', hu'⟩, _⟩ := ht
  simp only at v0 v1 hu w0 w1 hu'
  unfold goOn at e
  simp only [hu, hu', Option.getD_some, Prod.mk.injEq] at e
  obtain ⟨e1, e2⟩ := e
  have e3 : p = p' := by cases p <;> cases p' <;> first | rfl | cases e2
  subst e3
  subst e1
  have a := ((hO p).pr v u v0 v1 hu).2.2.1
  have b := ((hO p).pr v' u w0 w1 hu').2.2.1
  rw [a] at b
  cases b
  rfl

def walkOn (M : Bool → List (Option Int)) (a : Int) : Nat → Int × Bool
  | 0 => (a, false)
  | k + 1 => goOn M (walkOn M a k)

theorem walk_on (hG : Good ws) (hO : ∀ p, OkMates ws (M p)) (hC : ∀ p, Calm ws (M p)) {a : Int} (h0 : On ws M (a, false)) : ∀ k, On ws M (walkOn M a k)
  | 0 => h0
  | k + 1 => on_go hG hO hC (walk_on hG hO hC h0 k)

theorem walk_new (hG : Good ws) (hO : ∀ p, OkMates ws (M p)) (hC : ∀ p, Calm ws (M p)) {a : Int} (h0 : On ws M (a, false)) (hn : mt (M true) a = none) : ∀ i k, walkOn M a i ≠ walkOn M a (i + (k + 1))
  | 0, k => by
    intro e
    rw [Nat.zero_add] at e
    obtain ⟨v0, v1, ⟨u, hu⟩, _⟩ := walk_on hG hO hC h0 k
    generalize hs : walkOn M a k = s at v0 v1 hu
    obtain ⟨v, p⟩ := s
    simp only at v0 v1 hu
    have e' : (a, false) = goOn M (v, p) := by
      have : walkOn M a (k + 1) = goOn M (walkOn M a k) := rfl
      rw [this, hs] at e
      exact e
    unfold goOn at e'
    simp only [hu, Option.getD_some, Prod.mk.injEq] at e'
    obtain ⟨e1, e2⟩ := e'
    have hp : p = true := by cases p <;> first | rfl | cases e2
    subst hp
    subst e1
    have := ((hO true).pr v a v0 v1 hu).2.2.1
    rw [hn] at this
    cases this
  | i + 1, k => by
    intro e
    have e1 : i + 1 + (k + 1) = (i + (k + 1)) + 1 := by omega
    rw [e1] at e
    exact walk_new hG hO hC h0 hn i k (go_inj hO (walk_on hG hO hC h0 i) (walk_on hG hO hC h0 _) e)

theorem no_walk (hG : Good ws) (hO : ∀ p, OkMates ws (M p)) (hC : ∀ p, Calm ws (M p)) {a : Int} (h0 : On ws M (a, false)) (hn : mt (M true) a = none) : False := by
  let f : Nat → Int := fun k => 2 * (walkOn M a k).1 + (if (walkOn M a k).2 = true then 1 else 0)
  have finj : ∀ i j, i < j → f i ≠ f j := fun i j hij e => by
    have ne := walk_new hG hO hC h0 hn i (j - i - 1)
    have ej : i + (j - i - 1 + 1) = j := by omega
    rw [ej] at ne
    apply ne
    have e' : 2 * (walkOn M a i).1 + (if (walkOn M a i).2 = true then 1 else 0) = 2 * (walkOn M a j).1 + (if (walkOn M a j).2 = true then 1 else 0) := e
    generalize walkOn M a i = s at e'
    generalize walkOn M a j = t at e'
    obtain ⟨v, p⟩ := s
    obtain ⟨v', p'⟩ := t
    simp only at e'
    cases p <;> cases p' <;> simp at e' ⊢ <;> omega
  have nd : ((List.range (2 * ws.length + 1)).map f).Nodup := by
    unfold List.Nodup
    rw [List.pairwise_map]
    exact List.Pairwise.imp (fun {i j} h => finj i j h) List.pairwise_lt_range
  have := nodup_le (2 * ws.length) _ nd (fun x hx => by
    obtain ⟨k, _, rfl⟩ := List.mem_map.mp hx
    obtain ⟨v0, v1, _, _⟩ := walk_on hG hO hC h0 k
    show 0 ≤ 2 * (walkOn M a k).1 + _ ∧ 2 * (walkOn M a k).1 + _ < _
    split <;> omega)
  rw [List.length_map, List.length_range] at this
  omega
end

theorem alone_half {ws : List (List Int)} (hG : Good ws) {m1 m2 : List (Option Int)} (o1 : OkMates ws m1) (o2 : OkMates ws m2) (c1 : Calm ws m1) (c2 : Calm ws m2) {a : Int} (a0 : 0 ≤ a) (a1 : a < (ws.length : Int))
    (h : mt m2 a = none) : mt m1 a = none := by
  cases e : mt m1 a with
  | none => rfl
  | some b =>
    exfalso
    have hsu := (o1.pr a b a0 a1 e).2.2.2
    let M : Bool → List (Option Int) := fun p => if p = true then m2 else m1
    have hO : ∀ p, OkMates ws (M p) := fun p => by cases p; exact o1; exact o2
    have hC : ∀ p, Calm ws (M p) := fun p => by cases p; exact c1; exact c2
    refine no_walk (M := M) hG hO hC (a := a) ⟨a0, a1, ⟨b, e⟩, ?_⟩ h
    show aheadB ws a (mt m1 a) (mt m2 a) = true
    rw [e, h]
    exact hsu
/-- all calm mates leave the same guests alone -/
theorem same_alone {ws : List (List Int)} (hG : Good ws) {m1 m2 : List (Option Int)} (o1 : OkMates ws m1) (o2 : OkMates ws m2) (c1 : Calm ws m1) (c2 : Calm ws m2) {a : Int} (a0 : 0 ≤ a) (a1 : a < (ws.length : Int)) :
    (mt m1 a).isNone = (mt m2 a).isNone := by
  cases e1 : mt m1 a with
  | none => rw [alone_half hG o2 o1 c2 c1 a0 a1 e1]
  | some b =>
    cases e2 : mt m2 a with
    | none =>
      have := alone_half hG o1 o2 c1 c2 a0 a1 e2
      rw [e1] at this
      cases this
    | some c => rfl
end B2

/-! # For every table there are parties that hold: the mathematics, by itself -/
namespace Tan

/-- guests 0 .. n-1: who is good for whom (each for itself), how far down a list -/
structure Pref (n : Nat) where
  ok : Nat → Nat → Prop
  rk : Nat → Nat → Nat
  refl : ∀ a, ok a a
  symm : ∀ a b, ok a b → ok b a
  inj : ∀ a b c, ok a b → ok a c → rk a b = rk a c → b = c
  last : ∀ a b, ok a b → b ≠ a → rk a b < rk a a
  top : Nat
  le : ∀ a b, rk a b ≤ top

theorem least {α : Type} (g : α → Nat) (P : α → Prop) (h : ∃ x, P x) : ∃ x, P x ∧ ∀ y, P y → g x ≤ g y := by
  obtain ⟨x, hx⟩ := h
  have key : ∀ k, ∀ x, g x ≤ k → P x → ∃ x, P x ∧ ∀ y, P y → g x ≤ g y := by
    intro k
    induction k with
    | zero => exact fun x hk hx => ⟨x, hx, fun y _ => by omega⟩
    | succ k ih =>
      intro x hk hx
      by_cases c : ∃ y, P y ∧ g y ≤ k
      · obtain ⟨y, hy, hyk⟩ := c
        exact ih y hyk hy
      · refine ⟨x, hx, fun y hy => ?_⟩
        have : ¬ g y ≤ k := fun z => c ⟨y, hy, z⟩
        omega
  exact key (g x) x (Nat.le_refl _) hx

def tot (n : Nat) (g : Nat → Nat) : Nat := ((List.range n).map g).sum
theorem sum_le {g h : Nat → Nat} : ∀ l : List Nat, (∀ x ∈ l, g x ≤ h x) → (l.map g).sum ≤ (l.map h).sum
  | [], _ => Nat.le_refl _
  | x :: l, e => by
    rw [List.map_cons, List.map_cons, List.sum_cons, List.sum_cons]
    exact Nat.add_le_add (e x (List.mem_cons_self ..)) (sum_le l fun y hy => e y (List.mem_cons_of_mem _ hy))
theorem sum_lt {g h : Nat → Nat} : ∀ l : List Nat, (∀ x ∈ l, g x ≤ h x) → (∃ x ∈ l, g x < h x) → (l.map g).sum < (l.map h).sum
  | [], _, ⟨_, hx, _⟩ => by cases hx
  | x :: l, e, ⟨y, hy, hyl⟩ => by
    rw [List.map_cons, List.map_cons, List.sum_cons, List.sum_cons]
    have e1 := e x (List.mem_cons_self ..)
    have e2 : ∀ z ∈ l, g z ≤ h z := fun z hz => e z (List.mem_cons_of_mem _ hz)
    rcases List.mem_cons.mp hy with c | c
    · subst c
      have := sum_le l e2
      omega
    · have := sum_lt l e2 ⟨y, c, hyl⟩
      omega
theorem tot_lt {n : Nat} {g h : Nat → Nat} (e : ∀ x, x < n → g x ≤ h x) (y : Nat) (hy : y < n) (hl : g y < h y) : tot n g < tot n h :=
  sum_lt _ (fun x hx => e x (List.mem_range.mp hx)) ⟨y, List.mem_range.mpr hy, hl⟩
theorem tot_le {n k : Nat} {g : Nat → Nat} (e : ∀ x, x < n → g x ≤ k) : tot n g ≤ n * k := by
  have h := sum_le (g := g) (h := fun _ => k) (List.range n) (fun x hx => e x (List.mem_range.mp hx))
  have e2 : ((List.range n).map fun _ => k).sum = n * k := by
    have : ∀ l : List Nat, (l.map fun _ => k).sum = l.length * k := by
      intro l
      induction l with
      | nil => simp
      | cons a l ih => rw [List.map_cons, List.sum_cons, ih, List.length_cons, Nat.succ_mul]; omega
    rw [this, List.length_range]
  rw [e2] at h
  exact h

/-- numbers below n, no two alike, are at most n -/
theorem few (n : Nat) (l : List Nat) (nd : l.Nodup) (h : ∀ x ∈ l, x < n) : l.length ≤ n := by
  have key : ∀ (n : Nat) (l : List Nat), l.Nodup → (∀ x ∈ l, x < n) → l.length ≤ n := by
    intro n
    induction n with
    | zero =>
      intro l _ h
      cases l with
      | nil => exact Nat.le_refl _
      | cons x l => exact absurd (h x (List.mem_cons_self ..)) (Nat.not_lt_zero _)
    | succ n ih =>
      intro l nd h
      have h1 := ih (l.filter fun x => decide ¬((x == n) = true)) (nd.sublist List.filter_sublist) (fun x hx => by
        obtain ⟨a, b⟩ := List.mem_filter.mp hx
        have := h x a
        have c : ¬ (x == n) = true := of_decide_eq_true b
        have d : x ≠ n := fun z => c (by rw [z]; exact beq_self_eq_true _)
        omega)
      have h2 := List.length_eq_countP_add_countP (fun x : Nat => x == n) (l := l)
      have h3 : l.countP (fun x : Nat => x == n) ≤ 1 := List.nodup_iff_count.mp nd n
      rw [List.countP_eq_length_filter (p := fun a => decide ¬((a == n) = true))] at h2
      omega
  exact key n l nd h

/-- a walk among n comes back to where it was -/
theorem comes_back {n : Nat} (o : Nat → Nat) (h : ∀ k, o k < n) : ∃ i j, i < j ∧ o i = o j := by
  refine Classical.byContradiction fun c => ?_
  have inj : ∀ i j, i < j → o i ≠ o j := fun i j hij e => c ⟨i, j, hij, e⟩
  have nd : ((List.range (n + 1)).map o).Nodup := by
    unfold List.Nodup
    rw [List.pairwise_map]
    exact List.Pairwise.imp (fun {i j} h => inj i j h) List.pairwise_lt_range
  have := few n _ nd (fun x hx => by
    obtain ⟨k, _, rfl⟩ := List.mem_map.mp hx
    exact h k)
  rw [List.length_map, List.length_range] at this
  omega

section
variable {n : Nat} (p : Pref n)

/-! ## The first part: each asks down its list -/
structure Ask (f : Nat → Nat) : Prop where
  lt : ∀ a, a < n → f a < n
  ok : ∀ a, a < n → p.ok a (f a)
  no : ∀ a b, a < n → b < n → p.ok a b → p.rk a b < p.rk a (f a) → ∃ y, y < n ∧ f y = b ∧ p.rk b y < p.rk b a
  up : ∀ c, c < n → p.rk (f c) (f (f c)) ≤ p.rk (f c) c

theorem ask_start : ∃ f, Ask p f := by
  have h : ∀ a, ∃ b, (a < n → b < n ∧ p.ok a b ∧ ∀ c, c < n → p.ok a c → p.rk a b ≤ p.rk a c) := by
    intro a
    by_cases ha : a < n
    · obtain ⟨b, ⟨b1, b2⟩, b3⟩ := least (p.rk a) (fun b => b < n ∧ p.ok a b) ⟨a, ha, p.refl a⟩
      exact ⟨b, fun _ => ⟨b1, b2, fun c h1 h2 => b3 c ⟨h1, h2⟩⟩⟩
    · exact ⟨0, fun z => absurd z ha⟩
  let f : Nat → Nat := fun a => Classical.choose (h a)
  have hf : ∀ a, a < n → f a < n ∧ p.ok a (f a) ∧ ∀ c, c < n → p.ok a c → p.rk a (f a) ≤ p.rk a c := fun a => Classical.choose_spec (h a)
  refine ⟨f, fun a ha => (hf a ha).1, fun a ha => (hf a ha).2.1, fun a b ha hb hok hr => ?_, fun c hc => ?_⟩
  · have := (hf a ha).2.2 b hb hok
    omega
  · exact (hf (f c) (hf c hc).1).2.2 c hc (p.symm _ _ (hf c hc).2.1)

/-- two who ask the same: the worse one goes on -/
theorem ask_step {f : Nat → Nat} (A : Ask p f) {c d : Nat} (hc : c < n) (hd : d < n) (e : f c = f d) (hr : p.rk (f d) c < p.rk (f d) d) :
    ∃ f', Ask p f' ∧ tot n (fun a => p.rk a (f a)) < tot n (fun a => p.rk a (f' a)) := by
  generalize hb : f d = b at e hr
  have hbn : b < n := by rw [← hb]; exact A.lt d hd
  have okd : p.ok d b := by rw [← hb]; exact A.ok d hd
  have okc : p.ok c b := by rw [← e]; exact A.ok c hc
  have upc := A.up c hc
  rw [e] at upc
  have upd := A.up d hd
  rw [hb] at upd
  -- neither is b
  have ndb : d ≠ b := fun z => by
    have e1 : f b = b := by rw [← z]; rw [hb, z]
    rw [e1] at upc
    have ncb : c ≠ b := fun z2 => by rw [z2, z] at hr; exact Nat.lt_irrefl _ hr
    have := p.last b c (p.symm _ _ okc) ncb
    omega
  obtain ⟨b', ⟨b1, b2, b3⟩, b4⟩ := least (p.rk d) (fun x => x < n ∧ p.ok d x ∧ p.rk d b < p.rk d x) ⟨d, hd, p.refl d, p.last d b okd (fun z => ndb z.symm)⟩
  -- b does not ask d
  have nbd : ∀ y, y < n → f y = d → y ≠ b := fun y hy ey z => by
    subst z
    have := upc
    rw [ey] at this
    omega
  have lower : ∀ y, y < n → p.ok d y → p.rk d y < p.rk d b' → p.rk d y ≤ p.rk d b := fun y hy oky h => by
    refine Classical.byContradiction fun z => ?_
    have := b4 y ⟨hy, oky, by omega⟩
    omega
  have up' : ∀ y, y < n → f y = d → p.rk d b' ≤ p.rk d y := fun y hy ey => by
    have h1 := A.up y hy
    rw [ey, hb] at h1
    have oky : p.ok d y := p.symm _ _ (by rw [← ey]; exact A.ok y hy)
    have h2 : p.rk d b ≠ p.rk d y := fun z => nbd y hy ey (p.inj d y b oky okd z.symm)
    exact b4 y ⟨hy, oky, by omega⟩
  let f' : Nat → Nat := fun a => if a = d then b' else f a
  have fd : f' d = b' := if_pos rfl
  have fo : ∀ a, a ≠ d → f' a = f a := fun a h => if_neg h
  refine ⟨f', ⟨fun a ha => ?_, fun a ha => ?_, fun a x ha hx hok h => ?_, fun y hy => ?_⟩, ?_⟩
  · by_cases z : a = d
    · rw [z, fd]; exact b1
    · rw [fo a z]; exact A.lt a ha
  · by_cases z : a = d
    · rw [z, fd]; exact b2
    · rw [fo a z]; exact A.ok a ha
  · -- who said no has a better one
    have old : p.rk a x < p.rk a (f a) → ∃ y, y < n ∧ f' y = x ∧ p.rk x y < p.rk x a := fun h => by
      obtain ⟨y, y1, y2, y3⟩ := A.no a x ha hx hok h
      by_cases z : y = d
      · subst z
        rw [hb] at y2
        subst y2
        have ncd : c ≠ y := fun z => by rw [z] at hr; exact Nat.lt_irrefl _ hr
        exact ⟨c, hc, by rw [fo c ncd]; exact e, by omega⟩
      · exact ⟨y, y1, by rw [fo y z]; exact y2, y3⟩
    by_cases z : a = d
    · subst z
      rw [fd] at h
      by_cases z2 : p.rk a x < p.rk a (f a)
      · exact old z2
      · rw [hb] at z2
        have h1 := lower x hx hok h
        have e2 : x = b := p.inj a x b hok okd (by omega)
        subst e2
        have ncd : c ≠ a := fun z => by rw [z] at hr; exact Nat.lt_irrefl _ hr
        exact ⟨c, hc, by rw [fo c ncd]; exact e, hr⟩
    · rw [fo a z] at h
      exact old h
  · -- nobody is asked by a better one than it asks
    by_cases z : y = d
    · subst z
      rw [fd]
      by_cases z2 : b' = y
      · rw [z2, fd, z2]; exact Nat.le_refl _
      · rw [fo b' z2]
        refine Classical.byContradiction fun z3 => ?_
        obtain ⟨u, u1, u2, u3⟩ := A.no b' y b1 hd (p.symm _ _ b2) (by omega)
        have := up' u u1 u2
        omega
    · rw [fo y z]
      by_cases z2 : f y = d
      · rw [z2, fd]
        exact up' y hy z2
      · rw [fo _ z2]
        exact A.up y hy
  · refine tot_lt (fun x hx => ?_) d hd ?_
    · show p.rk x (f x) ≤ p.rk x (f' x)
      by_cases z : x = d
      · subst z; rw [fd, hb]; omega
      · rw [fo x z]; exact Nat.le_refl _
    · show p.rk d (f d) < p.rk d (f' d)
      rw [fd, hb]
      exact b3

theorem ask_end : ∃ f, Ask p f ∧ ∀ c d, c < n → d < n → f c = f d → c = d := by
  have key : ∀ k f, Ask p f → n * p.top ≤ tot n (fun a => p.rk a (f a)) + k → ∃ f, Ask p f ∧ ∀ c d, c < n → d < n → f c = f d → c = d := by
    intro k
    induction k with
    | zero =>
      intro f A h
      refine ⟨f, A, fun c d hc hd e => Classical.byContradiction fun ne => ?_⟩
      have go : ∀ c d, c < n → d < n → f c = f d → p.rk (f d) c < p.rk (f d) d → False := fun c d hc hd e hr => by
        obtain ⟨f', _, h2⟩ := ask_step p A hc hd e hr
        have := tot_le (n := n) (k := p.top) (g := fun a => p.rk a (f' a)) (fun x _ => p.le _ _)
        omega
      have okc : p.ok (f d) c := p.symm _ _ (by rw [← e]; exact A.ok c hc)
      have okd : p.ok (f d) d := p.symm _ _ (A.ok d hd)
      rcases Nat.lt_trichotomy (p.rk (f d) c) (p.rk (f d) d) with h1 | h1 | h1
      · exact go c d hc hd e h1
      · exact ne (p.inj _ _ _ okc okd h1)
      · exact go d c hd hc e.symm (by rw [e]; exact h1)
    | succ k ih =>
      intro f A h
      by_cases z : ∀ c d, c < n → d < n → f c = f d → c = d
      · exact ⟨f, A, z⟩
      · have ⟨c, d, hc, hd, e, ne⟩ : ∃ c d, c < n ∧ d < n ∧ f c = f d ∧ c ≠ d := by
          refine Classical.byContradiction fun z2 => z fun c d hc hd e => Classical.byContradiction fun ne => z2 ⟨c, d, hc, hd, e, ne⟩
        have go : ∀ c d, c < n → d < n → f c = f d → p.rk (f d) c < p.rk (f d) d → ∃ f, Ask p f ∧ ∀ c d, c < n → d < n → f c = f d → c = d := fun c d hc hd e hr => by
          obtain ⟨f', A', h2⟩ := ask_step p A hc hd e hr
          exact ih f' A' (by omega)
        have okc : p.ok (f d) c := p.symm _ _ (by rw [← e]; exact A.ok c hc)
        have okd : p.ok (f d) d := p.symm _ _ (A.ok d hd)
        rcases Nat.lt_trichotomy (p.rk (f d) c) (p.rk (f d) d) with h1 | h1 | h1
        · exact go c d hc hd e h1
        · exact absurd (p.inj _ _ _ okc okd h1) ne
        · exact go d c hd hc e.symm (by rw [e]; exact h1)
  obtain ⟨f, A⟩ := ask_start p
  exact key (n * p.top) f A (by omega)

/-! ## The second part: rings are turned -/
structure Val (f l : Nat → Nat) : Prop where
  fn : ∀ a, a < n → f a < n
  ln : ∀ a, a < n → l a < n
  lf : ∀ a, a < n → l (f a) = a
  fl : ∀ a, a < n → f (l a) = a
  ok : ∀ a, a < n → p.ok a (f a)
  up : ∀ a, a < n → p.rk a (f a) ≤ p.rk a (l a)
  no : ∀ a b, a < n → b < n → p.ok a b → p.rk a b < p.rk a (f a) → p.rk b (l b) < p.rk b a

theorem Val.okl {f l : Nat → Nat} (V : Val p f l) {a : Nat} (ha : a < n) : p.ok a (l a) := by
  have := V.ok (l a) (V.ln a ha)
  rw [V.fl a ha] at this
  exact p.symm _ _ this

theorem onto {f : Nat → Nat} (h : ∀ a, a < n → f a < n) (inj : ∀ c d, c < n → d < n → f c = f d → c = d) (b : Nat) (hb : b < n) : ∃ a, a < n ∧ f a = b := by
  refine Classical.byContradiction fun z => ?_
  have nd : (b :: (List.range n).map f).Nodup := by
    refine List.nodup_cons.mpr ⟨fun hm => ?_, ?_⟩
    · obtain ⟨a, ha, e⟩ := List.mem_map.mp hm
      exact z ⟨a, List.mem_range.mp ha, e⟩
    · unfold List.Nodup
      rw [List.pairwise_map]
      refine List.Pairwise.imp_of_mem (fun {i j} hi hj hij e => ?_) (List.pairwise_lt_range (n := n))
      have := inj i j (List.mem_range.mp hi) (List.mem_range.mp hj) e
      omega
  have := few n _ nd (fun x hx => by
    rcases List.mem_cons.mp hx with e | hm
    · rw [e]; exact hb
    · obtain ⟨a, ha, e⟩ := List.mem_map.mp hm
      rw [← e]
      exact h a (List.mem_range.mp ha))
  rw [List.length_cons, List.length_map, List.length_range] at this
  omega

theorem val_start : ∃ f l, Val p f l := by
  obtain ⟨f, A, inj⟩ := ask_end p
  have h : ∀ b, ∃ a, (b < n → a < n ∧ f a = b) := fun b => by
    by_cases hb : b < n
    · obtain ⟨a, h1, h2⟩ := onto A.lt inj b hb
      exact ⟨a, fun _ => ⟨h1, h2⟩⟩
    · exact ⟨0, fun z => absurd z hb⟩
  let l : Nat → Nat := fun b => Classical.choose (h b)
  have hl : ∀ b, b < n → l b < n ∧ f (l b) = b := fun b => Classical.choose_spec (h b)
  have lf : ∀ a, a < n → l (f a) = a := fun a ha => inj _ _ (hl (f a) (A.lt a ha)).1 ha (hl (f a) (A.lt a ha)).2
  refine ⟨f, l, A.lt, fun a ha => (hl a ha).1, lf, fun a ha => (hl a ha).2, A.ok, fun a ha => ?_, fun a b ha hb hok hr => ?_⟩
  · have := A.up (l a) (hl a ha).1
    rw [(hl a ha).2] at this
    exact this
  · obtain ⟨y, y1, y2, y3⟩ := A.no a b ha hb hok hr
    have e : l b = y := by rw [← y2]; exact lf y y1
    rw [e]
    exact y3

/-- no two would rather have each other than the ones ahead of them -/
def Firm (l : Nat → Nat) : Prop := ∀ a b, a < n → b < n → a ≠ b → p.ok a b → ¬ (p.rk a b < p.rk a (l a) ∧ p.rk b a < p.rk b (l b))

/-- a next one: behind the first, and it would take a -/
def Sec (f l : Nat → Nat) (a b : Nat) : Prop := b < n ∧ p.ok a b ∧ p.rk a (f a) < p.rk a b ∧ p.rk b a < p.rk b (l b)

section
variable {p} {f l : Nat → Nat} (V : Val p f l)
include V

theorem sec_last {a : Nat} (ha : a < n) (h : f a ≠ l a) : Sec p f l a (l a) := by
  have u1 := V.up a ha
  have okl := V.okl p ha
  have n1 : p.rk a (f a) ≠ p.rk a (l a) := fun z => h (p.inj _ _ _ (V.ok a ha) okl z)
  refine ⟨V.ln a ha, okl, by omega, ?_⟩
  have u2 := V.up (l a) (V.ln a ha)
  rw [V.fl a ha] at u2
  have okll := V.okl p (V.ln a ha)
  have n2 : p.rk (l a) a ≠ p.rk (l a) (l (l a)) := fun z => by
    have e := p.inj _ _ _ (p.symm _ _ okl) okll z
    -- a = l (l a): then f a = l a
    have e2 : f a = l a := by
      have := V.fl (l a) (V.ln a ha)
      rw [← e] at this
      exact this
    exact h e2
  omega

theorem pick_sec : ∃ s : Nat → Nat, ∀ a, a < n → f a ≠ l a → Sec p f l a (s a) ∧ ∀ b, Sec p f l a b → p.rk a (s a) ≤ p.rk a b := by
  have h : ∀ a, ∃ b, (a < n → f a ≠ l a → Sec p f l a b ∧ ∀ c, Sec p f l a c → p.rk a b ≤ p.rk a c) := fun a => by
    by_cases ha : a < n
    · by_cases hn : f a = l a
      · exact ⟨0, fun _ z => absurd hn z⟩
      · obtain ⟨b, b1, b2⟩ := least (p.rk a) (Sec p f l a) ⟨l a, sec_last V ha hn⟩
        exact ⟨b, fun _ _ => ⟨b1, b2⟩⟩
    · exact ⟨0, fun z => absurd z ha⟩
  exact ⟨fun a => Classical.choose (h a), fun a => Classical.choose_spec (h a)⟩

variable {s : Nat → Nat} (S : ∀ a, a < n → f a ≠ l a → Sec p f l a (s a) ∧ ∀ b, Sec p f l a b → p.rk a (s a) ≤ p.rk a b)
include S

/-- a walk goes on -/
theorem nx_on {a : Nat} (ha : a < n) (h : f a ≠ l a) : l (s a) < n ∧ f (l (s a)) ≠ l (l (s a)) := by
  obtain ⟨⟨sn, sok, sr, sl⟩, smin⟩ := S a ha h
  have hsl := smin _ (sec_last V ha h)
  refine ⟨V.ln _ sn, fun e => ?_⟩
  rw [V.fl _ sn] at e
  -- s a = l (l (s a)), so f (s a) = l (s a)
  have e2 : f (s a) = l (s a) := by
    have := V.fl (l (s a)) (V.ln _ sn)
    rw [← e] at this
    exact this
  have := V.no (s a) a sn ha (p.symm _ _ sok) (by rw [e2]; exact sl)
  omega

/-- a1 asked by y, and a1's last is its second: then y is its first -/
theorem is_first {x y : Nat} (hx : x < n) (hy : y < n) (tx : f x ≠ l x) (ty : f y ≠ l y) (ex : s x = l x) (ey : s y = x) : y = f x := by
  obtain ⟨⟨sn, sok, sr, sl⟩, smin⟩ := S y hy ty
  rw [ey] at sn sok sr sl smin
  have hyl := smin _ (sec_last V hy ty)
  obtain ⟨_, xmin⟩ := S x hx tx
  by_cases c : p.rk y x = p.rk y (l y)
  · have e := p.inj _ _ _ sok (V.okl p hy) c
    rw [e, V.fl y hy]
  · refine Classical.byContradiction fun ne => ?_
    have h1 : p.rk x (f x) ≠ p.rk x y := fun z => ne (p.inj _ _ _ (p.symm _ _ sok) (V.ok x hx) z.symm)
    by_cases h2 : p.rk x y < p.rk x (f x)
    · have := V.no x y hx hy (p.symm _ _ sok) h2
      omega
    · have := xmin y ⟨hy, p.symm _ _ sok, by omega, by omega⟩
      rw [ex] at this
      omega


/-- what a set of guests that a walk goes round has -/
structure Loop (f l s : Nat → Nat) (A : Nat → Prop) : Prop where
  lt : ∀ x, A x → x < n
  two : ∀ x, A x → f x ≠ l x
  nx : ∀ x, A x → A (l (s x))
  back : ∀ x, A x → ∃ z, A z ∧ l (s z) = x
  one : ∀ x y, A x → A y → l (s x) = l (s y) → x = y

/-- a ring is turned: all of A have their second, unless one of them has nothing else -/
theorem turn_ring {A : Nat → Prop} (L : Loop (n := n) f l s A) (x0 : Nat) (hx0 : A x0) (nodeg : ∀ x, A x → s x = l x → ¬ A (l x)) :
    ∃ f' l', Val p f' l' ∧ tot n (fun a => p.rk a (f a)) < tot n (fun a => p.rk a (f' a)) := by
  classical
  have hs : ∀ x, A x → Sec p f l x (s x) := fun x hx => (S x (L.lt x hx) (L.two x hx)).1
  have hmin : ∀ x, A x → ∀ b, Sec p f l x b → p.rk x (s x) ≤ p.rk x b := fun x hx => (S x (L.lt x hx) (L.two x hx)).2
  have hsl : ∀ x, A x → p.rk x (s x) ≤ p.rk x (l x) := fun x hx => hmin x hx _ (sec_last V (L.lt x hx) (L.two x hx))
  have sinj : ∀ x y, A x → A y → s x = s y → x = y := fun x y hx hy e => L.one x y hx hy (by rw [e])
  have fB : ∀ x, A x → ∃ z, A z ∧ s z = f x := fun x hx => by
    obtain ⟨z, hz, e⟩ := L.back x hx
    refine ⟨z, hz, ?_⟩
    rw [← e]
    exact (V.fl _ (hs z hz).1).symm
  let f' : Nat → Nat := fun x => if A x then s x else f x
  let B : Nat → Prop := fun y => ∃ x, A x ∧ s x = y
  let l' : Nat → Nat := fun y => if h : B y then Classical.choose h else l y
  have fA : ∀ x, A x → f' x = s x := fun x h => if_pos h
  have fN : ∀ x, ¬ A x → f' x = f x := fun x h => if_neg h
  have lB : ∀ x, A x → l' (s x) = x := fun x hx => by
    have hB : B (s x) := ⟨x, hx, rfl⟩
    have e : l' (s x) = Classical.choose hB := dif_pos hB
    have q := Classical.choose_spec hB
    rw [e]
    exact sinj _ _ q.1 hx q.2
  have lN : ∀ y, ¬ B y → l' y = l y := fun y h => dif_neg h
  have lmore : ∀ b, p.rk b (l' b) ≤ p.rk b (l b) := fun b => by
    by_cases h : B b
    · obtain ⟨x, hx, e⟩ := h
      subst e
      rw [lB x hx]
      exact Nat.le_of_lt (hs x hx).2.2.2
    · rw [lN b h]; exact Nat.le_refl _
  refine ⟨f', l', ⟨fun a ha => ?_, fun a ha => ?_, fun a ha => ?_, fun a ha => ?_, fun a ha => ?_, fun a ha => ?_, fun a b ha hb hok hr => ?_⟩, ?_⟩
  · by_cases h : A a
    · rw [fA a h]; exact (hs a h).1
    · rw [fN a h]; exact V.fn a ha
  · by_cases h : B a
    · obtain ⟨x, hx, e⟩ := h
      subst e
      rw [lB x hx]; exact L.lt x hx
    · rw [lN a h]; exact V.ln a ha
  · by_cases h : A a
    · rw [fA a h]; exact lB a h
    · rw [fN a h, lN]
      · exact V.lf a ha
      · rintro ⟨x, hx, e⟩
        have := L.nx x hx
        rw [e, V.lf a ha] at this
        exact h this
  · by_cases h : B a
    · obtain ⟨x, hx, e⟩ := h
      subst e
      rw [lB x hx]; exact fA x hx
    · rw [lN a h, fN]
      · exact V.fl a ha
      · intro hA
        obtain ⟨z, hz, e⟩ := fB (l a) hA
        rw [V.fl a ha] at e
        exact h ⟨z, hz, e⟩
  · by_cases h : A a
    · rw [fA a h]; exact (hs a h).2.1
    · rw [fN a h]; exact V.ok a ha
  · by_cases h : B a
    · obtain ⟨x, hx, e⟩ := h
      subst e
      rw [lB x hx]
      obtain ⟨sn, sok, sr, sl⟩ := hs x hx
      have hxl := hsl x hx
      by_cases hA : A (s x)
      · rw [fA _ hA]
        have h1 : p.rk x (s x) ≠ p.rk x (l x) := fun z => by
          have e := p.inj _ _ _ sok (V.okl p (L.lt x hx)) z
          exact nodeg x hx e (by rw [← e]; exact hA)
        refine hmin _ hA x ⟨L.lt x hx, p.symm _ _ sok, ?_, by omega⟩
        refine Classical.byContradiction fun z => ?_
        by_cases c : p.rk (s x) x = p.rk (s x) (f (s x))
        · have e := p.inj _ _ _ (p.symm _ _ sok) (V.ok _ sn) c
          -- x = f (s x): then l x = s x
          have e2 : l x = s x := by
            have := V.lf (s x) sn
            rw [← e] at this
            exact this
          exact h1 (by rw [e2])
        · have := V.no (s x) x sn (L.lt x hx) (p.symm _ _ sok) (by omega)
          omega
      · rw [fN _ hA]
        refine Classical.byContradiction fun z => ?_
        have := V.no (s x) x sn (L.lt x hx) (p.symm _ _ sok) (by omega)
        omega
    · rw [lN a h]
      by_cases hA : A a
      · rw [fA a hA]; exact hsl a hA
      · rw [fN a hA]; exact V.up a ha
  · have hlm := lmore b
    by_cases hA : A a
    · rw [fA a hA] at hr
      rcases Nat.lt_trichotomy (p.rk a b) (p.rk a (f a)) with h | h | h
      · have := V.no a b ha hb hok h
        omega
      · have e := p.inj _ _ _ hok (V.ok a ha) h
        obtain ⟨z, hz, ez⟩ := fB a hA
        have q := (hs z hz).2.2.2
        rw [ez, V.lf a ha] at q
        rw [e, ← ez, lB z hz, ez]
        exact q
      · have h1 : ¬ p.rk b a < p.rk b (l b) := fun z => by
          have := hmin a hA b ⟨hb, hok, h, z⟩
          omega
        have h2 : p.rk b a ≠ p.rk b (l b) := fun z => by
          have e := p.inj _ _ _ (p.symm _ _ hok) (V.okl p hb) z
          have e2 : f a = b := by rw [e]; exact V.fl b hb
          rw [e2] at h
          exact Nat.lt_irrefl _ h
        omega
    · rw [fN a hA] at hr
      have := V.no a b ha hb hok hr
      omega
  · refine tot_lt (fun x hx => ?_) x0 (L.lt x0 hx0) ?_
    · show p.rk x (f x) ≤ p.rk x (f' x)
      by_cases h : A x
      · rw [fA x h]; exact Nat.le_of_lt (hs x h).2.2.1
      · rw [fN x h]; exact Nat.le_refl _
    · show p.rk x0 (f x0) < p.rk x0 (f' x0)
      rw [fA x0 hx0]
      exact (hs x0 hx0).2.2.1

/-- where one of them has nothing else, the same is so of all, and nobody else comes to them -/
theorem deg_first {A : Nat → Prop} (L : Loop (n := n) f l s A) {x : Nat} (hx : A x) (ex : s x = l x) (hl : A (l x)) :
    A (f x) ∧ s (f x) = l (f x) ∧ A (l (f x)) ∧ l (s (f x)) = l x := by
  obtain ⟨y, hy, e⟩ := L.back (l x) hl
  have sn := (S y (L.lt y hy) (L.two y hy)).1.1
  have e1 : s y = x := by
    have h1 := V.fl (s y) sn
    have h2 := V.fl x (L.lt x hx)
    rw [e] at h1
    rw [← h1, h2]
  have e2 := is_first V S (L.lt x hx) (L.lt y hy) (L.two x hx) (L.two y hy) ex e1
  rw [← e2]
  refine ⟨hy, ?_, ?_, e⟩
  · rw [e1, e2]; exact (V.lf x (L.lt x hx)).symm
  · rw [e2, V.lf x (L.lt x hx)]; exact hx

theorem deg_back {A : Nat → Prop} (L : Loop (n := n) f l s A) {x z : Nat} (hx : A x) (ex : s x = l x) (hl : A (l x)) (hz : A z) (ez : l (s z) = x) : s z = l z ∧ A (l z) := by
  obtain ⟨a1, a2, a3, a4⟩ := deg_first V S L hx ex hl
  obtain ⟨b1, b2, b3, b4⟩ := deg_first V S L a1 a2 a3
  rw [V.lf x (L.lt x hx)] at b4
  have e := L.one z (f (f x)) hz b1 (by rw [ez, b4])
  rw [e]
  exact ⟨b2, b3⟩
end

theorem firm_step {f l : Nat → Nat} (V : Val p f l) (h : ¬ Firm p l) : ∃ f' l', Val p f' l' ∧ tot n (fun a => p.rk a (f a)) < tot n (fun a => p.rk a (f' a)) := by
  have ⟨a0, b0, ha0, hb0, hok, hr1, hr2⟩ : ∃ a b, a < n ∧ b < n ∧ p.ok a b ∧ p.rk a b < p.rk a (l a) ∧ p.rk b a < p.rk b (l b) := by
    refine Classical.byContradiction fun z => h fun a b ha hb _ hok hr => z ⟨a, b, ha, hb, hok, hr.1, hr.2⟩
  have hsec : Sec p f l a0 b0 := by
    refine ⟨hb0, hok, ?_, hr2⟩
    refine Classical.byContradiction fun z => ?_
    by_cases c : p.rk a0 b0 = p.rk a0 (f a0)
    · have e := p.inj _ _ _ hok (V.ok a0 ha0) c
      rw [e, V.lf a0 ha0] at hr2
      exact Nat.lt_irrefl _ hr2
    · have := V.no a0 b0 ha0 hb0 hok (by omega)
      omega
  have t0 : f a0 ≠ l a0 := fun z => by
    have := hsec.2.2.1
    rw [z] at this
    omega
  obtain ⟨s, S⟩ := pick_sec V
  let o : Nat → Nat := fun k => Nat.rec a0 (fun _ x => l (s x)) k
  have os : ∀ k, o (k + 1) = l (s (o k)) := fun k => rfl
  have on : ∀ k, o k < n ∧ f (o k) ≠ l (o k) := fun k => by
    induction k with
    | zero => exact ⟨ha0, t0⟩
    | succ k ih => exact nx_on V S ih.1 ih.2
  obtain ⟨i, j, hij, eij⟩ := comes_back o fun k => (on k).1
  have per : ∀ k, o (j + k) = o (i + k) := fun k => by
    induction k with
    | zero => exact eij.symm
    | succ k ih => rw [← Nat.add_assoc, ← Nat.add_assoc, os, os, ih]
  let A : Nat → Prop := fun x => ∃ k, i ≤ k ∧ o k = x
  have perk : ∀ k, i ≤ k → o (k + (j - i)) = o k := fun k hk => by
    have := per (k - i)
    have e1 : j + (k - i) = k + (j - i) := by omega
    have e2 : i + (k - i) = k := by omega
    rw [e1, e2] at this
    exact this
  have fwd : ∀ a b, o a = o b → ∀ m, o (a + m) = o (b + m) := fun a b e m => by
    induction m with
    | zero => exact e
    | succ m ih => rw [← Nat.add_assoc, ← Nat.add_assoc, os, os, ih]
  have L : Loop (n := n) f l s A := by
    refine ⟨?_, ?_, ?_, ?_, ?_⟩
    · rintro x ⟨k, _, rfl⟩; exact (on k).1
    · rintro x ⟨k, _, rfl⟩; exact (on k).2
    · rintro x ⟨k, hk, rfl⟩; exact ⟨k + 1, by omega, rfl⟩
    · rintro x ⟨k, hk, rfl⟩
      refine ⟨o (k + (j - i) - 1), ⟨_, by omega, rfl⟩, ?_⟩
      rw [← os]
      have e : k + (j - i) - 1 + 1 = k + (j - i) := by omega
      rw [e]
      exact perk k hk
    · rintro x y ⟨k, hk, rfl⟩ ⟨k', hk', rfl⟩ e
      rw [← os, ← os] at e
      have := fwd (k + 1) (k' + 1) e (j - i - 1)
      have e1 : k + 1 + (j - i - 1) = k + (j - i) := by omega
      have e2 : k' + 1 + (j - i - 1) = k' + (j - i) := by omega
      rw [e1, e2, perk k hk, perk k' hk'] at this
      exact this
  have hA0 : A (o i) := ⟨i, Nat.le_refl _, rfl⟩
  by_cases deg : ∃ x, A x ∧ s x = l x ∧ A (l x)
  · exfalso
    obtain ⟨x, ⟨m, hm, rfl⟩, ex, hl⟩ := deg
    have down : ∀ t k, i ≤ k → (s (o (k + t)) = l (o (k + t)) ∧ A (l (o (k + t)))) → s (o k) = l (o k) ∧ A (l (o k)) := by
      intro t
      induction t with
      | zero => exact fun k _ h => h
      | succ t ih =>
        intro k hk h
        have h1 := ih (k + 1) (by omega) (by
          have e : k + 1 + t = k + (t + 1) := by omega
          rw [e]
          exact h)
        exact deg_back V S L (x := o (k + 1)) (z := o k) ⟨k + 1, by omega, rfl⟩ h1.1 h1.2 ⟨k, hk, rfl⟩ (os k).symm
    have much : ∀ t, o (m + t * (j - i)) = o m := fun t => by
      induction t with
      | zero => rw [Nat.zero_mul, Nat.add_zero]
      | succ t ih =>
        have e : m + (t + 1) * (j - i) = m + t * (j - i) + (j - i) := by rw [Nat.succ_mul]; omega
        rw [e, perk _ (by omega), ih]
    have all : ∀ x, A x → s x = l x ∧ A (l x) := by
      rintro x ⟨k, hk, rfl⟩
      have hge : k ≤ m + k * (j - i) := by
        have : k * 1 ≤ k * (j - i) := Nat.mul_le_mul_left k (by omega)
        omega
      refine down (m + k * (j - i) - k) k hk ?_
      have e : k + (m + k * (j - i) - k) = m + k * (j - i) := by omega
      rw [e, much]
      exact ⟨ex, hl⟩
    have up : ∀ k, A (o (k + 1)) → A (o k) := fun k hk => by
      rw [os] at hk
      obtain ⟨hn, ht⟩ := on k
      have sn := (S (o k) hn ht).1.1
      obtain ⟨q1, q2⟩ := all _ hk
      obtain ⟨w1, w2, w3, _⟩ := deg_first V S L hk q1 q2
      rw [V.fl _ sn] at w1 w2 w3
      have e := is_first V S sn hn (L.two _ w1) ht w2 rfl
      obtain ⟨v1, _, _, _⟩ := deg_first V S L w1 w2 w3
      rw [e]
      exact v1
    have zero : ∀ k, A (o k) → A (o 0) := fun k => by
      induction k with
      | zero => exact fun h => h
      | succ k ih => exact fun h => ih (up k h)
    have h0 := all _ (zero i hA0)
    have hm := (S a0 ha0 t0).2 b0 hsec
    have e : s a0 = l a0 := h0.1
    rw [e] at hm
    omega
  · exact turn_ring V S L (o i) hA0 fun x hx ex hl => deg ⟨x, hx, ex, hl⟩

/-- for every table there are parties that hold -/
theorem parties : ∃ f l, Val p f l ∧ Firm p l := by
  have key : ∀ k f l, Val p f l → n * p.top ≤ tot n (fun a => p.rk a (f a)) + k → ∃ f l, Val p f l ∧ Firm p l := by
    intro k
    induction k with
    | zero =>
      intro f l V h
      refine ⟨f, l, V, Classical.byContradiction fun z => ?_⟩
      obtain ⟨f', l', _, h2⟩ := firm_step p V z
      have := tot_le (n := n) (k := p.top) (g := fun a => p.rk a (f' a)) (fun x _ => p.le _ _)
      omega
    | succ k ih =>
      intro f l V h
      by_cases z : Firm p l
      · exact ⟨f, l, V, z⟩
      · obtain ⟨f', l', V', h2⟩ := firm_step p V z
        exact ih f' l' V' (by omega)
  obtain ⟨f, l, V⟩ := val_start p
  exact key (n * p.top) f l V (by omega)
end
end Tan
#print axioms Tan.parties

namespace Tan
section
variable {n : Nat} (p : Pref n)

/-! ## Parties that hold, and calm mates -/
structure Hold (f l : Nat → Nat) : Prop where
  fn : ∀ a, a < n → f a < n
  ln : ∀ a, a < n → l a < n
  lf : ∀ a, a < n → l (f a) = a
  fl : ∀ a, a < n → f (l a) = a
  ok : ∀ a, a < n → p.ok a (f a)
  up : ∀ a, a < n → p.rk a (f a) ≤ p.rk a (l a)
  firm : Firm p l

theorem Hold.okl {f l : Nat → Nat} (V : Hold p f l) {a : Nat} (ha : a < n) : p.ok a (l a) := by
  have := V.ok (l a) (V.ln a ha)
  rw [V.fl a ha] at this
  exact p.symm _ _ this
theorem Val.hold {f l : Nat → Nat} (V : Val p f l) (F : Firm p l) : Hold p f l := ⟨V.fn, V.ln, V.lf, V.fl, V.ok, V.up, F⟩

/-- mates, each alone its own -/
structure Mate (M : Nat → Nat) : Prop where
  lt : ∀ a, a < n → M a < n
  ok : ∀ a, a < n → p.ok a (M a)
  inv : ∀ a, a < n → M (M a) = a
  calm : ∀ a b, a < n → b < n → a ≠ b → p.ok a b → ¬ (p.rk a b < p.rk a (M a) ∧ p.rk b a < p.rk b (M b))

def iter (f : Nat → Nat) : Nat → Nat → Nat
  | 0, a => a
  | k + 1, a => f (iter f k a)
theorem iter_add (f : Nat → Nat) (a : Nat) (i : Nat) : ∀ j, iter f (i + j) a = iter f j (iter f i a)
  | 0 => rfl
  | j + 1 => by
    show f (iter f (i + j) a) = f (iter f j (iter f i a))
    rw [iter_add f a i j]

section
variable {p} {f l M : Nat → Nat} (V : Hold p f l)
include V

theorem iter_lt {a : Nat} (ha : a < n) : ∀ k, iter f k a < n
  | 0 => ha
  | k + 1 => V.fn _ (iter_lt ha k)
theorem big_next {a : Nat} (ha : a < n) (h : f a ≠ l a) : f (f a) ≠ l (f a) := fun e => by
  rw [V.lf a ha] at e
  have := V.lf (f a) (V.fn a ha)
  rw [e] at this
  exact h this.symm
theorem big_iter {a : Nat} (ha : a < n) (h : f a ≠ l a) : ∀ k, f (iter f k a) ≠ l (iter f k a)
  | 0 => h
  | k + 1 => big_next V (iter_lt V ha k) (big_iter ha h k)

variable (C : Mate p M)
include C

def Bet (p : Pref n) (l M : Nat → Nat) (a : Nat) : Prop := p.rk a (M a) < p.rk a (l a)
def Not (p : Pref n) (f l M : Nat → Nat) (a : Nat) : Prop := p.rk a (l a) < p.rk a (M a) ∨ (M a = l a ∧ f a ≠ l a)

theorem ahead_bet {a : Nat} (ha : a < n) (h : Not p f l M a) : Bet p l M (l a) := by
  have hx := V.ln a ha
  have okx := V.okl p ha
  rcases h with h | ⟨e, big⟩
  · have ne : l a ≠ a := fun z => by
      rw [z] at h
      by_cases c : M a = a
      · rw [c] at h; exact Nat.lt_irrefl _ h
      · have := p.last a (M a) (C.ok a ha) c
        omega
    have hc := C.calm (l a) a hx ha ne (p.symm _ _ okx)
    have h1 : ¬ p.rk (l a) a < p.rk (l a) (M (l a)) := fun z => hc ⟨z, h⟩
    have h2 := V.up (l a) hx
    rw [V.fl a ha] at h2
    have h3 : p.rk (l a) (M (l a)) ≠ p.rk (l a) a := fun z => by
      have e := p.inj _ _ _ (C.ok (l a) hx) (p.symm _ _ okx) z
      have e2 := C.inv (l a) hx
      rw [e] at e2
      rw [e2] at h
      exact Nat.lt_irrefl _ h
    show p.rk (l a) (M (l a)) < p.rk (l a) (l (l a))
    omega
  · have e2 := C.inv a ha
    rw [e] at e2
    show p.rk (l a) (M (l a)) < p.rk (l a) (l (l a))
    rw [e2]
    have h2 := V.up (l a) hx
    rw [V.fl a ha] at h2
    have h3 : p.rk (l a) a ≠ p.rk (l a) (l (l a)) := fun z => by
      have e := p.inj _ _ _ (p.symm _ _ okx) (V.okl p hx) z
      apply big
      have := V.fl (l a) hx
      rw [← e] at this
      exact this
    omega

theorem mate_not {a : Nat} (ha : a < n) (h : Bet p l M a) : Not p f l M (M a) := by
  have hb := C.lt a ha
  have e := C.inv a ha
  have okb := C.ok a ha
  have ne : a ≠ M a := fun z => by
    unfold Bet at h
    rw [← z] at h
    by_cases c : l a = a
    · rw [c] at h; exact Nat.lt_irrefl _ h
    · have := p.last a (l a) (V.okl p ha) c
      omega
  have hf := V.firm a (M a) ha hb ne okb
  have h1 : ¬ p.rk (M a) a < p.rk (M a) (l (M a)) := fun z => hf ⟨h, z⟩
  unfold Not
  rw [e]
  by_cases c : p.rk (M a) (l (M a)) = p.rk (M a) a
  · have e2 := p.inj _ _ _ (V.okl p hb) (p.symm _ _ okb) c
    refine .inr ⟨e2.symm, fun z => ?_⟩
    have e3 := V.lf (M a) hb
    rw [z, e2] at e3
    unfold Bet at h
    rw [e3] at h
    exact Nat.lt_irrefl _ h
  · exact .inl (by omega)

theorem bet_or {a : Nat} (ha : a < n) (big : f a ≠ l a) : Bet p l M a ∨ Not p f l M a := by
  rcases Nat.lt_trichotomy (p.rk a (M a)) (p.rk a (l a)) with h | h | h
  · exact .inl h
  · exact .inr (.inr ⟨p.inj _ _ _ (C.ok a ha) (V.okl p ha) h, big⟩)
  · exact .inr (.inl h)
theorem bet_not {a : Nat} (h : Bet p l M a) (h2 : Not p f l M a) : False := by
  unfold Bet at h
  rcases h2 with h2 | ⟨e, _⟩
  · omega
  · rw [e] at h; exact Nat.lt_irrefl _ h

/-- in a ring of an odd number one has the better of it, and its next one too -/
theorem odd_two {a : Nat} (ha : a < n) (big : f a ≠ l a) {r : Nat} (hr : r % 2 = 1) (per : iter f r a = a) : ∃ c, c < n ∧ Bet p l M c ∧ ¬ Not p f l M (f c) := by
  refine Classical.byContradiction fun z => ?_
  have alt : ∀ k, (Bet p l M (iter f k a) ↔ ¬ Bet p l M (iter f (k + 1) a)) := fun k => by
    have hk := iter_lt V ha k
    have hk1 := iter_lt V ha (k + 1)
    have bk1 := big_iter V ha big (k + 1)
    constructor
    · intro h h2
      exact z ⟨_, hk, h, fun h3 => bet_not V C h2 h3⟩
    · intro h
      rcases bet_or V C hk1 bk1 with h1 | h1
      · exact absurd h1 h
      · have := ahead_bet V C hk1 h1
        have e : l (iter f (k + 1) a) = iter f k a := V.lf _ hk
        rw [e] at this
        exact this
  have alt2 : ∀ k, (Bet p l M a ↔ (if k % 2 = 0 then Bet p l M (iter f k a) else ¬ Bet p l M (iter f k a))) := fun k => by
    induction k with
    | zero => exact Iff.rfl
    | succ k ih =>
      rw [ih]
      by_cases c : k % 2 = 0
      · rw [if_pos c, if_neg (by omega)]
        exact alt k
      · rw [if_neg c, if_pos (by omega)]
        rw [alt k]
        exact Classical.not_not
  have h := alt2 r
  rw [if_neg (by omega), per] at h
  by_cases c : Bet p l M a
  · exact h.mp c c
  · exact c (h.mpr c)

/-- with a party of an odd number, three or more, there are no calm mates -/
theorem odd_none {a : Nat} (ha : a < n) (big : f a ≠ l a) {r : Nat} (hr : r % 2 = 1) (per : iter f r a = a) : False := by
  obtain ⟨c, hc, hb, hn⟩ := odd_two V C ha big hr per
  let o : Nat → Nat := fun k => Nat.rec c (fun _ x => l (M x)) k
  have os : ∀ k, o (k + 1) = l (M (o k)) := fun k => rfl
  have on : ∀ k, o k < n ∧ Bet p l M (o k) := fun k => by
    induction k with
    | zero => exact ⟨hc, hb⟩
    | succ k ih => exact ⟨V.ln _ (C.lt _ ih.1), ahead_bet V C (C.lt _ ih.1) (mate_not V C ih.1 ih.2)⟩
  have inj : ∀ x y, x < n → y < n → l (M x) = l (M y) → x = y := fun x y hx hy e => by
    have h1 := V.fl _ (C.lt x hx)
    have h2 := V.fl _ (C.lt y hy)
    rw [e, h2] at h1
    have h3 := C.inv x hx
    rw [← h1, C.inv y hy] at h3
    exact h3.symm
  have new : ∀ k, o (k + 1) ≠ c := fun k e => by
    rw [os] at e
    have h1 := V.fl _ (C.lt _ (on k).1)
    rw [e] at h1
    apply hn
    rw [h1]
    exact mate_not V C (on k).1 (on k).2
  obtain ⟨i, j, hij, e⟩ := comes_back o fun k => (on k).1
  have down : ∀ i j, i < j → o i = o j → False := by
    intro i
    induction i with
    | zero =>
      intro j hj e
      have e1 : j = (j - 1) + 1 := by omega
      rw [e1] at e
      exact new _ e.symm
    | succ i ih =>
      intro j hj e
      have e1 : j = (j - 1) + 1 := by omega
      rw [e1, os, os] at e
      exact ih (j - 1) (by omega) (inj _ _ (on i).1 (on (j - 1)).1 e)
  exact down i j hij e
end

/-! ## Without such a party the parties can be put in twos -/
/-- whoever is with its next or with the one ahead is calm -/
theorem side_calm {f l M : Nat → Nat} (V : Hold p f l) (h : ∀ a, a < n → M a = f a ∨ M a = l a) (inv : ∀ a, a < n → M (M a) = a) : Mate p M := by
  have up : ∀ a, a < n → p.rk a (M a) ≤ p.rk a (l a) := fun a ha => by
    rcases h a ha with e | e
    · rw [e]; exact V.up a ha
    · rw [e]; exact Nat.le_refl _
  refine ⟨fun a ha => ?_, fun a ha => ?_, inv, fun a b ha hb ne ok hr => ?_⟩
  · rcases h a ha with e | e
    · rw [e]; exact V.fn a ha
    · rw [e]; exact V.ln a ha
  · rcases h a ha with e | e
    · rw [e]; exact V.ok a ha
    · rw [e]; exact V.okl p ha
  · have h1 := up a ha
    have h2 := up b hb
    exact V.firm a b ha hb ne ok ⟨by omega, by omega⟩

/-- two colours, turn about, where no ring is odd -/
theorem colours {f l : Nat → Nat} (V : Hold p f l) (no : ∀ a r, a < n → f a ≠ l a → r % 2 = 1 → iter f r a ≠ a) : ∃ col : Nat → Bool, ∀ a, a < n → f a ≠ l a → col (f a) = !col a := by
  have rootx : ∀ a, ∃ x, (∃ k, iter f k a = x) ∧ ∀ y, (∃ k, iter f k a = y) → x ≤ y := fun a => least (fun x => x) (fun x => ∃ k, iter f k a = x) ⟨a, 0, rfl⟩
  let root : Nat → Nat := fun a => Classical.choose (rootx a)
  have hroot : ∀ a, (∃ k, iter f k a = root a) ∧ ∀ y, (∃ k, iter f k a = y) → root a ≤ y := fun a => Classical.choose_spec (rootx a)
  have finj : ∀ x y, x < n → y < n → f x = f y → x = y := fun x y hx hy e => by
    have := V.lf x hx
    rw [e, V.lf y hy] at this
    exact this.symm
  have cancel : ∀ (a : Nat), a < n → ∀ i j, iter f i a = iter f (i + j) a → iter f j a = a := by
    intro a ha i
    induction i with
    | zero => intro j e; rw [Nat.zero_add] at e; exact e.symm
    | succ i ih =>
      intro j e
      have e1 : i + 1 + j = (i + j) + 1 := by omega
      rw [e1] at e
      exact ih j (finj _ _ (iter_lt V ha i) (iter_lt V ha (i + j)) e)
  have period : ∀ a, a < n → ∃ r, 0 < r ∧ iter f r a = a := fun a ha => by
    obtain ⟨i, j, hij, e⟩ := comes_back (fun k => iter f k a) fun k => iter_lt V ha k
    refine ⟨j - i, by omega, cancel a ha i (j - i) ?_⟩
    have : i + (j - i) = j := by omega
    rw [this]
    exact e
  have same : ∀ a, a < n → root (f a) = root a := fun a ha => by
    obtain ⟨⟨k, hk⟩, h1⟩ := hroot a
    obtain ⟨⟨k', hk'⟩, h2⟩ := hroot (f a)
    obtain ⟨r, r0, hr⟩ := period a ha
    have e1 : ∀ m, iter f m (f a) = iter f (m + 1) a := fun m => by
      have := iter_add f a 1 m
      rw [Nat.add_comm] at this
      exact this.symm
    have le1 : root a ≤ root (f a) := h1 _ ⟨k' + 1, by rw [← e1]; exact hk'⟩
    have le2 : root (f a) ≤ root a := by
      refine h2 _ ⟨k + (r - 1), ?_⟩
      rw [e1]
      have e2 : k + (r - 1) + 1 = r + k := by omega
      rw [e2, iter_add, hr]
      exact hk
    omega
  have reach : ∀ a, a < n → ∃ k, iter f k (root a) = a := fun a ha => by
    obtain ⟨⟨k, hk⟩, _⟩ := hroot a
    obtain ⟨r, r0, hr⟩ := period a ha
    have many : ∀ t, iter f (t * r) a = a := fun t => by
      induction t with
      | zero => rw [Nat.zero_mul]; rfl
      | succ t ih => rw [Nat.succ_mul, iter_add, ih, hr]
    refine ⟨k * r - k, ?_⟩
    rw [← hk, ← iter_add]
    have : k * 1 ≤ k * r := Nat.mul_le_mul_left k r0
    have e : k + (k * r - k) = k * r := by omega
    rw [e]
    exact many k
  classical
  refine ⟨fun a => decide (∃ k, k % 2 = 0 ∧ iter f k (root a) = a), fun a ha big => ?_⟩
  have hrn : root a < n := by
    obtain ⟨⟨k, hk⟩, _⟩ := hroot a
    rw [← hk]; exact iter_lt V ha k
  have hrb : f (root a) ≠ l (root a) := by
    obtain ⟨⟨k, hk⟩, _⟩ := hroot a
    rw [← hk]; exact big_iter V ha big k
  simp only [same a ha]
  by_cases c : ∃ k, k % 2 = 0 ∧ iter f k (root a) = a
  · rw [decide_eq_true c]
    obtain ⟨k, k2, hk⟩ := c
    apply decide_eq_false
    rintro ⟨k', k2', hk'⟩
    have e : iter f (k + 1) (root a) = iter f k' (root a) := by
      show f (iter f k (root a)) = _
      rw [hk, hk']
    rcases Nat.le_total (k + 1) k' with h | h
    · refine no (root a) (k' - (k + 1)) hrn hrb (by omega) (cancel (root a) hrn (k + 1) _ ?_)
      have e1 : k + 1 + (k' - (k + 1)) = k' := by omega
      rw [e1]; exact e
    · refine no (root a) (k + 1 - k') hrn hrb (by omega) (cancel (root a) hrn k' _ ?_)
      have e1 : k' + (k + 1 - k') = k + 1 := by omega
      rw [e1]; exact e.symm
  · rw [decide_eq_false c]
    apply decide_eq_true
    obtain ⟨k, hk⟩ := reach a ha
    have ko : k % 2 = 1 := by
      refine Classical.byContradiction fun z => c ⟨k, by omega, hk⟩
    refine ⟨k + 1, by omega, ?_⟩
    show f (iter f k (root a)) = f a
    rw [hk]

/-- where no ring of three or more is odd there are calm mates -/
theorem even_calm {f l : Nat → Nat} (V : Hold p f l) (no : ∀ a r, a < n → f a ≠ l a → r % 2 = 1 → iter f r a ≠ a) : ∃ M, Mate p M := by
  classical
  obtain ⟨col, hcol⟩ := colours p V no
  let M : Nat → Nat := fun a => if f a = l a then f a else if col a = true then f a else l a
  have m1 : ∀ a, f a = l a → M a = f a := fun a h => if_pos h
  have m2 : ∀ a, f a ≠ l a → col a = true → M a = f a := fun a h h2 => (if_neg h).trans (if_pos h2)
  have m3 : ∀ a, f a ≠ l a → col a = false → M a = l a := fun a h h2 => (if_neg h).trans (if_neg (by rw [h2]; decide))
  refine ⟨M, side_calm p V (fun a _ => ?_) fun a ha => ?_⟩
  · by_cases h : f a = l a
    · exact .inl (m1 a h)
    · cases h2 : col a with
      | true => exact .inl (m2 a h h2)
      | false => exact .inr (m3 a h h2)
  · by_cases h : f a = l a
    · rw [m1 a h]
      have e : f (f a) = a := by rw [h]; exact V.fl a ha
      have e2 : f (f a) = l (f a) := by rw [e, V.lf a ha]
      rw [m1 _ e2, e]
    · cases h2 : col a with
      | true =>
        rw [m2 a h h2]
        have b := big_next V ha h
        have c := hcol a ha h
        rw [h2] at c
        rw [m3 _ b c]
        exact V.lf a ha
      | false =>
        rw [m3 a h h2]
        have hl := V.ln a ha
        have b : f (l a) ≠ l (l a) := fun z => by
          rw [V.fl a ha] at z
          have := V.fl (l a) hl
          rw [← z] at this
          exact h this
        have c := hcol (l a) hl b
        rw [V.fl a ha, h2] at c
        have c2 : col (l a) = true := by
          cases h3 : col (l a) with
          | true => rfl
          | false => rw [h3] at c; cases c
        rw [m2 _ b c2]
        exact V.fl a ha

/-- calm mates, or parties that hold with an odd one -/
theorem either : (∃ M, Mate p M) ∨ ∃ f l a r, Hold p f l ∧ a < n ∧ f a ≠ l a ∧ r % 2 = 1 ∧ iter f r a = a := by
  obtain ⟨f, l, V, F⟩ := parties p
  have H := V.hold p F
  by_cases h : ∃ a r, a < n ∧ f a ≠ l a ∧ r % 2 = 1 ∧ iter f r a = a
  · obtain ⟨a, r, h⟩ := h
    exact .inr ⟨f, l, a, r, H, h⟩
  · exact .inl (even_calm p H fun a r ha hb hr e => h ⟨a, r, ha, hb, hr, e⟩)
end
end Tan
#print axioms Tan.either
#print axioms Tan.odd_none

namespace B2
open PySem L2

/-! ### Tables and the mathematics of parties -/

/-! #### All mates there are stand in allTwos -/
theorem ext_mt {a b : List (Option Int)} (hl : a.length = b.length) (h : ∀ i : Int, 0 ≤ i → i < (a.length : Int) → mt a i = mt b i) : a = b := by
  apply List.ext_getElem?
  intro i
  by_cases c : i < a.length
  · have h1 := mt_get (ms := a) (i := (i : Int)) (by omega) (by omega)
    have h2 := mt_get (ms := b) (i := (i : Int)) (by omega) (by omega)
    rw [Int.toNat_natCast] at h1 h2
    rw [h1, h2, h i (by omega) (by omega)]
  · rw [List.getElem?_eq_none (by omega), List.getElem?_eq_none (by omega)]

/-- of these mates only those of whom one is ahead of g -/
def upTo (g : Nat) (ms : List (Option Int)) : List (Option Int) :=
  (List.range ms.length).map fun (i : Nat) => match mt ms (i : Int) with
    | none => none
    | some m => if i < g ∨ m < (g : Int) then some m else none
theorem upTo_len (g : Nat) (ms : List (Option Int)) : (upTo g ms).length = ms.length := by
  unfold upTo
  rw [List.length_map, List.length_range]
theorem upTo_at {g : Nat} {ms : List (Option Int)} {i : Int} (i0 : 0 ≤ i) (i1 : i < (ms.length : Int)) :
    mt (upTo g ms) i = match mt ms i with
      | none => none
      | some m => if i < (g : Int) ∨ m < (g : Int) then some m else none := by
  have e : (upTo g ms)[i.toNat]? = some (match mt ms ((i.toNat : Nat) : Int) with
    | none => none
    | some m => if i.toNat < g ∨ m < (g : Int) then some m else none) := by
    unfold upTo
    rw [List.getElem?_map, List.getElem?_range (by omega)]
    rfl
  have e2 : ((i.toNat : Nat) : Int) = i := by omega
  rw [e2] at e
  have e3 : mt (upTo g ms) i = (match mt ms i with
    | none => none
    | some m => if i.toNat < g ∨ m < (g : Int) then some m else none) := by
    show List.getD _ _ _ = _
    rw [List.getD_eq_getElem?_getD, e]
    rfl
  rw [e3]
  cases mt ms i with
  | none => rfl
  | some m =>
    have : (i.toNat < g ∨ m < (g : Int)) ↔ (i < (g : Int) ∨ m < (g : Int)) := by omega
    show (if _ then _ else _) = if _ then _ else _
    by_cases c : i < (g : Int) ∨ m < (g : Int)
    · rw [if_pos c, if_pos (this.mpr c)]
    · rw [if_neg c, if_neg (fun z => c (this.mp z))]
theorem upTo_zero {ws : List (List Int)} {ms : List (Option Int)} (o : OkMates ws ms) : upTo 0 ms = List.replicate ws.length none := by
  have hl := o.len
  refine ext_mt (by rw [upTo_len, List.length_replicate, hl]) fun i i0 i1 => ?_
  rw [upTo_len] at i1
  rw [upTo_at i0 i1, mt_none]
  cases e : mt ms i with
  | none => rfl
  | some m =>
    have := o.pr i m i0 (by omega) e
    show (if _ then _ else _) = _
    rw [if_neg (by omega)]
theorem upTo_all {ws : List (List Int)} {ms : List (Option Int)} (o : OkMates ws ms) : upTo ws.length ms = ms := by
  have hl := o.len
  refine ext_mt (upTo_len _ _) fun i i0 i1 => ?_
  rw [upTo_len] at i1
  rw [upTo_at i0 i1]
  cases e : mt ms i with
  | none => rfl
  | some m =>
    show (if _ then _ else _) = _
    rw [if_pos (by omega)]
theorem upTo_step {ws : List (List Int)} (hG : Good ws) {ms : List (Option Int)} (o : OkMates ws ms) {g : Nat} (hg : g < ws.length) : upTo (g + 1) ms ∈ settledL ws (upTo g ms) g := by
  have hl := o.len
  unfold settledL
  by_cases c : ∃ m : Int, mt ms (g : Int) = some m ∧ (g : Int) < m
  · obtain ⟨m, hm, lt⟩ := c
    obtain ⟨m0, m1, hm', hs⟩ := o.pr (g : Int) m (by omega) (by omega) hm
    refine List.mem_cons_of_mem _ ?_
    unfold moreL
    have e0 : mt (upTo g ms) (g : Int) = none := by
      rw [upTo_at (by omega) (by omega), hm]
      show (if _ then _ else _) = _
      rw [if_neg (by omega)]
    rw [if_pos e0, joins_is]
    refine List.mem_map.mpr ⟨m, List.mem_filter.mpr ⟨?_, ?_⟩, ?_⟩
    · unfold rngL
      refine List.mem_map.mpr ⟨(m - (g : Int) - 1).toNat, List.mem_range.mpr (by omega), by omega⟩
    · unfold mayJ
      rw [hs, Bool.true_and, upTo_at m0 (by omega), hm']
      show ((if _ then _ else _ : Option Int)).isNone = true
      rw [if_neg (by omega)]
      rfl
    · refine (ext_mt (by rw [upTo_len, join_len, upTo_len]) fun i i0 i1 => ?_).symm
      rw [upTo_len] at i1
      rw [mt_join (by omega) (by rw [upTo_len]; omega) m0 (by rw [upTo_len]; omega) i0, upTo_at i0 i1, upTo_at i0 i1]
      by_cases c1 : i = m
      · rw [if_pos c1, c1, hm']
        show (if _ then _ else _) = _
        rw [if_pos (by omega)]
      · rw [if_neg c1]
        by_cases c2 : i = (g : Int)
        · rw [if_pos c2, c2, hm]
          show (if _ then _ else _) = _
          rw [if_pos (by omega)]
        · rw [if_neg c2]
          cases e : mt ms i with
          | none => rfl
          | some k =>
            have hk := o.pr i k i0 (by omega) e
            show (if _ then _ else _) = if _ then _ else _
            have ne : k ≠ (g : Int) := fun z => by
              rw [z] at hk
              rw [hm] at hk
              exact c1 (Option.some.inj hk.2.2.1).symm
            have : (i < ((g + 1 : Nat) : Int) ∨ k < ((g + 1 : Nat) : Int)) ↔ (i < (g : Int) ∨ k < (g : Int)) := by omega
            by_cases c3 : i < (g : Int) ∨ k < (g : Int)
            · rw [if_pos c3, if_pos (this.mpr c3)]
            · rw [if_neg c3, if_neg (fun z => c3 (this.mp z))]
  · refine List.mem_cons.mpr (.inl ?_)
    refine ext_mt (by rw [upTo_len, upTo_len]) fun i i0 i1 => ?_
    rw [upTo_len] at i1
    rw [upTo_at i0 i1, upTo_at i0 i1]
    cases e : mt ms i with
    | none => rfl
    | some k =>
      have hk := o.pr i k i0 (by omega) e
      show (if _ then _ else _) = if _ then _ else _
      have n1 : ¬ (i = (g : Int) ∧ (g : Int) < k) := fun z => c ⟨k, by rw [← z.1]; exact e, z.2⟩
      have n2 : ¬ (k = (g : Int) ∧ (g : Int) < i) := fun z => c ⟨i, by rw [← z.1]; exact hk.2.2.1, z.2⟩
      have n3 : ¬ (i = (g : Int) ∧ k = (g : Int)) := fun z => by
        have q := hk.2.2.2
        rw [z.1, z.2, suitsB_self hG (by omega) (by omega)] at q
        cases q
      have : (i < ((g + 1 : Nat) : Int) ∨ k < ((g + 1 : Nat) : Int)) ↔ (i < (g : Int) ∨ k < (g : Int)) := by omega
      by_cases c3 : i < (g : Int) ∨ k < (g : Int)
      · rw [if_pos c3, if_pos (this.mpr c3)]
      · rw [if_neg c3, if_neg (fun z => c3 (this.mp z))]
theorem all_in {ws : List (List Int)} (hG : Good ws) {ms : List (Option Int)} (o : OkMates ws ms) : ms ∈ allTwos ws := by
  have key : ∀ g, g ≤ ws.length → upTo g ms ∈ stageL ws g := by
    intro g
    induction g with
    | zero => exact fun _ => by rw [upTo_zero o]; exact List.mem_singleton.mpr rfl
    | succ g ih => exact fun hg => List.mem_flatMap.mpr ⟨_, ih (by omega), upTo_step hG o (by omega)⟩
  have := key ws.length (Nat.le_refl _)
  rw [upTo_all o] at this
  exact this
end B2

namespace B2
open PySem L2

/-! #### A table as the mathematics has it -/
def rkN (ws : List (List Int)) (a b : Nat) : Nat := if b = a then 1000 else min 999 ((rowOf ws (a : Int)).idxOf (b : Int))
def okN (ws : List (List Int)) (a b : Nat) : Prop := a = b ∨ suitsB ws (a : Int) (b : Int) = true

theorem at_index (x : Int) (r : List Int) (h : x ∈ r) : r[r.idxOf x]? = some x := by
  have h1 := (index_at x r h).1
  rw [List.getElem?_map] at h1
  cases e : r[r.idxOf x]? with
  | none => rw [e] at h1; cases h1
  | some y => rw [e] at h1; cases h1; rfl
theorem rowOf_nil {ws : List (List Int)} {i : Int} (h : (ws.length : Int) ≤ i) : rowOf ws i = [] := by
  unfold rowOf
  rw [List.getD_eq_getElem?_getD, List.getElem?_eq_none (by omega)]
  rfl
theorem rowOf_six {ws : List (List Int)} (hG : Good ws) (a : Nat) : (rowOf ws (a : Int)).length ≤ 6 := by
  by_cases h : (a : Int) < (ws.length : Int)
  · exact (rowOf_good hG (by omega) h).sm
  · rw [rowOf_nil (by omega)]
    exact Nat.zero_le _
theorem suits_lt {ws : List (List Int)} {a b : Nat} (h : suitsB ws (a : Int) (b : Int) = true) : a < ws.length ∧ b < ws.length := by
  have m := suitsB_mem h
  constructor
  · by_cases c : a < ws.length
    · exact c
    · rw [rowOf_nil (by omega)] at m
      cases m.1
  · by_cases c : b < ws.length
    · exact c
    · rw [rowOf_nil (i := (b : Int)) (by omega)] at m
      cases m.2
theorem suits_ne {ws : List (List Int)} (hG : Good ws) {a b : Nat} (h : suitsB ws (a : Int) (b : Int) = true) : b ≠ a := fun z => by
  rw [z] at h
  have := suits_lt h
  rw [suitsB_self hG (by omega) (by omega)] at h
  cases h
theorem rk_suits {ws : List (List Int)} (hG : Good ws) {a b : Nat} (h : suitsB ws (a : Int) (b : Int) = true) : rkN ws a b = (rowOf ws (a : Int)).idxOf (b : Int) ∧ rkN ws a b < 6 := by
  have h1 := at_index _ _ (suitsB_mem h).1
  have h2 : (rowOf ws (a : Int)).idxOf (b : Int) < (rowOf ws (a : Int)).length := (List.getElem?_eq_some_iff.mp h1).1
  have h3 := rowOf_six hG a
  have e : rkN ws a b = min 999 ((rowOf ws (a : Int)).idxOf (b : Int)) := if_neg (suits_ne hG h)
  rw [e]
  omega

def prefT (ws : List (List Int)) (hG : Good ws) : Tan.Pref ws.length where
  ok := okN ws
  rk := rkN ws
  refl _ := .inl rfl
  symm a b h := by
    rcases h with h | h
    · exact .inl h.symm
    · exact .inr (by rw [suitsB_comm]; exact h)
  inj a b c h1 h2 e := by
    rcases h1 with h1 | h1 <;> rcases h2 with h2 | h2
    · exact h1.symm.trans h2
    · have := (rk_suits hG h2).2
      have e1 : rkN ws a b = 1000 := if_pos h1.symm
      omega
    · have := (rk_suits hG h1).2
      have e1 : rkN ws a c = 1000 := if_pos h2.symm
      omega
    · rw [(rk_suits hG h1).1, (rk_suits hG h2).1] at e
      have p1 := at_index _ _ (suitsB_mem h1).1
      have p2 := at_index _ _ (suitsB_mem h2).1
      rw [e, p2] at p1
      have := Option.some.inj p1
      omega
  last a b h ne := by
    rcases h with h | h
    · exact absurd h.symm ne
    · have := (rk_suits hG h).2
      have e1 : rkN ws a a = 1000 := if_pos rfl
      omega
  top := 1000
  le a b := by
    unfold rkN
    split
    · exact Nat.le_refl _
    · omega

/-- the mate, or the one ahead, where oneself stands for none -/
def selfO (a m : Nat) : Option Int := if m = a then none else some (m : Int)
theorem ahead_rk {ws : List (List Int)} (hG : Good ws) {a b m : Nat} (h : suitsB ws (a : Int) (b : Int) = true) (hm : okN ws a m) :
    aheadB ws (a : Int) (some (b : Int)) (selfO a m) = decide (rkN ws a b < rkN ws a m) := by
  unfold selfO
  have hb := rk_suits hG h
  by_cases c : m = a
  · rw [if_pos c]
    have e1 : rkN ws a m = 1000 := if_pos c
    rw [e1, decide_eq_true (by omega)]
    exact h
  · rw [if_neg c]
    rcases hm with hm | hm
    · exact absurd hm.symm c
    · have h2 := rk_suits hG hm
      rw [hb.1, h2.1]
      show (if (b : Int) = (m : Int) then false else if suitsB ws (a : Int) (b : Int) = true then (if suitsB ws (a : Int) (m : Int) = true then decide _ else true) else false) = _
      by_cases c2 : b = m
      · rw [if_pos (by omega), c2, decide_eq_false (Nat.lt_irrefl _)]
      · rw [if_neg (by omega), if_pos h, if_pos hm]

/-! #### Mates -/
def mN (ms : List (Option Int)) (a : Nat) : Nat := ((mt ms (a : Int)).getD (a : Int)).toNat
theorem mN_is {ws : List (List Int)} (hG : Good ws) {ms : List (Option Int)} (o : OkMates ws ms) {a : Nat} (ha : a < ws.length) :
    mN ms a < ws.length ∧ okN ws a (mN ms a) ∧ mN ms (mN ms a) = a ∧ mt ms (a : Int) = selfO a (mN ms a) := by
  unfold selfO
  cases e : mt ms (a : Int) with
  | none =>
    have e1 : mN ms a = a := by
      unfold mN
      rw [e]
      exact Int.toNat_natCast a
    rw [e1, e1]
    exact ⟨ha, .inl rfl, rfl, (if_pos rfl).symm⟩
  | some m =>
    have h := o.pr (a : Int) m (by omega) (by omega) e
    have e1 : mN ms a = m.toNat := by
      unfold mN
      rw [e]
      rfl
    have e2 : ((m.toNat : Nat) : Int) = m := by omega
    rw [e1]
    have hs := h.2.2.2
    rw [← e2] at hs
    have e3 : mN ms m.toNat = a := by
      unfold mN
      rw [e2, h.2.2.1]
      exact Int.toNat_natCast a
    refine ⟨by omega, .inr hs, e3, ?_⟩
    rw [if_neg (suits_ne hG hs), e2]
theorem mate_to {ws : List (List Int)} (hG : Good ws) {ms : List (Option Int)} (o : OkMates ws ms) (c : Calm ws ms) : Tan.Mate (prefT ws hG) (mN ms) where
  lt a ha := (mN_is hG o ha).1
  ok a ha := (mN_is hG o ha).2.1
  inv a ha := (mN_is hG o ha).2.2.1
  calm a b ha hb ne hk h := by
    rcases hk with hk | hk
    · exact ne hk
    · have hw := c (a : Int) (b : Int) (by omega) (by omega) (by omega) (by omega) (by omega)
      unfold wild at hw
      have hA := mN_is hG o ha
      have hB := mN_is hG o hb
      rw [hA.2.2.2, hB.2.2.2, ahead_rk hG hk hA.2.1, ahead_rk hG (by rw [suitsB_comm]; exact hk) hB.2.1] at hw
      have h1 : rkN ws a b < rkN ws a (mN ms a) := h.1
      have h2 : rkN ws b a < rkN ws b (mN ms b) := h.2
      rw [decide_eq_true h1, decide_eq_true h2] at hw
      cases hw
/-- a list by guests -/
def byN {α : Type} (n : Nat) (f : Nat → α) : List α := (List.range n).map f
theorem byN_get {α : Type} {n : Nat} {f : Nat → α} {a : Nat} (h : a < n) : (byN n f)[a]? = some (f a) := by
  unfold byN
  rw [List.getElem?_map, List.getElem?_range h]
  rfl
theorem byN_len {α : Type} (n : Nat) (f : Nat → α) : (byN n f).length = n := by
  unfold byN
  rw [List.length_map, List.length_range]
theorem byN_mt {n : Nat} {f : Nat → Option Int} {a : Nat} (h : a < n) : mt (byN n f) (a : Int) = f a := by
  show List.getD _ _ _ = _
  rw [List.getD_eq_getElem?_getD, Int.toNat_natCast, byN_get h]
  rfl
theorem nat_of {i : Int} (h : 0 ≤ i) : ∃ a : Nat, i = (a : Int) := ⟨i.toNat, by omega⟩
theorem ahead_suits {ws : List (List Int)} {g a : Int} {o : Option Int} (h : aheadB ws g (some a) o = true) : suitsB ws g a = true := by
  cases o with
  | none => exact h
  | some b =>
    have e : aheadB ws g (some a) (some b) = if a = b then false else if suitsB ws g a = true then (if suitsB ws g b = true then decide ((rowOf ws g).idxOf a < (rowOf ws g).idxOf b) else true) else false := rfl
    rw [e] at h
    by_cases c : a = b
    · rw [if_pos c] at h; cases h
    · rw [if_neg c] at h
      by_cases c2 : suitsB ws g a = true
      · exact c2
      · rw [if_neg c2] at h; cases h
theorem mate_ms {ws : List (List Int)} (hG : Good ws) {M : Nat → Nat} (V : Tan.Mate (prefT ws hG) M) {ms : List (Option Int)} (ems : ms = byN ws.length fun a => selfO a (M a)) :
    OkMates ws ms ∧ Calm ws ms := by
  subst ems
  have em : ∀ a, a < ws.length → mt (byN ws.length fun a => selfO a (M a)) (a : Int) = selfO a (M a) := fun a ha => byN_mt ha
  refine ⟨⟨byN_len _ _, fun i m i0 i1 h => ?_⟩, fun i j i0 i1 j0 j1 ne => ?_⟩
  · obtain ⟨a, rfl⟩ := nat_of i0
    have ha : a < ws.length := by omega
    rw [em a ha] at h
    unfold selfO at h
    by_cases c : M a = a
    · rw [if_pos c] at h; cases h
    · rw [if_neg c] at h
      have e := Option.some.inj h
      rw [← e]
      have l := V.lt a ha
      refine ⟨by omega, by omega, ?_, ?_⟩
      · rw [em _ l]
        unfold selfO
        rw [V.inv a ha, if_neg (fun z => c z.symm)]
      · rcases V.ok a ha with h | h
        · exact absurd h.symm c
        · exact h
  · obtain ⟨a, rfl⟩ := nat_of i0
    obtain ⟨b, rfl⟩ := nat_of j0
    have ha : a < ws.length := by omega
    have hb : b < ws.length := by omega
    apply Bool.eq_false_iff.mpr
    intro h
    unfold wild at h
    rw [Bool.and_eq_true] at h
    have hs := ahead_suits h.1
    rw [em a ha, em b hb, ahead_rk hG hs (V.ok a ha), ahead_rk hG (by rw [suitsB_comm]; exact hs) (V.ok b hb)] at h
    exact V.calm a b ha hb (by omega) (.inr hs) ⟨of_decide_eq_true h.1, of_decide_eq_true h.2⟩
theorem mate_from {ws : List (List Int)} (hG : Good ws) {M : Nat → Nat} (V : Tan.Mate (prefT ws hG) M) :
    ∃ ms, OkMates ws ms ∧ Calm ws ms := ⟨_, mate_ms hG V rfl⟩
theorem calm_to {ws : List (List Int)} {ms : List (Option Int)} (c : Calm ws ms) : (wildAll ws ms).isEmpty = true := by
  have h1 : ∀ (i t : Nat), i + 1 + t ≤ ws.length → wildIn ws ms i t = [] := by
    intro i t
    induction t with
    | zero => exact fun _ => rfl
    | succ t ih =>
      intro ht
      unfold wildIn
      rw [ih (by omega), c (i : Int) ((i : Int) + 1 + (t : Int)) (by omega) (by omega) (by omega) (by omega) (by omega)]
      rfl
  have h2 : ∀ k, k ≤ ws.length → wildUp ws ms ws.length k = [] := by
    intro k
    induction k with
    | zero => exact fun _ => rfl
    | succ k ih =>
      intro hk
      unfold wildUp
      rw [ih (by omega), h1 k _ (by omega)]
      rfl
  unfold wildAll
  rw [h2 _ (Nat.le_refl _)]
  rfl
/-- calm mates are told -/
theorem calm_in {ws : List (List Int)} (hG : Good ws) {ms : List (Option Int)} (o : OkMates ws ms) (c : Calm ws ms) : ms ∈ allCalm ws :=
  List.mem_filter.mpr ⟨all_in hG o, calm_to c⟩
theorem calm_out {ws : List (List Int)} {ms : List (Option Int)} (h : ms ∈ allCalm ws) : OkMates ws ms ∧ Calm ws ms :=
  ⟨stage_ok ws ws.length (Nat.le_refl _) ms (List.mem_filter.mp h).1, calm_of (List.mem_filter.mp h).2⟩

/-! #### Parties -/
structure OkAfter (n : Nat) (ns : List Int) : Prop where
  len : ns.length = n
  rg : ∀ x ∈ ns, 0 ≤ x ∧ x < (n : Int)
  nd : ns.Nodup
def nxI (ns : List Int) (i : Int) : Int := ns.getD i.toNat 0
def hdI (ns : List Int) (i : Int) : Option Int := if nxI ns i = i then none else some ((ns.idxOf i : Nat) : Int)
def fN (ns : List Int) (a : Nat) : Nat := (nxI ns (a : Int)).toNat
def lN (ns : List Int) (a : Nat) : Nat := ns.idxOf (a : Int)
structure HoldsP (ws : List (List Int)) (ns : List Int) : Prop where
  s : ∀ i : Int, 0 ≤ i → i < (ws.length : Int) → nxI ns i ≠ i → suitsB ws i (nxI ns i) = true
  a : ∀ i : Int, 0 ≤ i → i < (ws.length : Int) → nxI ns i ≠ i → nxI ns (nxI ns i) ≠ i → aheadB ws i (some (nxI ns i)) (hdI ns i) = true
  f : ∀ i j : Int, 0 ≤ i → i < (ws.length : Int) → 0 ≤ j → j < (ws.length : Int) → j ≠ i → ¬ (aheadB ws i (some j) (hdI ns i) = true ∧ aheadB ws j (some i) (hdI ns j) = true)

theorem nx_get {ns : List Int} {a : Nat} (h : a < ns.length) : ns[a]? = some (nxI ns (a : Int)) := by
  unfold nxI
  rw [List.getD_eq_getElem?_getD, Int.toNat_natCast, List.getElem?_eq_getElem h]
  rfl
theorem OkAfter.nx {n : Nat} {ns : List Int} (A : OkAfter n ns) {a : Nat} (h : a < n) : 0 ≤ nxI ns (a : Int) ∧ nxI ns (a : Int) < (n : Int) := by
  have hl := A.len
  exact A.rg _ (List.mem_of_getElem? (nx_get (ns := ns) (a := a) (by omega)))
theorem OkAfter.nxf {n : Nat} {ns : List Int} (A : OkAfter n ns) {a : Nat} (h : a < n) : nxI ns (a : Int) = (fN ns a : Int) := by
  have := A.nx h
  unfold fN
  omega
theorem OkAfter.fn {n : Nat} {ns : List Int} (A : OkAfter n ns) (a : Nat) (h : a < n) : fN ns a < n := by
  have := A.nx h
  unfold fN
  omega
theorem OkAfter.lf {n : Nat} {ns : List Int} (A : OkAfter n ns) (a : Nat) (h : a < n) : lN ns (fN ns a) = a := by
  have hl := A.len
  have g := nx_get (ns := ns) (a := a) (by omega)
  unfold lN
  rw [← A.nxf h]
  have hm := List.mem_of_getElem? g
  have p := at_index _ _ hm
  have lt : ns.idxOf (nxI ns (a : Int)) < ns.length := (List.getElem?_eq_some_iff.mp p).1
  exact (List.getElem?_inj lt A.nd).mp (p.trans g.symm)
theorem OkAfter.inj {n : Nat} {ns : List Int} (A : OkAfter n ns) (c d : Nat) (hc : c < n) (hd : d < n) (e : fN ns c = fN ns d) : c = d := by
  rw [← A.lf c hc, ← A.lf d hd, e]
theorem OkAfter.lnfl {n : Nat} {ns : List Int} (A : OkAfter n ns) (a : Nat) (h : a < n) : lN ns a < n ∧ fN ns (lN ns a) = a := by
  obtain ⟨b, hb, e⟩ := Tan.onto A.fn A.inj a h
  have := A.lf b hb
  rw [e] at this
  rw [this]
  exact ⟨hb, e⟩
theorem OkAfter.hd {n : Nat} {ns : List Int} (A : OkAfter n ns) {a : Nat} (h : a < n) : hdI ns (a : Int) = selfO a (lN ns a) := by
  unfold hdI selfO
  rw [A.nxf h]
  by_cases c : lN ns a = a
  · have := (A.lnfl a h).2
    rw [c] at this
    rw [if_pos c, if_pos (by omega)]
  · have : fN ns a ≠ a := fun z => c (by have := A.lf a h; rw [z] at this; exact this)
    rw [if_neg c, if_neg (by omega)]
    rfl
theorem hold_to {ws : List (List Int)} (hG : Good ws) {ns : List Int} (A : OkAfter ws.length ns) (h : HoldsP ws ns) : Tan.Hold (prefT ws hG) (fN ns) (lN ns) := by
  have okf : ∀ a, a < ws.length → okN ws a (fN ns a) := fun a ha => by
    by_cases c : fN ns a = a
    · exact .inl c.symm
    · have := h.s (a : Int) (by omega) (by omega) (by rw [A.nxf ha]; omega)
      rw [A.nxf ha] at this
      exact .inr this
  have okl : ∀ a, a < ws.length → okN ws a (lN ns a) := fun a ha => by
    have hl := A.lnfl a ha
    have := okf _ hl.1
    rw [hl.2] at this
    exact (prefT ws hG).symm _ _ this
  refine ⟨A.fn, fun a ha => (A.lnfl a ha).1, A.lf, fun a ha => (A.lnfl a ha).2, okf, fun a ha => ?_, fun a b ha hb ne hk z => ?_⟩
  · show rkN ws a (fN ns a) ≤ rkN ws a (lN ns a)
    by_cases c : fN ns a = a
    · have : lN ns a = a := by have := A.lf a ha; rw [c] at this; exact this
      rw [c, this]
      exact Nat.le_refl _
    · have hf := A.fn a ha
      by_cases c2 : fN ns (fN ns a) = a
      · have := A.lf _ hf
        rw [c2] at this
        rw [this]
        exact Nat.le_refl _
      · have q := h.a (a : Int) (by omega) (by omega) (by rw [A.nxf ha]; omega) (by rw [A.nxf ha, A.nxf hf]; omega)
        rw [A.nxf ha, A.hd ha] at q
        have hs := ahead_suits q
        rw [ahead_rk hG hs (okl a ha)] at q
        exact Nat.le_of_lt (of_decide_eq_true q)
  · rcases hk with hk | hk
    · exact ne hk
    · refine h.f (a : Int) (b : Int) (by omega) (by omega) (by omega) (by omega) (by omega) ?_
      rw [A.hd ha, A.hd hb, ahead_rk hG hk (okl a ha), ahead_rk hG (by rw [suitsB_comm]; exact hk) (okl b hb)]
      exact ⟨decide_eq_true z.1, decide_eq_true z.2⟩
theorem hold_from {ws : List (List Int)} (hG : Good ws) {f l : Nat → Nat} (V : Tan.Hold (prefT ws hG) f l) :
    ∃ ns, OkAfter ws.length ns ∧ HoldsP ws ns ∧ ∀ a, a < ws.length → fN ns a = f a ∧ lN ns a = l a := by
  have hnx : ∀ a, a < ws.length → nxI (byN ws.length fun a => (f a : Int)) (a : Int) = (f a : Int) := fun a ha => by
    have h1 := nx_get (ns := byN ws.length fun a => (f a : Int)) (a := a) (by rw [byN_len]; exact ha)
    rw [byN_get ha] at h1
    exact (Option.some.inj h1).symm
  have A : OkAfter ws.length (byN ws.length fun a => (f a : Int)) := by
    refine ⟨byN_len _ _, fun x hx => ?_, ?_⟩
    · obtain ⟨a, ha, rfl⟩ := List.mem_map.mp hx
      have := V.fn a (List.mem_range.mp ha)
      omega
    · refine List.pairwise_map.mpr (List.Pairwise.imp_of_mem (fun {a b} ha hb (ne : a ≠ b) z => ne ?_) List.nodup_range)
      have e : f a = f b := by omega
      rw [← V.lf a (List.mem_range.mp ha), ← V.lf b (List.mem_range.mp hb), e]
  have ef : ∀ a, a < ws.length → fN (byN ws.length fun a => (f a : Int)) a = f a := fun a ha => by
    unfold fN
    rw [hnx a ha]
    exact Int.toNat_natCast _
  have el : ∀ a, a < ws.length → lN (byN ws.length fun a => (f a : Int)) a = l a := fun a ha => by
    have h1 := A.lf (l a) (V.ln a ha)
    rw [ef _ (V.ln a ha), V.fl a ha] at h1
    exact h1
  refine ⟨_, A, ⟨fun i i0 i1 ne => ?_, fun i i0 i1 ne ne2 => ?_, fun i j i0 i1 j0 j1 ne z => ?_⟩, fun a ha => ⟨ef a ha, el a ha⟩⟩
  · obtain ⟨a, rfl⟩ := nat_of i0
    have ha : a < ws.length := by omega
    rw [hnx a ha] at ne ⊢
    rcases V.ok a ha with h | h
    · omega
    · exact h
  · obtain ⟨a, rfl⟩ := nat_of i0
    have ha : a < ws.length := by omega
    have hf := V.fn a ha
    rw [hnx a ha] at ne ne2 ⊢
    rw [hnx _ hf] at ne2
    have hs : suitsB ws (a : Int) (f a : Int) = true := by
      rcases V.ok a ha with h | h
      · omega
      · exact h
    rw [A.hd ha, el a ha, ahead_rk hG hs (V.okl (p := prefT ws hG) ha)]
    apply decide_eq_true
    have h1 : rkN ws a (f a) ≤ rkN ws a (l a) := V.up a ha
    have h2 : rkN ws a (f a) ≠ rkN ws a (l a) := fun z => by
      have e := (prefT ws hG).inj a _ _ (V.ok a ha) (V.okl (p := prefT ws hG) ha) z
      have e2 := V.fl a ha
      rw [← e] at e2
      omega
    omega
  · obtain ⟨a, rfl⟩ := nat_of i0
    obtain ⟨b, rfl⟩ := nat_of j0
    have ha : a < ws.length := by omega
    have hb : b < ws.length := by omega
    have hs := ahead_suits z.1
    rw [A.hd ha, A.hd hb, el a ha, el b hb, ahead_rk hG hs (V.okl (p := prefT ws hG) ha), ahead_rk hG (by rw [suitsB_comm]; exact hs) (V.okl (p := prefT ws hG) hb)] at z
    exact V.firm a b ha hb (by omega) (.inr hs) ⟨of_decide_eq_true z.1, of_decide_eq_true z.2⟩

theorem iter_same {n : Nat} {f g : Nat → Nat} (h : ∀ a, a < n → f a = g a) (hf : ∀ a, a < n → f a < n) {a : Nat} (ha : a < n) : ∀ k, Tan.iter f k a = Tan.iter g k a ∧ Tan.iter f k a < n
  | 0 => ⟨rfl, ha⟩
  | k + 1 => by
    have ih := iter_same h hf ha k
    refine ⟨?_, hf _ ih.2⟩
    show f (Tan.iter f k a) = g (Tan.iter g k a)
    rw [h _ ih.2, ih.1]
/-- an odd party of three or more -/
def OddAt (n : Nat) (ns : List Int) : Prop := ∃ a r, a < n ∧ fN ns (fN ns a) ≠ a ∧ r % 2 = 1 ∧ Tan.iter (fN ns) r a = a
theorem odd_no {ws : List (List Int)} (hG : Good ws) {ns : List Int} (A : OkAfter ws.length ns) (h : HoldsP ws ns) (od : OddAt ws.length ns) : allCalm ws = [] := by
  obtain ⟨a, r, ha, ne, hr, e⟩ := od
  cases q : allCalm ws with
  | nil => rfl
  | cons ms l =>
    obtain ⟨o, c⟩ := calm_out (ws := ws) (ms := ms) (by rw [q]; exact List.mem_cons_self ..)
    exact (Tan.odd_none (hold_to hG A h) (mate_to hG o c) ha (fun z => ne (by rw [z]; exact (A.lnfl a ha).2)) hr e).elim
theorem calm_or {ws : List (List Int)} (hG : Good ws) (q : allCalm ws = []) : ∃ ns, OkAfter ws.length ns ∧ HoldsP ws ns ∧ OddAt ws.length ns := by
  rcases Tan.either (prefT ws hG) with ⟨M, V⟩ | ⟨f, l, a, r, V, ha, ne, hr, e⟩
  · obtain ⟨ms, o, c⟩ := mate_from hG V
    have := calm_in hG o c
    rw [q] at this
    cases this
  · obtain ⟨ns, A, h, el⟩ := hold_from hG V
    refine ⟨ns, A, h, a, r, ha, fun z => ne ?_, hr, ?_⟩
    · rw [(el a ha).1, (el _ (V.fn a ha)).1] at z
      have := V.lf _ (V.fn a ha)
      rw [z] at this
      exact this.symm
    · rw [(iter_same (fun a ha => (el a ha).1) A.fn ha r).1]
      exact e
#print axioms calm_or
#print axioms odd_no
end B2

namespace B2
open PySem L2

/-! #### The rings of a list of next ones -/
theorem OkAfter.it {n : Nat} {ns : List Int} (A : OkAfter n ns) {a : Nat} (ha : a < n) (k : Nat) : Tan.iter (fN ns) k a < n := (iter_same (fun _ _ => rfl) A.fn ha k).2
theorem OkAfter.back {n : Nat} {ns : List Int} (A : OkAfter n ns) {a : Nat} (ha : a < n) (k : Nat) : ∀ i, Tan.iter (fN ns) i a = Tan.iter (fN ns) (i + k) a → Tan.iter (fN ns) k a = a
  | 0, h => by rw [Nat.zero_add] at h; exact h.symm
  | i + 1, h => by
    have e : i + 1 + k = (i + k) + 1 := by omega
    rw [e] at h
    exact A.back ha k i (A.inj _ _ (A.it ha i) (A.it ha (i + k)) h)
theorem OkAfter.per {n : Nat} {ns : List Int} (A : OkAfter n ns) {a : Nat} (ha : a < n) :
    ∃ d, (1 ≤ d ∧ Tan.iter (fN ns) d a = a) ∧ ∀ y, 1 ≤ y ∧ Tan.iter (fN ns) y a = a → d ≤ y := by
  obtain ⟨i, j, lt, e⟩ := Tan.comes_back (n := n) (fun k => Tan.iter (fN ns) k a) (A.it ha)
  have e2 : j = i + (j - i) := by omega
  have e1 : Tan.iter (fN ns) i a = Tan.iter (fN ns) j a := e
  rw [e2] at e1
  exact Tan.least (fun x => x) (fun d => 1 ≤ d ∧ Tan.iter (fN ns) d a = a) ⟨j - i, by omega, A.back ha _ _ e1⟩
/-- how many sit in a's party -/
noncomputable def perN (ns : List Int) (a : Nat) : Nat := open Classical in
  if h : ∃ d, (1 ≤ d ∧ Tan.iter (fN ns) d a = a) ∧ ∀ y, 1 ≤ y ∧ Tan.iter (fN ns) y a = a → d ≤ y then Classical.choose h else 0
theorem OkAfter.per1 {n : Nat} {ns : List Int} (A : OkAfter n ns) {a : Nat} (ha : a < n) : 1 ≤ perN ns a ∧ Tan.iter (fN ns) (perN ns a) a = a ∧ ∀ y, 1 ≤ y → Tan.iter (fN ns) y a = a → perN ns a ≤ y := by
  have h := A.per ha
  have e : perN ns a = Classical.choose h := dif_pos h
  rw [e]
  have := Classical.choose_spec h
  exact ⟨this.1.1, this.1.2, fun y y1 y2 => this.2 y ⟨y1, y2⟩⟩
/-- the first k of a's party -/
def partN (ns : List Int) (a k : Nat) : List Nat := (List.range k).map fun j => Tan.iter (fN ns) j a
theorem OkAfter.part_nd {n : Nat} {ns : List Int} (A : OkAfter n ns) {a : Nat} (ha : a < n) : (partN ns a (perN ns a)).Nodup := by
  refine List.pairwise_map.mpr (List.Pairwise.imp_of_mem (fun {i j} hi hj (lt : i < j) z => ?_) List.pairwise_lt_range)
  have e2 : j = i + (j - i) := by omega
  rw [e2] at z
  have h1 := A.back ha _ _ z
  have h2 := (A.per1 ha).2.2 (j - i) (by omega) h1
  have h3 := List.mem_range.mp hj
  omega
theorem OkAfter.per_le {n : Nat} {ns : List Int} (A : OkAfter n ns) {a : Nat} (ha : a < n) : perN ns a ≤ n := by
  have h := Tan.few n (partN ns a (perN ns a)) (A.part_nd ha) fun x hx => by
    obtain ⟨j, _, rfl⟩ := List.mem_map.mp hx
    exact A.it ha j
  unfold partN at h
  rw [List.length_map, List.length_range] at h
  exact h
def intsN (l : List Nat) : List Int := l.map fun (x : Nat) => (x : Int)
noncomputable def ringN (ns : List Int) (a : Nat) : List Int := intsN (partN ns a (perN ns a))
noncomputable def leadB (ns : List Int) (a : Nat) : Bool := (partN ns a (perN ns a)).all fun x => decide (a ≤ x)
noncomputable def ringsUp (ns : List Int) (k : Nat) : List (List Int) := ((List.range k).filter (leadB ns)).map (ringN ns)
noncomputable def ringsL (ns : List Int) : List (List Int) := ringsUp ns ns.length
theorem part_len (ns : List Int) (a k : Nat) : (partN ns a k).length = k := by
  unfold partN
  rw [List.length_map, List.length_range]
theorem part_succ (ns : List Int) (a k : Nat) : partN ns a (k + 1) = partN ns a k ++ [Tan.iter (fN ns) k a] := by
  unfold partN
  rw [List.range_succ, List.map_append]
  rfl
theorem ringN_len (ns : List Int) (a : Nat) : (ringN ns a).length = perN ns a := by
  unfold ringN intsN
  rw [List.length_map, part_len]
theorem ringsUp_succ (ns : List Int) (k : Nat) : ringsUp ns (k + 1) = ringsUp ns k ++ (if leadB ns k = true then [ringN ns k] else []) := by
  unfold ringsUp
  rw [List.range_succ, List.filter_append, List.map_append]
  congr 1
  rw [List.filter_cons]
  by_cases c : leadB ns k = true
  · rw [if_pos c, if_pos c]; rfl
  · rw [if_neg c, if_neg c]; rfl
theorem ringsUp_len (ns : List Int) (k : Nat) : (ringsUp ns k).length ≤ k := by
  unfold ringsUp
  rw [List.length_map]
  have := List.length_filter_le (leadB ns) (List.range k)
  rw [List.length_range] at this
  exact this
theorem OkAfter.part_in {n : Nat} {ns : List Int} (A : OkAfter n ns) {a : Nat} (ha : a < n) : a ∈ partN ns a (perN ns a) := by
  have := (A.per1 ha).1
  exact List.mem_map.mpr ⟨0, List.mem_range.mpr (by omega), rfl⟩
end B2

namespace B2
open PySem L2

/-! #### Who sits where, and the mates that come of parties -/
theorem OkAfter.mul {n : Nat} {ns : List Int} (A : OkAfter n ns) {a : Nat} (ha : a < n) : ∀ m, Tan.iter (fN ns) (perN ns a * m) a = a
  | 0 => rfl
  | m + 1 => by
    rw [Nat.mul_succ, Tan.iter_add, A.mul ha m]
    exact (A.per1 ha).2.1
theorem OkAfter.mod {n : Nat} {ns : List Int} (A : OkAfter n ns) {a : Nat} (ha : a < n) (j : Nat) : Tan.iter (fN ns) (j % perN ns a) a = Tan.iter (fN ns) j a := by
  have e := Nat.div_add_mod j (perN ns a)
  have h : Tan.iter (fN ns) (perN ns a * (j / perN ns a) + j % perN ns a) a = Tan.iter (fN ns) (j % perN ns a) a := by
    rw [Tan.iter_add, A.mul ha]
  rw [e] at h
  exact h.symm
theorem OkAfter.undo {n : Nat} {ns : List Int} (A : OkAfter n ns) {a : Nat} (ha : a < n) (k : Nat) : ∃ j, Tan.iter (fN ns) j (Tan.iter (fN ns) k a) = a := by
  refine ⟨perN ns a * k - k, ?_⟩
  rw [← Tan.iter_add]
  have h1 := (A.per1 ha).1
  have h2 : 1 * k ≤ perN ns a * k := Nat.mul_le_mul_right k h1
  have e : k + (perN ns a * k - k) = perN ns a * k := by omega
  rw [e]
  exact A.mul ha k
theorem lead_le {ns : List Int} {a : Nat} (h : leadB ns a = true) {k : Nat} (hk : k < perN ns a) : a ≤ Tan.iter (fN ns) k a := by
  unfold leadB at h
  rw [List.all_eq_true] at h
  exact of_decide_eq_true (h _ (List.mem_map.mpr ⟨k, List.mem_range.mpr hk, rfl⟩))
theorem OkAfter.lead_all {n : Nat} {ns : List Int} (A : OkAfter n ns) {a : Nat} (ha : a < n) (h : leadB ns a = true) (j : Nat) : a ≤ Tan.iter (fN ns) j a := by
  rw [← A.mod ha j]
  have := (A.per1 ha).1
  exact lead_le h (Nat.mod_lt _ (by omega))
theorem OkAfter.lead {n : Nat} {ns : List Int} (A : OkAfter n ns) {x : Nat} (hx : x < n) :
    ∃ a k : Nat, a < n ∧ leadB ns a = true ∧ k < perN ns a ∧ Tan.iter (fN ns) k a = x := by
  obtain ⟨a, ⟨k, hk⟩, hle⟩ := Tan.least (fun y => y) (fun y => ∃ k, Tan.iter (fN ns) k x = y) ⟨x, 0, rfl⟩
  have ha : a < n := by rw [← hk]; exact A.it hx k
  obtain ⟨j, hj⟩ := A.undo hx k
  rw [hk] at hj
  have hp := (A.per1 ha).1
  refine ⟨a, j % perN ns a, ha, ?_, Nat.mod_lt _ (by omega), (A.mod ha j).trans hj⟩
  unfold leadB
  rw [List.all_eq_true]
  intro y hy
  obtain ⟨i, _, rfl⟩ := List.mem_map.mp hy
  exact decide_eq_true (hle _ ⟨k + i, by rw [Tan.iter_add, hk]⟩)
theorem OkAfter.lead_one {n : Nat} {ns : List Int} (A : OkAfter n ns) {a b i j : Nat} (ha : a < n) (hb : b < n) (la : leadB ns a = true) (lb : leadB ns b = true) (hi : i < perN ns a) (hj : j < perN ns b)
    (e : Tan.iter (fN ns) i a = Tan.iter (fN ns) j b) : a = b ∧ i = j := by
  have h1 : a ≤ b := by
    obtain ⟨t, ht⟩ := A.undo hb j
    rw [← e, ← Tan.iter_add] at ht
    have := A.lead_all ha la (i + t)
    rw [ht] at this
    exact this
  have h2 : b ≤ a := by
    obtain ⟨t, ht⟩ := A.undo ha i
    rw [e, ← Tan.iter_add] at ht
    have := A.lead_all hb lb (j + t)
    rw [ht] at this
    exact this
  have h3 : a = b := by omega
  refine ⟨h3, ?_⟩
  subst h3
  by_cases c : i < j
  · have e2 : j = i + (j - i) := by omega
    rw [e2] at e
    have := (A.per1 ha).2.2 (j - i) (by omega) (A.back ha _ _ e)
    omega
  · by_cases c2 : j < i
    · have e2 : i = j + (i - j) := by omega
      rw [e2] at e
      have := (A.per1 ha).2.2 (i - j) (by omega) (A.back ha _ _ e.symm)
      omega
    · omega
/-- the least guest of x's party, and how far behind it x sits -/
noncomputable def seatN (ns : List Int) (x : Nat) : Nat × Nat := open Classical in
  if h : ∃ p : Nat × Nat, p.1 < ns.length ∧ leadB ns p.1 = true ∧ p.2 < perN ns p.1 ∧ Tan.iter (fN ns) p.2 p.1 = x then Classical.choose h else (0, 0)
theorem OkAfter.seat {n : Nat} {ns : List Int} (A : OkAfter n ns) {a k : Nat} (ha : a < n) (la : leadB ns a = true) (hk : k < perN ns a) : seatN ns (Tan.iter (fN ns) k a) = (a, k) := by
  have hl := A.len
  have h : ∃ p : Nat × Nat, p.1 < ns.length ∧ leadB ns p.1 = true ∧ p.2 < perN ns p.1 ∧ Tan.iter (fN ns) p.2 p.1 = Tan.iter (fN ns) k a := ⟨(a, k), by rw [hl]; exact ha, la, hk, rfl⟩
  have e : seatN ns (Tan.iter (fN ns) k a) = Classical.choose h := dif_pos h
  rw [e]
  obtain ⟨h1, h2, h3, h4⟩ := Classical.choose_spec h
  have h1' := Nat.lt_of_lt_of_eq h1 hl
  obtain ⟨e1, e2⟩ := A.lead_one h1' ha h2 la h3 hk h4
  exact Prod.ext e1 e2
/-- x's mate: the one behind it, or the one ahead of it, in turns along the party -/
noncomputable def pmN (ns : List Int) (s : Bool) (x : Nat) : Nat := if (decide ((seatN ns x).2 % 2 = 0) == s) = true then fN ns x else lN ns x
noncomputable def pairMs (ns : List Int) (s : Bool) : List (Option Int) := byN ns.length fun x => selfO x (pmN ns s x)
/-- no party of three or five -/
def EvenAll (n : Nat) (ns : List Int) : Prop := ∀ a, a < n → leadB ns a = true → perN ns a = 1 ∨ perN ns a % 2 = 0
theorem OkAfter.nexts {n : Nat} {ns : List Int} (A : OkAfter n ns) {a k : Nat} (ha : a < n) (hk : k < perN ns a) :
    fN ns (Tan.iter (fN ns) k a) = Tan.iter (fN ns) ((k + 1) % perN ns a) a ∧ lN ns (Tan.iter (fN ns) k a) = Tan.iter (fN ns) (if k = 0 then perN ns a - 1 else k - 1) a := by
  have hp := (A.per1 ha).1
  refine ⟨(A.mod ha (k + 1)).symm, ?_⟩
  by_cases c : k = 0
  · rw [if_pos c, c]
    have e : fN ns (Tan.iter (fN ns) (perN ns a - 1) a) = a := by
      have h := (A.per1 ha).2.1
      have e2 : perN ns a = (perN ns a - 1) + 1 := by omega
      rw [e2] at h
      exact h
    have h := A.lf _ (A.it ha (perN ns a - 1))
    rw [e] at h
    exact h
  · rw [if_neg c]
    have e2 : k = (k - 1) + 1 := by omega
    have e : fN ns (Tan.iter (fN ns) (k - 1) a) = Tan.iter (fN ns) k a := by
      rw [e2]
      rfl
    have h := A.lf _ (A.it ha (k - 1))
    rw [e] at h
    exact h
theorem OkAfter.pm_at {n : Nat} {ns : List Int} (A : OkAfter n ns) {a k : Nat} (ha : a < n) (la : leadB ns a = true) (hk : k < perN ns a) (s : Bool) :
    pmN ns s (Tan.iter (fN ns) k a) = if (decide (k % 2 = 0) == s) = true then Tan.iter (fN ns) ((k + 1) % perN ns a) a else Tan.iter (fN ns) (if k = 0 then perN ns a - 1 else k - 1) a := by
  unfold pmN
  rw [A.seat ha la hk, (A.nexts ha hk).1, (A.nexts ha hk).2]
theorem OkAfter.pm_inv {n : Nat} {ns : List Int} (A : OkAfter n ns) (ev : EvenAll n ns) (s : Bool) {x : Nat} (hx : x < n) : pmN ns s (pmN ns s x) = x := by
  obtain ⟨a, k, ha, la, hk, rfl⟩ := A.lead hx
  have hp := (A.per1 ha).1
  rw [A.pm_at ha la hk]
  by_cases c : (decide (k % 2 = 0) == s) = true
  · rw [if_pos c, A.pm_at ha la (Nat.mod_lt _ (by omega))]
    rcases ev a ha la with h1 | h1
    · have k0 : k = 0 := by omega
      subst k0
      rw [h1]
      simp only [Nat.mod_one]
      split <;> rfl
    · by_cases c2 : k + 1 < perN ns a
      · rw [Nat.mod_eq_of_lt c2]
        have : ¬ (decide ((k + 1) % 2 = 0) == s) = true := by
          by_cases z : k % 2 = 0
          · rw [decide_eq_true z] at c
            rw [decide_eq_false (by omega)]
            cases s <;> simp_all
          · rw [decide_eq_false z] at c
            rw [decide_eq_true (by omega)]
            cases s <;> simp_all
        rw [if_neg this, if_neg (by omega)]
        rfl
      · have e : k + 1 = perN ns a := by omega
        rw [e, Nat.mod_self]
        have : ¬ (decide (0 % 2 = 0) == s) = true := by
          rw [decide_eq_false (by omega)] at c
          rw [decide_eq_true (by omega)]
          cases s <;> simp_all
        rw [if_neg this, if_pos rfl]
        have e3 : perN ns a - 1 = k := by omega
        rw [e3]
  · rw [if_neg c]
    by_cases k0 : k = 0
    · rw [if_pos k0, A.pm_at ha la (by omega)]
      rcases ev a ha la with h1 | h1
      · rw [h1, k0]
        split <;> rfl
      · have : (decide ((perN ns a - 1) % 2 = 0) == s) = true := by
          rw [decide_eq_true (by omega)] at c
          rw [decide_eq_false (by omega)]
          cases s <;> simp_all
        rw [if_pos this]
        have e : perN ns a - 1 + 1 = perN ns a := by omega
        rw [e, Nat.mod_self, k0]
    · rw [if_neg k0, A.pm_at ha la (by omega)]
      have : (decide ((k - 1) % 2 = 0) == s) = true := by
        by_cases z : k % 2 = 0
        · rw [decide_eq_true z] at c
          rw [decide_eq_false (by omega)]
          cases s <;> simp_all
        · rw [decide_eq_false z] at c
          rw [decide_eq_true (by omega)]
          cases s <;> simp_all
      rw [if_pos this]
      have e : k - 1 + 1 = k := by omega
      rw [e, Nat.mod_eq_of_lt hk]
theorem OkAfter.pm_or (ns : List Int) (s : Bool) (x : Nat) : pmN ns s x = fN ns x ∨ pmN ns s x = lN ns x := by
  unfold pmN
  split
  · exact .inl rfl
  · exact .inr rfl
/-- parties that hold, without one of three or five: both ways make calm mates -/
theorem pair_calm {ws : List (List Int)} (hG : Good ws) {ns : List Int} (A : OkAfter ws.length ns) (h : HoldsP ws ns) (ev : EvenAll ws.length ns) (s : Bool) : OkMates ws (pairMs ns s) ∧ Calm ws (pairMs ns s) := by
  have V := Tan.side_calm (prefT ws hG) (hold_to hG A h) (M := pmN ns s) (fun a _ => OkAfter.pm_or ns s a) (fun a ha => A.pm_inv ev s ha)
  exact mate_ms hG V (by unfold pairMs; rw [A.len])
/-- a party of three or five, as the mathematics has it -/
theorem OkAfter.odd {n : Nat} {ns : List Int} (A : OkAfter n ns) {a : Nat} (ha : a < n) (h1 : perN ns a ≠ 1) (h2 : perN ns a % 2 = 1) : OddAt n ns := by
  have hp := A.per1 ha
  refine ⟨a, perN ns a, ha, fun z => ?_, h2, hp.2.1⟩
  have := hp.2.2 2 (by omega) z
  omega
theorem OkAfter.odd_at {n : Nat} {ns : List Int} (A : OkAfter n ns) (h : OddAt n ns) : ∃ a, a < n ∧ leadB ns a = true ∧ perN ns a ≠ 1 ∧ perN ns a % 2 = 1 := by
  obtain ⟨x, r, hx, ne, hr, e⟩ := h
  obtain ⟨a, k, ha, la, hk, rfl⟩ := A.lead hx
  have hp := A.per1 ha
  have ea : Tan.iter (fN ns) r a = a := by
    rw [← Tan.iter_add] at e
    obtain ⟨j, hj⟩ := A.undo ha k
    have h1 : Tan.iter (fN ns) (k + r + j) a = a := by
      rw [Tan.iter_add, e]
      exact hj
    rw [← Tan.iter_add] at hj
    have e2 : k + r + j = (k + j) + r := by omega
    rw [e2, Tan.iter_add, hj] at h1
    exact h1
  refine ⟨a, ha, la, fun z => ne ?_, ?_⟩
  · have k0 : k = 0 := by omega
    subst k0
    have h1 := hp.2.1
    rw [z] at h1
    have h2 : fN ns a = a := h1
    show fN ns (fN ns a) = a
    rw [h2, h2]
  · have h1 := A.mod ha r
    rw [ea] at h1
    have h2 : r % perN ns a = 0 := by
      by_cases c : r % perN ns a = 0
      · exact c
      · have h3 := hp.2.2 (r % perN ns a) (by omega) h1
        have h4 := Nat.mod_lt r (show perN ns a > 0 by omega)
        omega
    have h3 := Nat.div_add_mod r (perN ns a)
    rw [h2, Nat.add_zero] at h3
    by_cases c : perN ns a % 2 = 1
    · exact c
    · have h5 : (perN ns a * (r / perN ns a)) % 2 = 0 := by
        rw [Nat.mul_mod]
        have : perN ns a % 2 = 0 := by omega
        rw [this, Nat.zero_mul]
      omega
end B2
namespace B2
open PySem L2
theorem sub_len {α : Type} [BEq α] [LawfulBEq α] : ∀ (l l' : List α), l.Nodup → (∀ x ∈ l, x ∈ l') → l.length ≤ l'.length
  | [], _, _, _ => Nat.zero_le _
  | x :: l, l', nd, h => by
    have nd' := List.nodup_cons.mp nd
    have hx := h x (List.mem_cons_self ..)
    have ih := sub_len l (l'.erase x) nd'.2 fun y hy => (List.mem_erase_of_ne (fun e => nd'.1 (by rw [← e]; exact hy))).mpr (h y (List.mem_cons_of_mem _ hy))
    rw [List.length_erase_of_mem hx] at ih
    have : 0 < l'.length := List.length_pos_of_mem hx
    rw [List.length_cons]
    omega
noncomputable def leadsL (ns : List Int) : List Nat := (List.range ns.length).filter (leadB ns)
theorem lens_sum (ns : List Int) : ∀ l : List Nat, (l.map fun a => partN ns a (perN ns a)).flatten.length = (l.map fun a => perN ns a).sum
  | [] => rfl
  | a :: l => by
    rw [List.map_cons, List.flatten_cons, List.length_append, part_len, lens_sum ns l, List.map_cons, List.sum_cons]
theorem ints_sum : ∀ (l : List (List Int)), (l.map fun r => (r.length : Int)).sum = (((l.map fun r => r.length).sum : Nat) : Int)
  | [] => rfl
  | a :: l => by
    rw [List.map_cons, List.sum_cons, ints_sum l, List.map_cons, List.sum_cons]
    omega
/-- all guests sit in the parties -/
theorem OkAfter.all_sit {n : Nat} {ns : List Int} (A : OkAfter n ns) : ((ringsL ns).map fun r => (r.length : Int)).sum = (n : Int) := by
  have hl := A.len
  rw [ints_sum]
  have e1 : ((ringsL ns).map fun r => r.length) = (leadsL ns).map fun a => perN ns a := by
    unfold ringsL ringsUp leadsL
    rw [List.map_map]
    exact List.map_congr_left fun a _ => ringN_len ns a
  rw [e1, ← lens_sum]
  have hmem : ∀ a ∈ leadsL ns, a < n ∧ leadB ns a = true := fun a ha => by
    have := List.mem_filter.mp ha
    exact ⟨by have h := List.mem_range.mp this.1; omega, this.2⟩
  have ndl : (leadsL ns).Nodup := List.Nodup.sublist List.filter_sublist List.nodup_range
  have nd : ((leadsL ns).map fun a => partN ns a (perN ns a)).flatten.Nodup := by
    unfold List.Nodup
    rw [List.pairwise_flatten]
    refine ⟨fun l hl => ?_, ?_⟩
    · obtain ⟨a, ha, rfl⟩ := List.mem_map.mp hl
      exact A.part_nd (hmem a ha).1
    · refine List.pairwise_map.mpr (List.Pairwise.imp_of_mem (fun {a b} ha hb (ne : a ≠ b) x hx y hy e => ne ?_) ndl)
      obtain ⟨i, hi, rfl⟩ := List.mem_map.mp hx
      obtain ⟨j, hj, rfl⟩ := List.mem_map.mp hy
      exact (A.lead_one (hmem a ha).1 (hmem b hb).1 (hmem a ha).2 (hmem b hb).2 (List.mem_range.mp hi) (List.mem_range.mp hj) e).1
  have h1 := Tan.few n _ nd fun x hx => by
    obtain ⟨l, hl, hx⟩ := List.mem_flatten.mp hx
    obtain ⟨a, ha, rfl⟩ := List.mem_map.mp hl
    obtain ⟨i, _, rfl⟩ := List.mem_map.mp hx
    exact A.it (hmem a ha).1 i
  have h2 := sub_len (List.range n) ((leadsL ns).map fun a => partN ns a (perN ns a)).flatten List.nodup_range fun x hx => by
    obtain ⟨a, k, ha, la, hk, e⟩ := A.lead (List.mem_range.mp hx)
    refine List.mem_flatten.mpr ⟨_, List.mem_map.mpr ⟨a, List.mem_filter.mpr ⟨List.mem_range.mpr (by omega), la⟩, rfl⟩, List.mem_map.mpr ⟨k, List.mem_range.mpr hk, e⟩⟩
  rw [List.length_range] at h2
  omega
theorem twos_fin : ∀ d : Fin 7, ∀ k : Fin 7, ∀ s : Bool, k.val < d.val → ((((k.val : Nat) : Int) + (if s = true then 1 else -1) * (1 - 2 * (((k.val : Nat) : Int) % 2))) % ((d.val : Nat) : Int)) =
    (((if (decide (k.val % 2 = 0) == s) = true then (k.val + 1) % d.val else if k.val = 0 then d.val - 1 else k.val - 1) : Nat) : Int) := by decide +kernel
theorem twos_ix {d k : Nat} (s : Bool) (hk : k < d) (h6 : d ≤ 6) : (((k : Int) + (if s = true then 1 else -1) * (1 - 2 * ((k : Int) % 2))) % (d : Int)) =
    (((if (decide (k % 2 = 0) == s) = true then (k + 1) % d else if k = 0 then d - 1 else k - 1) : Nat) : Int) := twos_fin ⟨d, by omega⟩ ⟨k, by omega⟩ s hk
theorem OkAfter.pm_ix {n : Nat} {ns : List Int} (A : OkAfter n ns) {a k : Nat} (ha : a < n) (la : leadB ns a = true) (hk : k < perN ns a) (h6 : n ≤ 6) (s : Bool) :
    ∃ j : Nat, j < perN ns a ∧ (((k : Int) + (if s = true then 1 else -1) * (1 - 2 * ((k : Int) % 2))) % (perN ns a : Int)) = (j : Int) ∧ pmN ns s (Tan.iter (fN ns) k a) = Tan.iter (fN ns) j a := by
  have hp := A.per_le ha
  refine ⟨_, ?_, twos_ix s hk (by omega), ?_⟩
  · have := Nat.mod_lt (k + 1) (show perN ns a > 0 by omega)
    split
    · exact this
    · split <;> omega
  · rw [A.pm_at ha la hk]
    split
    · rfl
    · rfl
end B2
namespace B2
open PySem L2
def oddR (r : List Int) : Bool := decide ((r.length : Int) > 1) && decide ((r.length : Int) % 2 = 1)
theorem OkAfter.odd_none {n : Nat} {ns : List Int} (A : OkAfter n ns) : (ringsL ns).filter oddR = [] ↔ EvenAll n ns := by
  have hl := A.len
  rw [List.filter_eq_nil_iff]
  constructor
  · intro h a ha la
    have hp := (A.per1 ha).1
    have h1 := h (ringN ns a) (List.mem_map.mpr ⟨a, List.mem_filter.mpr ⟨List.mem_range.mpr (by omega), la⟩, rfl⟩)
    unfold oddR at h1
    rw [ringN_len, Bool.and_eq_true, decide_eq_true_eq, decide_eq_true_eq] at h1
    omega
  · intro h r hr
    obtain ⟨a, ha, rfl⟩ := List.mem_map.mp hr
    have h2 := List.mem_filter.mp ha
    have h3 := List.mem_range.mp h2.1
    have h4 := h a (by omega) h2.2
    unfold oddR
    rw [ringN_len, Bool.and_eq_true, decide_eq_true_eq, decide_eq_true_eq]
    omega
end B2

namespace B2
open PySem L2

/-! #### Wishes made for a list of next ones: the parties hold -/
theorem idx_ne {x a : Int} (l : List Int) (h : a ≠ x) : (a :: l).idxOf x = l.idxOf x + 1 := by
  have e : (a == x) = false := beq_eq_false_iff_ne.mpr h
  rw [List.idxOf_cons, e]
  rfl
structure MadeRow (ns : List Int) (g : Nat) (r : List Int) : Prop where
  ne : fN ns g ≠ g → ∃ t, r = (fN ns g : Int) :: t ∧ (lN ns g ≠ fN ns g → ∃ t2, t = (lN ns g : Int) :: t2)
  al : fN ns g = g → ∀ x ∈ r, nxI ns x ≠ x
theorem made_holds {ws : List (List Int)} (hG : Good ws) {ns : List Int} (A : OkAfter ws.length ns) (h : ∀ (g : Nat) (r : List Int), ws[g]? = some r → MadeRow ns g r) : HoldsP ws ns := by
  have row : ∀ g : Nat, g < ws.length → MadeRow ns g (rowOf ws (g : Int)) := fun g hg => by
    have e := (rowOf_get (ws := ws) (i := (g : Int)) (by omega) (by omega)).1
    rw [Int.toNat_natCast] at e
    exact h g _ e
  have fl : ∀ g : Nat, g < ws.length → fN ns g = g → lN ns g = g := fun g hg e => by have := A.lf g hg; rw [e] at this; exact this
  have lf : ∀ g : Nat, g < ws.length → lN ns g = g → fN ns g = g := fun g hg e => by have := (A.lnfl g hg).2; rw [e] at this; exact this
  have inF : ∀ g : Nat, g < ws.length → fN ns g ≠ g → (fN ns g : Int) ∈ rowOf ws (g : Int) := fun g hg ne => by
    obtain ⟨t, e, _⟩ := (row g hg).ne ne
    rw [e]
    exact List.mem_cons_self ..
  have inL : ∀ g : Nat, g < ws.length → fN ns g ≠ g → (lN ns g : Int) ∈ rowOf ws (g : Int) := fun g hg ne => by
    obtain ⟨t, e, e2⟩ := (row g hg).ne ne
    by_cases c : lN ns g = fN ns g
    · rw [c]; exact inF g hg ne
    · obtain ⟨t2, e3⟩ := e2 c
      rw [e, e3]
      exact List.mem_cons_of_mem _ (List.mem_cons_self ..)
  have suF : ∀ g : Nat, g < ws.length → fN ns g ≠ g → suitsB ws (g : Int) (fN ns g : Int) = true := fun g hg ne => by
    have hf := A.fn g hg
    unfold suitsB
    have h1 := inF g hg ne
    have h2 := inL (fN ns g) hf (fun z => ne (by have := A.lf g hg; rw [fl _ hf z] at this; exact this))
    rw [A.lf g hg] at h2
    rw [decide_eq_true h1, decide_eq_true h2]
    rfl
  have suL : ∀ g : Nat, g < ws.length → fN ns g ≠ g → suitsB ws (g : Int) (lN ns g : Int) = true := fun g hg ne => by
    have hl := A.lnfl g hg
    have := suF (lN ns g) hl.1 (by rw [hl.2]; exact fun z => ne (lf g hg z.symm))
    rw [hl.2, suitsB_comm] at this
    exact this
  -- who is ahead of the one ahead: only the next one, in a party of three or more
  have only : ∀ (g : Nat) (j : Int), g < ws.length → fN ns g ≠ g → aheadB ws (g : Int) (some j) (hdI ns (g : Int)) = true → j = (fN ns g : Int) := fun g j hg ne ha => by
    have hs := ahead_suits ha
    have hl := suL g hg ne
    rw [A.hd hg] at ha
    unfold selfO at ha
    rw [if_neg (fun z => ne (lf g hg z))] at ha
    have e : aheadB ws (g : Int) (some j) (some (lN ns g : Int)) = if j = (lN ns g : Int) then false else if suitsB ws (g : Int) j = true then (if suitsB ws (g : Int) (lN ns g : Int) = true then decide ((rowOf ws (g : Int)).idxOf j < (rowOf ws (g : Int)).idxOf (lN ns g : Int)) else true) else false := rfl
    rw [e] at ha
    by_cases c : j = (lN ns g : Int)
    · rw [if_pos c] at ha; cases ha
    rw [if_neg c, if_pos hs, if_pos hl] at ha
    have hlt := of_decide_eq_true ha
    obtain ⟨t, er, e2⟩ := (row g hg).ne ne
    by_cases c2 : j = (fN ns g : Int)
    · exact c2
    exfalso
    rw [er] at hlt
    by_cases c3 : lN ns g = fN ns g
    · rw [c3, List.idxOf_cons_self] at hlt
      omega
    · obtain ⟨t2, e3⟩ := e2 c3
      rw [e3, idx_ne _ (fun z => c2 z.symm), idx_ne _ (fun z => c z.symm), idx_ne _ (show (fN ns g : Int) ≠ (lN ns g : Int) by omega), List.idxOf_cons_self] at hlt
      omega
  refine ⟨fun i i0 i1 ne => ?_, fun i i0 i1 ne ne2 => ?_, fun i j i0 i1 j0 j1 ne z => ?_⟩
  · obtain ⟨g, rfl⟩ := nat_of i0
    have hg : g < ws.length := by omega
    rw [A.nxf hg] at ne ⊢
    exact suF g hg (by omega)
  · obtain ⟨g, rfl⟩ := nat_of i0
    have hg : g < ws.length := by omega
    have hf := A.fn g hg
    rw [A.nxf hg] at ne ne2 ⊢
    rw [A.nxf hf] at ne2
    have ne' : fN ns g ≠ g := by omega
    rw [A.hd hg]
    unfold selfO
    rw [if_neg (fun z => ne' (lf g hg z))]
    have c3 : lN ns g ≠ fN ns g := fun z => ne2 (by have := (A.lnfl g hg).2; rw [z] at this; omega)
    obtain ⟨t, er, e2⟩ := (row g hg).ne ne'
    obtain ⟨t2, e3⟩ := e2 c3
    show (if (fN ns g : Int) = (lN ns g : Int) then false else if suitsB ws (g : Int) (fN ns g : Int) = true then (if suitsB ws (g : Int) (lN ns g : Int) = true then decide ((rowOf ws (g : Int)).idxOf (fN ns g : Int) < (rowOf ws (g : Int)).idxOf (lN ns g : Int)) else true) else false) = true
    rw [if_neg (by omega), if_pos (suF g hg ne'), if_pos (suL g hg ne'), er, List.idxOf_cons_self, e3, idx_ne _ (show (fN ns g : Int) ≠ (lN ns g : Int) by omega)]
    exact decide_eq_true (Nat.succ_pos _)
  · obtain ⟨g, rfl⟩ := nat_of i0
    obtain ⟨k, rfl⟩ := nat_of j0
    have hg : g < ws.length := by omega
    have hk : k < ws.length := by omega
    have both : ∀ a b : Nat, a < ws.length → b < ws.length → a ≠ b → fN ns a ≠ a → aheadB ws (a : Int) (some (b : Int)) (hdI ns (a : Int)) = true → aheadB ws (b : Int) (some (a : Int)) (hdI ns (b : Int)) = true → False := fun a b ha hb nab ne h1 h2 => by
      have e := only a _ ha ne h1
      have e' : b = fN ns a := by omega
      have nb : fN ns b ≠ b := fun z => nab (A.inj a b ha hb (by rw [z]; exact e'.symm))
      rw [A.hd hb] at h2
      unfold selfO at h2
      have eb : lN ns b = a := by rw [e']; exact A.lf a ha
      rw [if_neg (fun z => nb (lf b hb z)), eb] at h2
      rw [ahead_same] at h2
      cases h2
    by_cases cg : fN ns g = g
    · by_cases ck : fN ns k = k
      · have hs := suitsB_mem (ahead_suits z.1)
        exact (row g hg).al cg _ hs.1 (by rw [A.nxf hk, ck])
      · exact both k g hk hg (by omega) ck z.2 z.1
    · exact both g k hg hk (by omega) cg z.1 z.2
end B2

namespace B2
open PySem L2
def top (i : Nat) : Stmt := PySem.Challenge.pw_bedtwos_k07_whole_either_or.main.body.getD i (.Pass ⟨0, 0, 0, 0⟩)
abbrev s_is_guest : Stmt := top 7
abbrev s_need_row : Stmt := top 8
abbrev s_need_wishes : Stmt := top 9
abbrev s_in_both : Stmt := top 10
abbrev s_is_ahead : Stmt := top 11
abbrev s_restless_pairs : Stmt := top 13
abbrev s_joined : Stmt := top 14
abbrev s_settled : Stmt := top 15
abbrev s_all_twos : Stmt := top 16
abbrev s_all_calm : Stmt := top 17
abbrev s_need_parties : Stmt := top 19
abbrev s_ones_ahead : Stmt := top 20
abbrev s_suit_their_next : Stmt := top 21
abbrev s_look_onward : Stmt := top 22
abbrev s_parties_hold : Stmt := top 23
abbrev s_holds : Stmt := top 24
abbrev s_first_parties : Stmt := top 26
abbrev s_dealt : Stmt := top 27
abbrev s_cell_at : Stmt := top 29
abbrev s_row_by : Stmt := top 30
abbrev s_wishes_by : Stmt := top 31
abbrev s_whole : Stmt := top 32
abbrev s_lsuits : Stmt := top 33
abbrev s_lrather : Stmt := top 34
abbrev s_lrestless : Stmt := top 35
abbrev s_lmates : Stmt := top 36
abbrev s_lahead : Stmt := top 37
abbrev s_lholds : Stmt := top 38
abbrev s_lrings : Stmt := top 39
abbrev s_lafter : Stmt := top 40
abbrev s_lfirst : Stmt := top 41
abbrev s_law : Stmt := top 42
/-- the names of the machine's own -/
structure Own (mg : Str → Option Value) : Prop where
  len : mg "len" = none
  rng : mg "range" = none
  isI : mg "isinstance" = none
  int : mg "int" = none
  bool : mg "bool" = none
  list : mg "list" = none
  set : mg "set" = none
  enm : mg "enumerate" = none
  tup : mg "tuple" = none
  min : mg "min" = none
  sum : mg "sum" = none
  all : mg "all" = none
end B2

namespace B2
open PySem L2

/-- what a caller wants of a def: it stands under its name, it keeps its promise -/
structure Cal (P : Program) (w : World) (K : PySem.W.Frag) (mg : Str → Option Value) (base : Heap) (k : Nat) (x : Str) (ps : List Str) (sp : Sp) : Prop where
  ex : ∃ (g : Addr) (gd : FuncData), FnOk P w K mg base CX0 k g gd ps sp ∧ mg x = some (.ref g) ∧ PySem.W.keepIn K (.ref g) = true ∧ Binds K gd ps []

theorem kit_ii {K : PySem.W.Frag} : PySem.W.kitOne K (.type "int") (.type "int") = some true := kit_ty (by decide +kernel)
theorem kit_ib {K : PySem.W.Frag} : PySem.W.kitOne K (.type "int") (.type "bool") = some false := kit_ty (by decide +kernel)
theorem kit_bb {K : PySem.W.Frag} : PySem.W.kitOne K (.type "bool") (.type "bool") = some true := kit_ty (by decide +kernel)
theorem kit_ll {K : PySem.W.Frag} : PySem.W.kitOne K (.type "list") (.type "list") = some true := kit_ty (by decide +kernel)
theorem ty_list {K : PySem.W.Frag} {H : Hp} {a : Addr} {xs : List V} (h : SqL K H a xs) : TyX K H (.ref a) (.type "list") := by
  rcases h with h | ⟨o, its, n, h, hc, _⟩
  · rcases h with h | ⟨o, h⟩
    · exact .base (.lst h)
    · exact .base (.frz h)
  · exact .kList h hc

section
variable {P : Program} {w : World} {K : PySem.W.Frag} {mg : Str → Option Value} {base : Heap}

/-! ### is_guest -/
theorem sc_is_guest : FnScope ["number", "many"] ["number", "many"] (defScope s_is_guest) := ⟨rfl, rfl, rfl, by decide +kernel, rfl, by decide +kernel, by decide +kernel⟩
def sp_is_guest : Sp := fun vs H Q _ => ∃ (i n : Int), vs = [.int i, .int n] ∧ Q (.bl (decide (0 ≤ i ∧ i < n))) H
theorem ok_is_guest {f : Addr} {fd : FuncData} (F : Fun K "is_guest" "is_guest" s_is_guest f fd) (T : Own mg) : FnOk P w K mg base CX0 1 f fd ["number", "many"] sp_is_guest := by
  refine F.ok sc_is_guest (fun vs H Q E h => ?_) (fun cdv A outer s H vs Q E hr h => ?_)
  · obtain ⟨i, n, rfl, _⟩ := h
    rfl
  obtain ⟨i, n, rfl, q⟩ := h
  refine ⟨_, pss_cons (ps_if (PW.pt (pw_or (pt_not (pt_val (pe_callB call_isi (by rfl) T.isI (by decide +kernel) (pa_cons (pv 0) (pa_cons (pe_bltn (v := .ty "int") (by rfl) T.int (by decide +kernel) rfl) pa_nil)))))
      (pw_or1 (pt_val (pe_callB call_isi (by rfl) T.isI (by decide +kernel) (pa_cons (pv 0) (pa_cons (pe_bltn (v := .ty "bool") (by rfl) T.bool (by decide +kernel) rfl) pa_nil))))))) (pss_one (ps_ret pe_bl)) pss_nil)
    (pss_one (ps_ret (pe_chain op_le op_lt pe_int (pv 0) (pv 1)))), ?_⟩
  refine ⟨_, rfl, _, _, _, _, _, rfl, .ty _, .base (.int i), kit_ii, _, rfl, iteF ⟨_, rfl, _, _, _, _, _, rfl, .ty _, .base (.int i), kit_ib, _, rfl, iteF ⟨_, rfl, _, _, rfl, rfl, _, rfl, ?_⟩⟩⟩
  refine ite2 (fun c => ?_) (fun c => ?_)
  · have c' : (0 : Int) ≤ i := of_decide_eq_true c
    refine ⟨_, rfl, _, _, rfl, rfl, ?_⟩
    have e : decide (i < n) = decide (0 ≤ i ∧ i < n) := by
      by_cases h : i < n
      · rw [decide_eq_true h, decide_eq_true ⟨c', h⟩]
      · rw [decide_eq_false h, decide_eq_false (fun z => h z.2)]
    show Q (.bl (decide (i < n))) H
    rw [e]; exact q
  · have c' : ¬ (0 : Int) ≤ i := of_decide_eq_false (Bool.eq_false_iff.mpr c)
    have e : decide (0 ≤ i ∧ i < n) = false := decide_eq_false (fun z => c' z.1)
    rw [e] at q; exact q
end
end B2

namespace B2
open PySem L2
section
variable {P : Program} {w : World} {K : PySem.W.Frag} {mg : Str → Option Value} {base : Heap}

/-! ### in_both -/
theorem sc_in_both : FnScope ["wishes", "one", "other"] ["wishes", "one", "other"] (defScope s_in_both) := ⟨rfl, rfl, rfl, by decide +kernel, rfl, by decide +kernel, by decide +kernel⟩
def sp_in_both (K : PySem.W.Frag) : Sp := fun vs H Q _ => ∃ (a : Addr) (ws : List (List Int)) (i j : Int), vs = [.ref a, .int i, .int j] ∧ Tab K H a ws ∧
  0 ≤ i ∧ i < (ws.length : Int) ∧ 0 ≤ j ∧ j < (ws.length : Int) ∧ Q (.bl (suitsB ws i j)) H
theorem ok_in_both {f : Addr} {fd : FuncData} (F : Fun K "in_both" "in_both" s_in_both f fd) : FnOk P w K mg base CX0 1 f fd ["wishes", "one", "other"] (sp_in_both K) := by
  refine F.ok sc_in_both (fun vs H Q E h => ?_) (fun cdv A outer s H vs Q E hr h => ?_)
  · obtain ⟨a, ws, i, j, rfl, _⟩ := h
    rfl
  obtain ⟨a, ws, i, j, rfl, hT, i0, i1, j0, j1, q⟩ := h
  refine ⟨_, pss_one (ps_ret (pe_and (pe_cmpR op_in_seq (pv 2) (pe_ix ix_list (pv 0) (pv 1) (fun _ _ => rfl)) (by rfl))
    (pe_one (pe_cmpR op_in_seq (pv 1) (pe_ix ix_list (pv 0) (pv 2) (fun _ _ => rfl)) (by rfl))))), ?_⟩
  obtain ⟨as, h1, h2, h3⟩ := hT.at
  obtain ⟨bi, hbi, hsi⟩ := h3 i i0 i1
  obtain ⟨bj, hbj, hsj⟩ := h3 j j0 j1
  refine ⟨_, rfl, _, rfl, _, rfl, a, _, _, _, rfl, rfl, h1, hbi, bi, _, rfl, .inl hsi, rfl, flat_ints _, _, rfl, ?_⟩
  show if inV (.int j) ((rowOf ws i).map V.int) = true then _ else _
  rw [inV_int]
  refine ite2 (fun c => ?_) (fun c => ?_)
  · refine ⟨_, rfl, _, rfl, _, rfl, a, _, _, _, rfl, rfl, h1, hbj, bj, _, rfl, .inl hsj, rfl, flat_ints _, ?_⟩
    show Q (.bl (inV (.int i) ((rowOf ws j).map V.int))) H
    rw [inV_int]
    have e : suitsB ws i j = decide (i ∈ rowOf ws j) := by unfold suitsB; rw [c, Bool.true_and]
    rw [← e]; exact q
  · have e : suitsB ws i j = false := by unfold suitsB; rw [Bool.eq_false_iff.mpr c, Bool.false_and]
    rw [e] at q; exact q

/-! ### is_ahead -/
theorem sc_is_ahead : FnScope ["wishes", "guest", "one", "other", "row"] ["wishes", "guest", "one", "other"] (defScope s_is_ahead) := ⟨rfl, rfl, rfl, by decide +kernel, rfl, by decide +kernel, by decide +kernel⟩
def sp_is_ahead (K : PySem.W.Frag) : Sp := fun vs H Q _ => ∃ (a : Addr) (ws : List (List Int)) (g : Int) (x y : Option Int), vs = [.ref a, .int g, ov x, ov y] ∧ Tab K H a ws ∧
  0 ≤ g ∧ g < (ws.length : Int) ∧ OkO ws.length x ∧ OkO ws.length y ∧ Q (.bl (aheadB ws g x y)) H
theorem ok_is_ahead {f : Addr} {fd : FuncData} (F : Fun K "is_ahead" "is_ahead" s_is_ahead f fd) (C1 : Cal P w K mg base 1 "in_both" ["wishes", "one", "other"] (sp_in_both K)) :
    FnOk P w K mg base CX0 2 f fd ["wishes", "guest", "one", "other"] (sp_is_ahead K) := by
  obtain ⟨g1, gd1, G1, m1, k1, b1⟩ := C1
  refine F.ok sc_is_ahead (fun vs H Q E h => ?_) (fun cdv A outer s H vs Q E hr h => ?_)
  · obtain ⟨a, ws, g, x, y, rfl, _⟩ := h
    rfl
  obtain ⟨a, ws, g, x, y, rfl, hT, g0, g1, hx, hy, q⟩ := h
  refine ⟨_, pss_cons (ps_if (PW.pt (pw_or (pt_cmpR op_eq (pv 2) (pv 3) (nomark _)) (pw_or (pt_cmpR op_isN (pv 2) pe_non (nomark _))
      (pw_or1 (pt_not (pt_val (pe_call G1 hr (by rfl) m1 k1 b1 .nil pass0 (pa_cons (pv 0) (pa_cons (pv 1) (pa_cons (pv 2) pa_nil))))))))))
      (pss_one (ps_ret pe_bl)) pss_nil)
    (pss_cons (ps_if (PW.pt (pw_or (pt_cmpR op_isN (pv 3) pe_non (nomark _))
      (pw_or1 (pt_not (pt_val (pe_call G1 hr (by rfl) m1 k1 b1 .nil pass0 (pa_cons (pv 0) (pa_cons (pv 1) (pa_cons (pv 3) pa_nil)))))))))
      (pss_one (ps_ret pe_bl)) pss_nil)
    (pss_cons (ps_set (i := 4) sc_is_ahead.nd rfl (Or.inl rfl) (pe_ix ix_list (pv 0) (pv 1) (fun _ _ => rfl)))
    (pss_one (ps_ret (pe_cmpR op_lt
      (pe_bm PySem.F.plainAttrs_list PySem.F.slot_list_index PySem.F.type_list_index mt_index (pv 4) (pa_cons (pv 2) pa_nil))
      (pe_bm PySem.F.plainAttrs_list PySem.F.slot_list_index PySem.F.type_list_index mt_index (pv 4) (pa_cons (pv 3) pa_nil)) (nomark _)))))), ?_⟩
  refine ⟨_, rfl, _, rfl, (by cases x <;> cases y <;> rfl), _, rfl, ?_⟩
  rw [ov_dec]
  refine ite2 (fun c => ?_) (fun c => ?_)
  · have c' : x = y := of_decide_eq_true c
    subst c'
    have e : aheadB ws g x x = false := by
      cases x with
      | none => rfl
      | some a =>
        show (if a = a then false else _) = false
        rw [if_pos rfl]
    rw [e] at q; exact q
  have c' : ¬ x = y := of_decide_eq_false (Bool.eq_false_iff.mpr c)
  refine ⟨_, rfl, rfl, _, rfl, ?_⟩
  cases x with
  | none => exact iteT q
  | some x =>
  refine iteF ?_
  refine ⟨_, rfl, _, rfl, _, rfl, a, ws, g, x, rfl, hT, g0, g1, hx.1, hx.2, _, rfl, ?_⟩
  cases e1 : suitsB ws g x with
  | false =>
    refine iteT ?_
    have e : aheadB ws g (some x) y = false := by
      cases y with
      | none => exact e1
      | some y =>
        show (if x = y then false else _) = false
        rw [if_neg (fun z => c' (congrArg some z)), e1]
        rfl
    rw [e] at q; exact q
  | true =>
  refine iteF ?_
  refine ⟨_, rfl, rfl, _, rfl, ?_⟩
  cases y with
  | none =>
    have e : aheadB ws g (some x) none = true := e1
    rw [e] at q
    exact iteT q
  | some y =>
  refine iteF ?_
  refine ⟨_, rfl, _, rfl, _, rfl, a, ws, g, y, rfl, hT, g0, g1, hy.1, hy.2, _, rfl, ?_⟩
  have e0 : aheadB ws g (some x) (some y) = if suitsB ws g y = true then decide ((rowOf ws g).idxOf x < (rowOf ws g).idxOf y) else true := by
    show (if x = y then false else _) = _
    rw [if_neg (fun z => c' (congrArg some z)), if_pos e1]
  rw [e0] at q
  cases e2 : suitsB ws g y with
  | false =>
    rw [e2] at q
    exact iteT q
  | true =>
  rw [e2, if_pos rfl] at q
  refine iteF ?_
  obtain ⟨as, h1, h2, h3⟩ := hT.at
  obtain ⟨b, hb, hs⟩ := h3 g g0 g1
  obtain ⟨p1, p2⟩ := index_at x (rowOf ws g) (suitsB_mem e1).1
  obtain ⟨r1, r2⟩ := index_at y (rowOf ws g) (suitsB_mem e2).1
  refine ⟨_, rfl, _, rfl, a, _, _, _, rfl, rfl, h1, hb, ?_⟩
  refine ⟨_, rfl, .inl ⟨rfl, _, hs⟩, _, rfl, b, _, _, _, _, rfl, rfl, hs, rfl, flat_ints _, p1, (by show (x == x) = true; exact beq_self_eq_true x), p2, ?_⟩
  refine ⟨_, rfl, .inl ⟨rfl, _, hs⟩, _, rfl, b, _, _, _, _, rfl, rfl, hs, rfl, flat_ints _, r1, (by show (y == y) = true; exact beq_self_eq_true y), r2, ?_⟩
  refine ⟨_, _, rfl, rfl, ?_⟩
  have e3 : decide ((((rowOf ws g).idxOf x : Nat) : Int) < (((rowOf ws g).idxOf y : Nat) : Int)) = decide ((rowOf ws g).idxOf x < (rowOf ws g).idxOf y) := by
    by_cases z : (rowOf ws g).idxOf x < (rowOf ws g).idxOf y
    · rw [decide_eq_true z, decide_eq_true (by omega)]
    · rw [decide_eq_false z, decide_eq_false (by omega)]
  show Q (.bl (decide ((((rowOf ws g).idxOf x : Nat) : Int) < (((rowOf ws g).idxOf y : Nat) : Int)))) H
  rw [e3]; exact q
end
end B2

namespace B2
open PySem L2
section
variable {P : Program} {w : World} {K : PySem.W.Frag} {mg : Str → Option Value} {base : Heap}

/-! ### need_row -/
theorem sc_need_row : FnScope ["row", "guest", "many", "wish"] ["row", "guest", "many"] (defScope s_need_row) := ⟨rfl, rfl, rfl, by decide +kernel, rfl, by decide +kernel, by decide +kernel⟩
def sp_need_row (K : PySem.W.Frag) : Sp := fun vs H Q _ => ∃ (b : Addr) (g : Int) (n : Nat) (r : List Int), vs = [.ref b, .int g, .int n] ∧ SqL K H b (r.map V.int) ∧ GoodRow n g r ∧ Q .non H
theorem ok_need_row {f : Addr} {fd : FuncData} (F : Fun K "need_row" "need_row" s_need_row f fd) (T : Own mg) (C1 : Cal P w K mg base 1 "is_guest" ["number", "many"] sp_is_guest) :
    FnOk P w K mg base CX0 2 f fd ["row", "guest", "many"] (sp_need_row K) := by
  obtain ⟨g1, gd1, G1, m1, k1, b1⟩ := C1
  refine F.ok sc_need_row (fun vs H Q E h => ?_) (fun cdv A outer s H vs Q E hr h => ?_)
  · obtain ⟨b, g, n, r, rfl, _⟩ := h
    rfl
  obtain ⟨b, g, n, r, rfl, hS, hG, q⟩ := h
  refine ⟨_, pss_cons (ps_if (pt_not (pt_val (pe_callB call_isi (by rfl) T.isI (by decide +kernel) (pa_cons (pv 0) (pa_cons (pe_bltn (v := .ty "list") (by rfl) T.list (by decide +kernel) rfl) pa_nil)))))
      (pss_one ps_never) pss_nil)
    (pss_cons (ps_for PassesOwn.never rfl (pi_list (pv 0)) (pg_name (i := 3) sc_need_row.nd rfl (Or.inl rfl))
      (pss_one (ps_if (PW.pt (pw_or (pt_not (pt_val (pe_call G1 hr (by rfl) m1 k1 b1 .nil pass0 (pa_cons (pv 3) (pa_cons (pv 2) pa_nil)))))
        (pw_or1 (pt_cmpR op_eq (pv 3) (pv 1) (nomark _))))) (pss_one ps_never) pss_nil)))
    (pss_one (ps_if (pt_cmpR op_lt (RZ.pe_lenSetI (by rfl) T.len (by rfl) T.set (pv 0)) (pe_callB call_len_seq (by rfl) T.len PySem.boot_len (pa_cons (pv 0) pa_nil)) (nomark _))
      (pss_one ps_never) pss_nil))), ?_⟩
  refine ⟨_, rfl, _, _, _, _, _, rfl, .ty _, ty_list hS, kit_ll, _, rfl, iteF ?_⟩
  refine ⟨_, rfl, b, rfl, ⟨_, hS⟩, for_list (K := K) (a := b) (xs := r.map V.int) (fun i σ H' => H' = H ∧ ∃ z, σ = [some (.ref b), some (.int g), some (.int n), z])
    ⟨rfl, none, rfl⟩ (fun i σ H' _ h => by rw [h.1]; exact hS) ?_ ?_⟩
  · rintro i x σ H' hx ⟨rfl, z, rfl⟩
    rw [List.getElem?_map] at hx
    cases hy : r[i]? with
    | none => rw [hy] at hx; cases hx
    | some y =>
    rw [hy] at hx
    cases hx
    have hm : y ∈ r := List.mem_of_getElem? hy
    obtain ⟨y0, y1, y2⟩ := hG.rg y hm
    refine ⟨_, rfl, _, rfl, y, n, rfl, _, rfl, ?_⟩
    rw [decide_eq_true (And.intro y0 y1)]
    refine iteF ⟨_, rfl, _, rfl, rfl, _, rfl, ?_⟩
    have e : decide (V.int y = V.int g) = false := decide_eq_false (fun z => y2 (by cases z; rfl))
    rw [e]
    exact iteF ⟨rfl, _, rfl⟩
  · rintro σ H' ⟨rfl, z, rfl⟩
    have hl := hG.sm
    refine ⟨_, rfl, b, r, rfl, hS, hG.nd, by omega, _, rfl, b, _, rfl, .inl hS, _, _, rfl, rfl, _, rfl, ?_⟩
    have e : decide (((r.length : Nat) : Int) < (((r.map V.int).length : Nat) : Int)) = false := decide_eq_false (by rw [List.length_map]; omega)
    rw [e]
    exact iteF q

/-! ### need_wishes -/
theorem sc_need_wishes : FnScope ["wishes", "many", "guest", "row"] ["wishes"] (defScope s_need_wishes) := ⟨rfl, rfl, rfl, by decide +kernel, rfl, by decide +kernel, by decide +kernel⟩
def sp_need_wishes (K : PySem.W.Frag) : Sp := fun vs H Q _ => ∃ (a : Addr) (ws : List (List Int)), vs = [.ref a] ∧ Tab K H a ws ∧ Good ws ∧ ∀ H', Same H H' → Q .non H'
theorem ok_need_wishes {f : Addr} {fd : FuncData} (F : Fun K "need_wishes" "need_wishes" s_need_wishes f fd) (T : Own mg) (M : ∃ t, mg "MOST_GUESTS" = some (.int 6 t)) (C1 : Cal P w K mg base 2 "need_row" ["row", "guest", "many"] (sp_need_row K)) :
    FnOk P w K mg base CX0 3 f fd ["wishes"] (sp_need_wishes K) := by
  obtain ⟨g1, gd1, G1, m1, k1, b1⟩ := C1
  obtain ⟨t, mM⟩ := M
  refine F.ok sc_need_wishes (fun vs H Q E h => ?_) (fun cdv A outer s H vs Q E hr h => ?_)
  · obtain ⟨a, ws, rfl, _⟩ := h
    rfl
  obtain ⟨a, ws, rfl, hT, hG, q⟩ := h
  refine ⟨_, pss_cons (ps_if (pt_not (pt_val (pe_callB call_isi (by rfl) T.isI (by decide +kernel) (pa_cons (pv 0) (pa_cons (pe_bltn (v := .ty "list") (by rfl) T.list (by decide +kernel) rfl) pa_nil)))))
      (pss_one ps_never) pss_nil)
    (pss_cons (ps_set (i := 1) sc_need_wishes.nd rfl (Or.inl rfl) (pe_callB call_len_seq (by rfl) T.len PySem.boot_len (pa_cons (pv 0) pa_nil)))
    (pss_cons (ps_if (pt_not (pt_chain op_le op_le pe_int (pv 1) (pe_glob (v := .int 6) rfl mM ⟨_, rfl⟩))) (pss_one ps_never) pss_nil)
    (pss_one (ps_for PassesOwn.never rfl (pi_enum (by rfl) T.enm (pa_cons (pv 0) pa_nil))
      (pg_tup (by rfl) (pgs_cons (pg_name (i := 2) sc_need_wishes.nd rfl (Or.inl rfl)) (pgs_cons (pg_name (i := 3) sc_need_wishes.nd rfl (Or.inl rfl)) pgs_nil)))
      (pss_one (ps_expr (pe_call G1 hr (by rfl) m1 k1 b1 .nil pass0 (pa_cons (pv 3) (pa_cons (pv 2) (pa_cons (pv 1) pa_nil)))))))))), ?_⟩
  obtain ⟨as, h1, h2, h3⟩ := id hT
  have hl : (as.map V.ref).length = ws.length := by rw [List.length_map]; exact h2
  have lo := hG.lo
  have hi := hG.hi
  refine ⟨_, rfl, _, _, _, _, _, rfl, .ty _, ty_list h1, kit_ll, _, rfl, iteF ?_⟩
  refine ⟨_, rfl, a, _, rfl, .inl h1, ?_⟩
  rw [hl]
  refine ⟨_, rfl, _, _, rfl, rfl, _, rfl, ?_⟩
  rw [decide_eq_true (show (1 : Int) ≤ ((ws.length : Nat) : Int) by omega)]
  refine iteT ⟨_, _, rfl, rfl, _, rfl, ?_⟩
  rw [decide_eq_true (show ((ws.length : Nat) : Int) ≤ 6 by omega)]
  refine iteF ?_
  refine ⟨_, rfl, a, _, rfl, h1, for_it walk_enum (fun i σ H' => Same H H' ∧ ∃ y z, σ = [some (.ref a), some (.int ws.length), y, z])
    ⟨Same.refl H, none, none, rfl⟩ (fun i σ H' _ h => h.1.seq h1) ?_ ?_⟩
  · rintro i x σ H' H2 hi' ⟨hs, y, z, rfl⟩ ⟨t, x1, x2, rfl, ht, rfl, ex1, ex2⟩
    rw [hl] at hi'
    cases ex1
    obtain ⟨b, hb, hsb⟩ := h3 i ws[i] (List.getElem?_eq_getElem hi')
    change (as.map V.ref)[i]? = some x2 at ex2
    rw [List.getElem?_map, hb] at ex2
    cases ex2
    have hs2 := hs.trans (same_new ht (.tup [V.int (i : Nat), V.ref b]))
    refine ⟨t, _, rfl, SqT.of upd_same, rfl, _, _, rfl, _, _, rfl, rfl, ?_⟩
    refine ⟨_, rfl, _, rfl, _, rfl, b, (i : Int), ws.length, ws[i], rfl, hs2.seq hsb, hG.row i _ (List.getElem?_eq_getElem hi'), hs2, _, _, rfl⟩
  · rintro σ H' ⟨hs, y, z, rfl⟩
    exact q H' hs

end
end B2

namespace B2
open PySem L2
section
variable {P : Program} {w : World} {K : PySem.W.Frag} {mg : Str → Option Value} {base : Heap}

/-! ### restless_pairs, of any list of guests or Nones in the mates' place -/
theorem sc_restless_pairs : FnScope ["wishes", "mates", "many", "one", "other"] ["wishes", "mates"] (defScope s_restless_pairs) := ⟨rfl, rfl, rfl, by decide +kernel, rfl, by decide +kernel, by decide +kernel⟩
def sp_pairsG (K : PySem.W.Frag) : Sp := fun vs H Q _ => ∃ (a b : Addr) (ws : List (List Int)) (ms : List (Option Int)), vs = [.ref a, .ref b] ∧ Tab K H a ws ∧ Good ws ∧ SqL K H b (ms.map ov) ∧ ms.length = ws.length ∧
  (∀ i : Int, 0 ≤ i → i < (ws.length : Int) → OkO ws.length (mt ms i)) ∧
  ∀ (H' : Hp) (p : Addr), H p = none → BuiltF tupO H p (wildAll ws ms) H' → Q (.ref p) H'
theorem ok_restless_pairs {f : Addr} {fd : FuncData} (F : Fun K "restless_pairs" "restless_pairs" s_restless_pairs f fd) (T : Own mg) (C1 : Cal P w K mg base 2 "is_ahead" ["wishes", "guest", "one", "other"] (sp_is_ahead K)) :
    FnOk P w K mg base CX0 3 f fd ["wishes", "mates"] (sp_pairsG K) := by
  obtain ⟨g1, gd1, G1, m1, k1, b1⟩ := C1
  refine F.ok sc_restless_pairs (fun vs H Q E h => ?_) (fun cdv A outer s H vs Q E hr h => ?_)
  · obtain ⟨a, b, ws, ms, rfl, _⟩ := h
    rfl
  obtain ⟨a, b, ws, ms, rfl, hT, hG, hM, hml, hO, q⟩ := h
  refine ⟨_, pss_cons (ps_set (i := 2) sc_restless_pairs.nd rfl (Or.inr rfl) (pe_callB call_len_seq (by rfl) T.len PySem.boot_len (pa_cons (pv 0) pa_nil)))
    (pss_one (ps_ret (pe_lc2 (own := [("one", 3), ("other", 4)]) (vs1 := [4]) (g := gName 3) (tt := tYes) (g1 := gName 4) rfl sc_restless_pairs.nd (pi_range1 rfl T.rng (pa_cons (pv 2) pa_nil))
      (blkOk_by (N := ["wishes", "mates", "many", "one", "other"]) (sc := defScope s_restless_pairs) (by decide +kernel)) (by decide)
      (fun _ _ _ _ _ => pg_name (i := 3) sc_restless_pairs.nd rfl (Or.inl rfl)) (fun _ _ _ _ _ => pts_nil)
      (fun _ _ _ _ _ => pi_range2 (by rfl) T.rng (pa_cons (pe_op op_add (pv 3) pe_int) (pa_cons (pv 2) pa_nil)))
      (fun _ _ _ _ _ => pg_name (i := 4) sc_restless_pairs.nd rfl (Or.inl rfl))
      (fun _ _ _ _ _ => pts_one (PW.pt (pw_and (pt_val (pe_call G1 hr (by rfl) m1 k1 b1 .nil pass0 (pa_cons (pv 0) (pa_cons (pv 3) (pa_cons (pv 4) (pa_cons (pe_ix (ix_lst (K := K) rfl) (pv 1) (pv 3) (fun _ _ => rfl)) pa_nil))))))
        (pw_and1 (pt_val (pe_call G1 hr (by rfl) m1 k1 b1 .nil pass0 (pa_cons (pv 0) (pa_cons (pv 4) (pa_cons (pv 3) (pa_cons (pe_ix (ix_lst (K := K) rfl) (pv 1) (pv 4) (fun _ _ => rfl)) pa_nil))))))))))
      (fun _ _ _ _ _ => pe_tup (pa_cons (pv 3) (pa_cons (pv 4) pa_nil)))))), ?_⟩
  obtain ⟨as, h1, h2, h3⟩ := id hT
  have hl : (as.map V.ref).length = ws.length := by rw [List.length_map]; exact h2
  have hi := hG.hi
  refine ⟨_, rfl, a, _, rfl, .inl h1, ?_⟩
  rw [hl]
  refine ⟨_, rfl, (ws.length : Int), rfl, by omega, by omega, fun D hD => ?_⟩
  refine in_it (walk_range (lo := 0) (n := ((ws.length : Nat) : Int).toNat)) (fun i H' => BuiltF tupO H D (wildUp ws ms ws.length i) H')
    (built_start hD) (fun _ _ _ _ => trivial) ?_ ?_
  · rintro i x H1 H2 hin hB ⟨rfl, hx⟩
    obtain rfl : x = V.int (i : Int) := by
      rw [hx]
      show V.int (0 + (i : Int)) = _
      rw [Int.zero_add]
    clear hx
    have hin' : i < ws.length := by omega
    refine ⟨rfl, ?_⟩
    refine ⟨_, rfl, _, _, rfl, rfl, _, rfl, _, _, rfl, ⟨by omega, by omega, by omega, by omega⟩, ?_⟩
    have en : (((ws.length : Nat) : Int) - ((i : Int) + 1)).toNat = ws.length - (i + 1) := by omega
    refine in_it (walk_range (lo := (i : Int) + 1) (n := (((ws.length : Nat) : Int) - ((i : Int) + 1)).toNat)) (fun t H' => BuiltF tupO H D (wildUp ws ms ws.length i ++ wildIn ws ms i t) H')
      (by show BuiltF tupO H D (wildUp ws ms ws.length i ++ []) H2; rw [List.append_nil]; exact hB) (fun _ _ _ _ => trivial) ?_ ?_
    · rintro t x H3 H4 hlt hB2 ⟨rfl, rfl⟩
      have hT4 := hT.same hB2.1
      have hM4 := hB2.1.seq hM
      refine ⟨rfl, ?_⟩
      refine ⟨_, rfl, _, rfl, _, rfl, _, rfl, _, rfl, b, _, _, _, rfl, rfl, hM4, mt_at (ms := ms) (i := (i : Int)) (by omega) (by omega), ?_⟩
      refine ⟨a, ws, (i : Int), some ((i : Int) + 1 + (t : Int)), mt ms (i : Int), rfl, hT4, by omega, by omega, ⟨by omega, by omega⟩, hO _ (by omega) (by omega), _, rfl, ?_⟩
      have ew : wildIn ws ms i (t + 1) = wildIn ws ms i t ++ (if wild ws ms (i : Int) ((i : Int) + 1 + (t : Int)) = true then [((i : Int), (i : Int) + 1 + (t : Int))] else []) := rfl
      have eu : wild ws ms (i : Int) ((i : Int) + 1 + (t : Int)) = (aheadB ws (i : Int) (some ((i : Int) + 1 + (t : Int))) (mt ms (i : Int)) && aheadB ws ((i : Int) + 1 + (t : Int)) (some (i : Int)) (mt ms ((i : Int) + 1 + (t : Int)))) := rfl
      rw [ew, eu]
      cases e1 : aheadB ws (i : Int) (some ((i : Int) + 1 + (t : Int))) (mt ms (i : Int)) with
      | false =>
        rw [Bool.false_and]
        show BuiltF tupO H D (wildUp ws ms ws.length i ++ (wildIn ws ms i t ++ [])) H4
        rw [List.append_nil]
        exact hB2
      | true =>
        rw [Bool.true_and]
        refine ⟨_, rfl, _, rfl, _, rfl, _, rfl, _, rfl, b, _, _, _, rfl, rfl, hM4, mt_at (ms := ms) (i := (i : Int) + 1 + (t : Int)) (by omega) (by omega), ?_⟩
        refine ⟨a, ws, (i : Int) + 1 + (t : Int), some (i : Int), mt ms ((i : Int) + 1 + (t : Int)), rfl, hT4, by omega, by omega, ⟨by omega, by omega⟩, hO _ (by omega) (by omega), _, rfl, ?_⟩
        cases e2 : aheadB ws ((i : Int) + 1 + (t : Int)) (some (i : Int)) (mt ms ((i : Int) + 1 + (t : Int))) with
        | false =>
          show BuiltF tupO H D (wildUp ws ms ws.length i ++ (wildIn ws ms i t ++ [])) H4
          rw [List.append_nil]
          exact hB2
        | true =>
          refine ⟨_, rfl, _, rfl, (by show 2 ≤ sizeLine; decide), fun p hp => ?_⟩
          obtain ⟨acc, z1, z2, z3⟩ := built_step (r := ((i : Int), (i : Int) + 1 + (t : Int))) hD hB2 (same_new hp _) hp upd_same
          refine ⟨acc, z1, ?_, ?_⟩
          · have l1 := wildUp_le ws ms ws.length i
            have l2 := wildIn_le ws ms i t
            have l3 : i * ws.length ≤ 6 * 6 := Nat.mul_le_mul (by omega) (by omega)
            rw [z2, List.length_append]
            exact small1000 (by omega)
          · show BuiltF tupO H D (wildUp ws ms ws.length i ++ (wildIn ws ms i t ++ [((i : Int), (i : Int) + 1 + (t : Int))])) _
            rw [← List.append_assoc]
            exact z3
    · intro H' h
      rw [en] at h
      exact h
  · intro H' h
    have e : ((ws.length : Nat) : Int).toNat = ws.length := by omega
    rw [e] at h
    exact q H' D hD h
end
end B2

namespace B2
open PySem L2
/-! ### What the defs that may raise promise to those who hand in what is right -/
theorem codeAny_up {P : Program} {w : World} {K : PySem.W.Frag} {mg : Str → Option Value} {base : Heap} {k : Nat} {f : Addr} {fd : FuncData} {ps : List Str} {sp : Sp} (F : FnOk P w K mg base CX0 k f fd ps sp) : FnOk P w K mg base (L2.CX P w) k f fd ps sp := by
  refine ⟨F.len, fun A outer s H args us vs Q E hr he hb hv hs => ?_⟩
  refine codeAny_mono (F.run A outer s H args us vs Q E hr he hb hv hs) fun r s' c => ?_
  cases r with
  | ok v => cases v <;> exact c
  | error e => exact (show False from c).elim
theorem fn_calm {P : Program} {w : World} {K : PySem.W.Frag} {mg : Str → Option Value} {base : Heap} {k : Nat} {f : Addr} {fd : FuncData} {ps : List Str} {sp sp' : Sp} (F : FnOk P w K mg base (L2.CX P w) k f fd ps sp)
    (h : ∀ vs H Q E, sp' vs H Q E → sp vs H Q (fun _ _ _ => False)) : FnOk P w K mg base CX0 k f fd ps sp' := by
  refine ⟨fun vs H Q E q => F.len vs H Q _ (h _ _ _ _ q), fun A outer s H args us vs Q E hr he hb hv hs => ?_⟩
  refine codeAny_mono (F.run A outer s H args us vs Q _ hr he hb hv (h _ _ _ _ hs)) fun r s' c => ?_
  cases r with
  | ok v => cases v <;> exact c
  | error e =>
    obtain ⟨_, _, _, _, _, _, _, _, _, _, _, _, z⟩ := (show L2.CX P w outer H s (fun _ _ _ => False) e s' from c)
    exact z.elim
theorem CalX.calm {P : Program} {w : World} {K : PySem.W.Frag} {mg : Str → Option Value} {base : Heap} {k : Nat} {x : Str} {ps : List Str} {sp sp' : Sp} (C : CalX P w K mg base k x ps sp)
    (h : ∀ vs H Q E, sp' vs H Q E → sp vs H Q (fun _ _ _ => False)) : Cal P w K mg base k x ps sp' := by
  obtain ⟨g, gd, G, m, kk, b⟩ := C
  exact ⟨g, gd, fn_calm G h, m, kk, b⟩
theorem CalX.imp {P : Program} {w : World} {K : PySem.W.Frag} {mg : Str → Option Value} {base : Heap} {k : Nat} {x : Str} {ps : List Str} {sp sp' : Sp} (C : CalX P w K mg base k x ps sp)
    (h : ∀ vs H Q E, sp' vs H Q E → sp vs H Q E) : CalX P w K mg base k x ps sp' := by
  obtain ⟨g, gd, G, m, kk, b⟩ := C
  exact ⟨g, gd, G.imp h, m, kk, b⟩
theorem Cal.imp {P : Program} {w : World} {K : PySem.W.Frag} {mg : Str → Option Value} {base : Heap} {k : Nat} {x : Str} {ps : List Str} {sp sp' : Sp} (C : Cal P w K mg base k x ps sp)
    (h : ∀ vs H Q E, sp' vs H Q E → sp vs H Q E) : Cal P w K mg base k x ps sp' := by
  obtain ⟨g, gd, G, m, kk, b⟩ := C
  exact ⟨g, gd, G.imp h, m, kk, b⟩
end B2

namespace B2
open PySem L2
def sp_pairs (K : PySem.W.Frag) : Sp := fun vs H Q _ => ∃ (a b : Addr) (ws : List (List Int)) (ms : List (Option Int)), vs = [.ref a, .ref b] ∧ Tab K H a ws ∧ Good ws ∧ SqL K H b (ms.map ov) ∧ OkMates ws ms ∧
  ∀ (H' : Hp) (p : Addr), H p = none → BuiltF tupO H p (wildAll ws ms) H' → Q (.ref p) H'
theorem cal_pairs {P : Program} {w : World} {K : PySem.W.Frag} {mg : Str → Option Value} {base : Heap} (D : Cal P w K mg base 3 "restless_pairs" ["wishes", "mates"] (sp_pairsG K)) : Cal P w K mg base 3 "restless_pairs" ["wishes", "mates"] (sp_pairs K) :=
  D.imp fun vs H Q E ⟨a, b, ws, ms, e, hT, hG, hM, hO, q⟩ => ⟨a, b, ws, ms, e, hT, hG, hM, hO.len, fun i i0 i1 => hO.oko i0 i1, q⟩
end B2

namespace B2
open PySem L2
section
variable {P : Program} {w : World} {K : PySem.W.Frag} {mg : Str → Option Value} {base : Heap}

/-! ### _law_cell_at -/
theorem sc_cell_at : FnScope ["_law_script", "_law_k"] ["_law_script", "_law_k"] (defScope s_cell_at) := ⟨rfl, rfl, rfl, by decide +kernel, rfl, by decide +kernel, by decide +kernel⟩
def sp_cell_at (K : PySem.W.Frag) : Sp := fun vs H Q _ => ∃ (a : Addr) (ns : List Int) (k : Int), vs = [.ref a, .int k] ∧ SqL K H a (ns.map V.int) ∧ 0 ≤ k ∧ ∀ c : Int, Q (.int c) H
theorem ok_cell_at {f : Addr} {fd : FuncData} (F : Fun K "_law_cell_at" "_law_cell_at" s_cell_at f fd) (T : Own mg) : FnOk P w K mg base CX0 1 f fd ["_law_script", "_law_k"] (sp_cell_at K) := by
  refine F.ok sc_cell_at (fun vs H Q E h => ?_) (fun cdv A outer s H vs Q E hr h => ?_)
  · obtain ⟨a, ns, k, rfl, _⟩ := h
    rfl
  obtain ⟨a, ns, k, rfl, hS, k0, q⟩ := h
  refine ⟨_, pss_cons (ps_if (pt_cmpR op_lt (pv 1) (pe_callB call_len_seq (by rfl) T.len PySem.boot_len (pa_cons (pv 0) pa_nil)) (nomark _))
      (pss_one (ps_ret (pe_ix ix_list (pv 0) (pv 1) (fun _ _ => rfl)))) pss_nil)
    (pss_one (ps_ret pe_int)), ?_⟩
  refine ⟨_, rfl, _, rfl, a, _, rfl, .inl hS, _, _, rfl, rfl, _, rfl, ?_⟩
  refine ite2 (fun c => ?_) (fun c => ?_)
  · have c' : k < (((ns.map V.int).length : Nat) : Int) := of_decide_eq_true c
    rw [List.length_map] at c'
    have hk : k.toNat < ns.length := by omega
    have e : k = ((k.toNat : Nat) : Int) := by omega
    have z : atI (ns.map V.int) ((k.toNat : Nat) : Int) = some (.int ns[k.toNat]) := atI_nat (by rw [List.getElem?_map, List.getElem?_eq_getElem hk]; rfl)
    rw [← e] at z
    exact ⟨_, rfl, _, rfl, a, _, _, _, rfl, rfl, hS, z, q _⟩
  · exact q 0

/-! ### _law_row_by -/
theorem sc_row_by : FnScope ["_law_cell", "_law_guest", "_law_many", "_law_full", "_law_left", "_law_row", "_law_one"] ["_law_cell", "_law_guest", "_law_many", "_law_full"] (defScope s_row_by) := ⟨rfl, rfl, rfl, by decide +kernel, rfl, by decide +kernel, by decide +kernel⟩
def sp_row_by : Sp := fun vs H Q _ => ∃ (c g : Int) (n : Nat) (full : Bool), vs = [.int c, .int g, .int n, .bl full] ∧ n ≤ 6 ∧
  ∀ (H' : Hp) (p : Addr) (r : List Int), Same H H' → H p = none → H' p = some (.lst (r.map V.int)) → GoodRow n g r → Q (.ref p) H'

/-- what is left to be drawn, and what is drawn -/
structure Draw (H : Hp) (n : Nat) (g : Int) (D R : Addr) (H' : Hp) (left row : List Int) : Prop where
  same : Same H H'
  hD : H D = none
  hR : H R = none
  ne : D ≠ R
  atD : H' D = some (.lst (left.map V.int))
  atR : H' R = some (.lst (row.map V.int))
  nd : (row ++ left).Nodup
  rg : ∀ x ∈ row ++ left, 0 ≤ x ∧ x < (n : Int) ∧ x ≠ g
  sm : (row ++ left).length ≤ 6

theorem Draw.good {H H' : Hp} {n : Nat} {g : Int} {D R : Addr} {left row : List Int} (d : Draw H n g D R H' left row) : GoodRow n g row :=
  ⟨(List.nodup_append.mp d.nd).1, fun x hx => d.rg x (List.mem_append_left _ hx), by have := d.sm; rw [List.length_append] at this; omega⟩

theorem GoodRow.take {n : Nat} {g : Int} {r : List Int} (h : GoodRow n g r) (m : Nat) : GoodRow n g (r.take m) :=
  ⟨h.nd.sublist (List.take_sublist m r), fun x hx => h.rg x (List.mem_of_mem_take hx), Nat.le_trans (List.length_take_le' m r) h.sm⟩

theorem erase_perm {α : Type} : ∀ (l : List α) (k : Nat) (y : α), l[k]? = some y → (y :: l.eraseIdx k).Perm l
  | [], _, _, h => by cases h
  | a :: l, 0, y, h => by cases h; exact List.Perm.refl _
  | a :: l, k + 1, y, h => by
    have ih := erase_perm l k y h
    exact (List.Perm.swap a y _).trans (List.Perm.cons a ih)

theorem Draw.step {H H' : Hp} {n : Nat} {g : Int} {D R : Addr} {left row : List Int} (d : Draw H n g D R H' left row) {k : Nat} {y : Int} (hy : left[k]? = some y) :
    Draw H n g D R (upd (upd H' D (.lst ((left.eraseIdx k).map V.int))) R (.lst ((row ++ [y]).map V.int))) (left.eraseIdx k) (row ++ [y]) := by
  have p : (y :: left.eraseIdx k).Perm left := erase_perm left k y hy
  have p2 : (row ++ [y] ++ left.eraseIdx k).Perm (row ++ left) := by
    rw [List.append_assoc]
    exact List.Perm.append_left row p
  exact ⟨same_put (same_put d.same d.hD _) d.hR _, d.hD, d.hR, d.ne, by rw [upd_ne d.ne, upd_same], upd_same, p2.nodup_iff.mpr d.nd, fun x hx => d.rg x (p2.mem_iff.mp hx), by rw [p2.length_eq]; exact d.sm⟩

theorem ok_row_by {f : Addr} {fd : FuncData} (F : Fun K "_law_row_by" "_law_row_by" s_row_by f fd) (T : Own mg) : FnOk P w K mg base CX0 1 f fd ["_law_cell", "_law_guest", "_law_many", "_law_full"] sp_row_by := by
  refine F.ok sc_row_by (fun vs H Q E h => ?_) (fun cdv A outer s H vs Q E hr h => ?_)
  · obtain ⟨c, g, n, full, rfl, _⟩ := h
    rfl
  obtain ⟨c, g, n, full, rfl, hn, q⟩ := h
  refine ⟨_, pss_cons (ps_setLc (i := 4) (own := [("_law_one", 6)]) (g := gName 6) rfl sc_row_by.nd rfl rfl (sw_true rfl rfl rfl (by decide +kernel)) (pi_range1 rfl T.rng (pa_cons (pv 2) pa_nil))
      (blkOk_by (N := ["_law_cell", "_law_guest", "_law_many", "_law_full", "_law_left", "_law_row", "_law_one"]) (sc := defScope s_row_by) (by decide +kernel))
      (fun _ _ _ _ _ => pg_name (i := 6) sc_row_by.nd rfl (Or.inl rfl)) (fun _ _ _ _ _ => pts_one (pt_cmpR op_ne (pv 6) (pv 1) (nomark _))) (fun _ _ _ _ _ => pv 6))
    (pss_cons (ps_set (i := 5) sc_row_by.nd rfl (Or.inl rfl) (pe_lst pa_nil))
    (pss_cons (ps_while PassesOwn.never (pt_cmpR op_gt (pe_callB call_len_seq (by rfl) T.len PySem.boot_len (pa_cons (pv 4) pa_nil)) pe_int (nomark _))
      (pss_cons (ps_expr (pe_bm PySem.F.plainAttrs_list PySem.F.slot_list_append PySem.F.type_list_append mt_append (pv 5)
          (pa_cons (pe_bm PySem.F.plainAttrs_list PySem.F.slot_list_pop PySem.F.type_list_pop mt_popAt (pv 4)
            (pa_cons (pe_op op_mod (pv 0) (pe_callB call_len_seq (by rfl) T.len PySem.boot_len (pa_cons (pv 4) pa_nil))) pa_nil)) pa_nil)))
      (pss_one (ps_set (i := 0) sc_row_by.nd rfl (Or.inl rfl) (pe_op op_fdiv (pv 0) (pe_op op_add (pe_callB call_len_seq (by rfl) T.len PySem.boot_len (pa_cons (pv 4) pa_nil)) pe_int))))))
    (pss_cons (ps_if (pt_val (pv 3)) (pss_one (ps_ret (pv 5))) pss_nil)
    (pss_one (ps_ret (pe_slice sl_list (pv 5) po_none (po_some (pe_op op_mod (pv 0) (pe_op op_add (pe_callB call_len_seq (by rfl) T.len PySem.boot_len (pa_cons (pv 5) pa_nil)) pe_int))))))))), ?_⟩
  refine ⟨_, rfl, (n : Int), rfl, (by omega), (by omega), fun D hD => ?_⟩
  refine lc_range (lo := 0) (n := (n : Int).toNat) (fun i H' => ∃ acc : List Int, H' = upd H D (.lst (acc.map V.int)) ∧ acc.Nodup ∧ acc.length ≤ i ∧ ∀ x ∈ acc, 0 ≤ x ∧ x < (i : Int) ∧ x ≠ g)
    ⟨[], rfl, List.nodup_nil, Nat.le_refl _, fun x hx => by cases hx⟩ ?_ ?_
  · rintro i H' hi ⟨acc, rfl, nd, hl, hx⟩
    refine ⟨rfl, _, rfl, _, rfl, rfl, _, rfl, ?_⟩
    refine ite2 (fun c => ?_) (fun c => ?_)
    · have hg : (0 + (i : Int)) ≠ g := fun z => by
        rw [decide_eq_true (by rw [z])] at c
        cases c
      refine ⟨_, rfl, acc.map V.int, upd_same, by rw [List.length_map]; exact Nat.lt_of_le_of_lt hl (small1000 (by omega)), acc ++ [0 + (i : Int)], ?_, ?_, ?_, ?_⟩
      · rw [upd_upd, List.map_append]; rfl
      · rw [List.nodup_append]
        refine ⟨nd, by simp, fun x hx1 y hy => ?_⟩
        rw [List.mem_singleton] at hy
        have := hx x hx1
        rw [hy]
        omega
      · rw [List.length_append, List.length_singleton]; omega
      · intro x hx1
        rcases List.mem_append.mp hx1 with h | h
        · have := hx x h
          exact ⟨this.1, by omega, this.2.2⟩
        · rw [List.mem_singleton] at h
          rw [h]
          exact ⟨by omega, by omega, hg⟩
    · exact ⟨acc, rfl, nd, by omega, fun x h => by
        have := hx x h
        exact ⟨this.1, by omega, this.2.2⟩⟩
  · rintro H' ⟨acc, rfl, nd, hl, hx⟩
    refine ⟨(by show 0 ≤ sizeLine; decide), fun R hR => ?_⟩
    have hDR : D ≠ R := ne_of_none (upd_same (H := H) (a := D)) hR
    have hR0 : H R = none := (same_new hD _).free hR
    refine while_by (fun σ H' => ∃ (c : Int) (left row : List Int) (z : Option V), σ = [some (.int c), some (.int g), some (.int n), some (.bl full), some (.ref D), some (.ref R), z] ∧ Draw H n g D R H' left row)
      (fun σ H' => match H' D with | some (.lst xs) => xs.length | _ => 0)
      ⟨c, acc, [], none, rfl, same_put (same_new hD _) hR0 _, hD, hR0, hDR, by rw [upd_ne hDR, upd_same], upd_same, nd, ?_, ?_⟩ ?_ ?_
    · intro x h
      have := hx x h
      exact ⟨this.1, by omega, this.2.2⟩
    · show acc.length ≤ 6
      omega
    · rintro σ H' ⟨c, left, row, z, rfl, d⟩
      refine ⟨_, rfl, D, _, rfl, .inl (SqL.of d.atD), _, _, rfl, rfl, _, rfl, ?_⟩
      rw [List.length_map]
      refine ite2 (fun c1 => ?_) (fun c1 => ?_)
      · have hl0 : ((left.length : Nat) : Int) > 0 := of_decide_eq_true c1
        have hk : (c % (left.length : Int)).toNat < left.length := by
          have h1 := Int.emod_lt_of_pos c hl0
          omega
        have h1 := Int.emod_lt_of_pos c hl0
        have h0 := Int.emod_nonneg c (show (left.length : Int) ≠ 0 by omega)
        have hlen := d.sm
        rw [List.length_append] at hlen
        have hget : left[(c % (left.length : Int)).toNat]? = some left[(c % (left.length : Int)).toNat] := List.getElem?_eq_getElem hk
        have d2 := d.step hget
        have nRD : R ≠ D := d.ne.symm
        refine ⟨_, rfl, .inl ⟨rfl, _, SqL.of d.atR⟩, ?_⟩
        refine ⟨_, rfl, .inl ⟨rfl, _, SqL.of d.atD⟩, ?_⟩
        refine ⟨_, rfl, _, rfl, D, _, rfl, .inl (SqL.of d.atD), c, (left.length : Int), rfl, by rw [List.length_map], hl0, ?_⟩
        refine ⟨D, _, _, (c % (left.length : Int)).toNat, _, rfl, rfl, d.atD, (by omega), (by omega), ?_, (by rw [List.getElem?_map, hget]; rfl), ?_⟩
        · rw [List.length_map]
          exact seqIx h0 h1
        refine ⟨R, _, _, rfl, rfl, by rw [upd_ne nRD]; exact d.atR, ?_, ?_⟩
        · rw [List.length_map]
          exact small1000 (by omega)
        have eH : upd (upd H' D (.lst ((left.map V.int).eraseIdx (c % (left.length : Int)).toNat))) R (.lst (row.map V.int ++ [V.int left[(c % (left.length : Int)).toNat]])) =
            upd (upd H' D (.lst ((left.eraseIdx (c % (left.length : Int)).toNat).map V.int))) R (.lst ((row ++ [left[(c % (left.length : Int)).toNat]]).map V.int)) := by
          rw [map_erase, List.map_append]; rfl
        rw [eH]
        have hel : (left.eraseIdx (c % (left.length : Int)).toNat).length = left.length - 1 := by rw [List.length_eraseIdx, if_pos hk]
        refine ⟨_, rfl, _, rfl, D, _, rfl, .inl (SqL.of d2.atD), _, _, rfl, rfl, _, _, rfl, rfl, ?_, ?_⟩
        · rw [List.length_map, hel]
          exact ⟨by omega, by omega⟩
        · refine ⟨⟨_, _, _, _, rfl, d2⟩, ?_⟩
          rw [d2.atD, d.atD]
          show (List.map V.int _).length < (List.map V.int _).length
          rw [List.length_map, List.length_map, hel]
          omega
      · have hl0 : left = [] := by
          have : ¬ ((left.length : Nat) : Int) > 0 := of_decide_eq_false (Bool.eq_false_iff.mpr c1)
          cases left with
          | nil => rfl
          | cons a l => simp at this
        subst hl0
        have hG := d.good
        refine ⟨_, rfl, _, rfl, ?_⟩
        refine ite2 (fun c2 => ?_) (fun c2 => ?_)
        · exact ⟨_, rfl, q H' R row d.same d.hR d.atR hG⟩
        · obtain ⟨m, hm⟩ := cut_take row (c % ((((row.map V.int).length : Nat) : Int) + 1))
          refine ⟨_, rfl, _, rfl, _, rfl, R, _, rfl, .inl (SqL.of d.atR), _, _, rfl, rfl, _, _, rfl, rfl, (by show (0 : Int) < (((row.map V.int).length : Nat) : Int) + 1; omega), _, rfl, R, _, rfl, SqL.of d.atR, fun p hp => ?_⟩
          rw [hm]
          exact q _ p (row.take m) (d.same.trans (same_new hp _)) (d.same.free hp) upd_same (hG.take m)
    · rintro σ H' Q1 Q2 hq ⟨v, hv, p, ys, e1, h, i, j, e2, e3, k, e4, hq1⟩
      exact ⟨v, hv, p, ys, e1, h, i, j, e2, e3, k, e4, hq _ _ hq1⟩

/-! ### _law_wishes_by -/
theorem sc_wishes_by : FnScope ["_law_script", "_law_many", "_law_full", "_law_k"] ["_law_script", "_law_many"] (defScope s_wishes_by) := ⟨rfl, rfl, rfl, by decide +kernel, rfl, by decide +kernel, by decide +kernel⟩
def sp_wishes_by (K : PySem.W.Frag) : Sp := fun vs H Q _ => ∃ (a : Addr) (ns : List Int) (n : Nat), vs = [.ref a, .int n] ∧ SqL K H a (ns.map V.int) ∧ 1 ≤ n ∧ n ≤ 6 ∧
  ∀ (H' : Hp) (p : Addr) (ws : List (List Int)), Same H H' → H p = none → Tab K H' p ws → Good ws → ws.length = n → Q (.ref p) H'
theorem ok_wishes_by {f : Addr} {fd : FuncData} (F : Fun K "_law_wishes_by" "_law_wishes_by" s_wishes_by f fd) (T : Own mg) (C1 : Cal P w K mg base 1 "_law_cell_at" ["_law_script", "_law_k"] (sp_cell_at K))
    (C2 : Cal P w K mg base 1 "_law_row_by" ["_law_cell", "_law_guest", "_law_many", "_law_full"] sp_row_by) : FnOk P w K mg base CX0 2 f fd ["_law_script", "_law_many"] (sp_wishes_by K) := by
  obtain ⟨g1, gd1, G1, m1, k1, b1⟩ := C1
  obtain ⟨g2, gd2, G2, m2, k2, b2⟩ := C2
  refine F.ok sc_wishes_by (fun vs H Q E h => ?_) (fun cdv A outer s H vs Q E hr h => ?_)
  · obtain ⟨a, ns, n, rfl, _⟩ := h
    rfl
  obtain ⟨a, ns, n, rfl, hS, n1, n6, q⟩ := h
  refine ⟨_, pss_cons (ps_set (i := 2) sc_wishes_by.nd rfl (Or.inr rfl) (pe_cmpR op_gt (pe_op op_mod (pe_call G1 hr (by rfl) m1 k1 b1 .nil pass0 (pa_cons (pv 0) (pa_cons pe_int pa_nil))) pe_int) pe_int (nomark _)))
    (pss_one (ps_ret (pe_lc (own := [("_law_k", 3)]) (g := gName 3) (tt := tYes) rfl sc_wishes_by.nd (pi_range1 rfl T.rng (pa_cons (pv 1) pa_nil))
      (blkOk_by (N := ["_law_script", "_law_many", "_law_full", "_law_k"]) (sc := defScope s_wishes_by) (by decide +kernel))
      (fun _ _ _ _ _ => pg_name (i := 3) sc_wishes_by.nd rfl (Or.inl rfl)) (fun _ _ _ _ _ => pts_nil)
      (fun _ _ _ _ _ => pe_call G2 hr (by rfl) m2 k2 b2 .nil pass0 (pa_cons (pe_call G1 hr (by rfl) m1 k1 b1 .nil pass0 (pa_cons (pv 0) (pa_cons (pe_op op_add pe_int (pv 3)) pa_nil))) (pa_cons (pv 3) (pa_cons (pv 1) (pa_cons (pv 2) pa_nil)))))))), ?_⟩
  refine ⟨_, rfl, a, ns, 1, rfl, hS, by decide, fun c => ?_⟩
  refine ⟨_, _, rfl, rfl, (by show (0 : Int) < 3; decide), _, _, rfl, rfl, ?_⟩
  refine ⟨_, rfl, (n : Int), rfl, by omega, by omega, fun D hD => ?_⟩
  refine lc_range (lo := 0) (n := (n : Int).toNat) (fun i H' => ∃ ws : List (List Int), Built H D (ws.map fun r => r.map V.int) H' ∧ ws.length = i ∧ ∀ (g : Nat) (r : List Int), ws[g]? = some r → GoodRow n (g : Int) r)
    ⟨[], built_start hD, rfl, fun g r h => by cases h⟩ ?_ ?_
  · rintro i H1 hi ⟨ws, hB, hl, hG⟩
    refine ⟨rfl, ?_⟩
    refine ⟨_, rfl, _, rfl, _, _, rfl, rfl, a, ns, _, rfl, hB.1.seq hS, (by omega), fun c2 => ?_⟩
    refine ⟨_, rfl, _, rfl, _, rfl, c2, (i : Int), n, _, (by rw [Int.zero_add]; rfl), n6, fun H2 p r e hp hp2 hr2 => ?_⟩
    obtain ⟨acc, h1, h2, h3⟩ := built_step hD hB e hp hp2
    refine ⟨acc, h1, ?_, ws ++ [r], ?_, ?_, ?_⟩
    · rw [h2, List.length_map, hl]
      exact small1000 (by omega)
    · rw [List.map_append]; exact h3
    · rw [List.length_append, hl]; rfl
    · intro g r' h
      rw [List.getElem?_append] at h
      by_cases c : g < ws.length
      · rw [if_pos c] at h
        exact hG g r' h
      · rw [if_neg c] at h
        have i0 : g - ws.length = 0 := by
          have := (List.getElem?_eq_some_iff.mp h).1
          simp at this
          omega
        rw [i0] at h
        cases h
        have : g = i := by omega
        rw [this]
        exact hr2
  · rintro H1 ⟨ws, hB, hl, hG⟩
    have hln : ws.length = n := by omega
    exact q H1 D ws hB.1 hD hB.tab.t ⟨by omega, by omega, fun g r h => by rw [hln]; exact hG g r h⟩ hln
end
end B2

namespace B2
open PySem L2
section
variable {P : Program} {w : World} {K : PySem.W.Frag} {mg : Str → Option Value} {base : Heap}

/-! ### _law_suits -/
theorem sc_lsuits : FnScope ["_law_wishes", "_law_one", "_law_other"] ["_law_wishes", "_law_one", "_law_other"] (defScope s_lsuits) := ⟨rfl, rfl, rfl, by decide +kernel, rfl, by decide +kernel, by decide +kernel⟩
theorem ok_lsuits {f : Addr} {fd : FuncData} (F : Fun K "_law_suits" "_law_suits" s_lsuits f fd) : FnOk P w K mg base CX0 1 f fd ["_law_wishes", "_law_one", "_law_other"] (sp_in_both K) := by
  refine F.ok sc_lsuits (fun vs H Q E h => ?_) (fun cdv A outer s H vs Q E hr h => ?_)
  · obtain ⟨a, ws, i, j, rfl, _⟩ := h
    rfl
  obtain ⟨a, ws, i, j, rfl, hT, i0, i1, j0, j1, q⟩ := h
  refine ⟨_, pss_one (ps_ret (pe_and (pe_cmpR op_in_seq (pv 2) (pe_ix ix_list (pv 0) (pv 1) (fun _ _ => rfl)) (by rfl))
    (pe_one (pe_cmpR op_in_seq (pv 1) (pe_ix ix_list (pv 0) (pv 2) (fun _ _ => rfl)) (by rfl))))), ?_⟩
  obtain ⟨as, h1, h2, h3⟩ := hT.at
  obtain ⟨bi, hbi, hsi⟩ := h3 i i0 i1
  obtain ⟨bj, hbj, hsj⟩ := h3 j j0 j1
  refine ⟨_, rfl, _, rfl, _, rfl, a, _, _, _, rfl, rfl, h1, hbi, bi, _, rfl, .inl hsi, rfl, flat_ints _, _, rfl, ?_⟩
  show if inV (.int j) ((rowOf ws i).map V.int) = true then _ else _
  rw [inV_int]
  refine ite2 (fun c => ?_) (fun c => ?_)
  · refine ⟨_, rfl, _, rfl, _, rfl, a, _, _, _, rfl, rfl, h1, hbj, bj, _, rfl, .inl hsj, rfl, flat_ints _, ?_⟩
    show Q (.bl (inV (.int i) ((rowOf ws j).map V.int))) H
    rw [inV_int]
    have e : suitsB ws i j = decide (i ∈ rowOf ws j) := by unfold suitsB; rw [c, Bool.true_and]
    rw [← e]; exact q
  · have e : suitsB ws i j = false := by unfold suitsB; rw [Bool.eq_false_iff.mpr c, Bool.false_and]
    rw [e] at q; exact q

/-! ### _law_rather -/
theorem sc_lrather : FnScope ["_law_wishes", "_law_guest", "_law_one", "_law_other", "_law_thing"] ["_law_wishes", "_law_guest", "_law_one", "_law_other"] (defScope s_lrather) := ⟨rfl, rfl, rfl, by decide +kernel, rfl, by decide +kernel, by decide +kernel⟩
def sp_lrather (K : PySem.W.Frag) : Sp := fun vs H Q _ => ∃ (a : Addr) (ws : List (List Int)) (g : Int) (x y : Option Int), vs = [.ref a, .int g, ov x, ov y] ∧ Tab K H a ws ∧ Good ws ∧
  0 ≤ g ∧ g < (ws.length : Int) ∧ OkO ws.length x ∧ Q (.bl (aheadB ws g x y)) H
theorem ok_lrather {f : Addr} {fd : FuncData} (F : Fun K "_law_rather" "_law_rather" s_lrather f fd) (C1 : Cal P w K mg base 1 "_law_suits" ["_law_wishes", "_law_one", "_law_other"] (sp_in_both K)) :
    FnOk P w K mg base CX0 2 f fd ["_law_wishes", "_law_guest", "_law_one", "_law_other"] (sp_lrather K) := by
  obtain ⟨g1, gd1, G1, m1, k1, b1⟩ := C1
  refine F.ok sc_lrather (fun vs H Q E h => ?_) (fun cdv A outer s H vs Q E hr h => ?_)
  · obtain ⟨a, ws, g, x, y, rfl, _⟩ := h
    rfl
  obtain ⟨a, ws, g, x, y, rfl, hT, hG, g0, g1', hx, q⟩ := h
  refine ⟨_, pss_cons (ps_if (PW.pt (pw_or (pt_cmpR op_isN (pv 2) pe_non (nomark _))
      (pw_or1 (pt_not (pt_val (pe_call G1 hr (by rfl) m1 k1 b1 .nil pass0 (pa_cons (pv 0) (pa_cons (pv 1) (pa_cons (pv 2) pa_nil)))))))))
      (pss_one (ps_ret pe_bl)) pss_nil)
    (pss_cons (ps_for PassesOwn.never rfl (pi_list (pe_ix ix_list (pv 0) (pv 1) (fun _ _ => rfl))) (pg_name (i := 4) sc_lrather.nd rfl (Or.inl rfl))
      (pss_cons (ps_if (PW.pt (pw_and (pt_cmpR op_eq (pv 4) (pv 3) (nomark _)) (pw_and1 (pt_val (pe_call G1 hr (by rfl) m1 k1 b1 .nil pass0 (pa_cons (pv 0) (pa_cons (pv 1) (pa_cons (pv 3) pa_nil))))))))
        (pss_one (ps_ret pe_bl)) pss_nil)
      (pss_one (ps_if (pt_cmpR op_eq (pv 4) (pv 2) (nomark _)) (pss_one (ps_ret pe_bl)) pss_nil))))
    (pss_one (ps_ret pe_bl))), ?_⟩
  rw [← rather_is] at q
  refine ⟨_, rfl, rfl, _, rfl, ?_⟩
  cases x with
  | none => exact iteT q
  | some x =>
  refine iteF ?_
  refine ⟨_, rfl, _, rfl, _, rfl, a, ws, g, x, rfl, hT, g0, g1', hx.1, hx.2, _, rfl, ?_⟩
  have e0 : ratherB ws g (some x) y = if suitsB ws g x = true then scanB (suitsB ws g) x y (rowOf ws g) else false := rfl
  rw [e0] at q
  cases e1 : suitsB ws g x with
  | false =>
    rw [e1] at q
    exact iteT q
  | true =>
  rw [e1, if_pos rfl] at q
  refine iteF ?_
  obtain ⟨as, h1, h2, h3⟩ := hT.at
  obtain ⟨b, hb, hs⟩ := h3 g g0 g1'
  refine ⟨_, rfl, _, rfl, a, _, _, _, rfl, rfl, h1, hb, b, rfl, ⟨_, hs⟩, ?_⟩
  refine for_list (K := K) (a := b) (xs := (rowOf ws g).map V.int) (fun i σ H' => H' = H ∧ (∃ z, σ = [some (.ref a), some (.int g), some (.int x), some (ov y), z]) ∧
      scanB (suitsB ws g) x y (rowOf ws g) = scanB (suitsB ws g) x y ((rowOf ws g).drop i))
    ⟨rfl, ⟨none, rfl⟩, by rw [List.drop_zero]⟩ (fun i σ H' _ h => by rw [h.1]; exact hs) ?_ ?_
  · rintro i u σ H' hu ⟨rfl, ⟨z, rfl⟩, es⟩
    obtain ⟨t, ht, rfl⟩ := map_int_get hu
    obtain ⟨hi, et⟩ := List.getElem?_eq_some_iff.mp ht
    have hm : t ∈ rowOf ws g := List.mem_of_getElem? ht
    obtain ⟨t0, t1, t2⟩ := (rowOf_good hG g0 g1').rg t hm
    have ed : (rowOf ws g).drop i = t :: (rowOf ws g).drop (i + 1) := by rw [← et]; exact List.drop_eq_getElem_cons hi
    rw [ed] at es
    refine ⟨_, rfl, _, rfl, (by cases y <;> rfl), _, rfl, ?_⟩
    have e2 : decide (V.int t = ov y) = decide (some t = y) := ov_dec (some t) y
    rw [e2]
    refine ite2 (fun c => ?_) (fun c => ?_)
    · have c' : some t = y := of_decide_eq_true c
      subst c'
      refine ⟨_, rfl, _, rfl, _, rfl, a, ws, g, t, rfl, hT, g0, g1', t0, t1, _, rfl, ?_⟩
      cases e3 : suitsB ws g t with
      | true =>
        have e4 : scanB (suitsB ws g) x (some t) (t :: (rowOf ws g).drop (i + 1)) = false := by
          unfold scanB
          rw [if_pos (by rw [e3]; simp)]
        rw [es, e4] at q
        exact iteT q
      | false =>
        refine iteF ?_
        have e4 : scanB (suitsB ws g) x (some t) (t :: (rowOf ws g).drop (i + 1)) = if t = x then true else scanB (suitsB ws g) x (some t) ((rowOf ws g).drop (i + 1)) := by
          rw [scanB, if_neg (by rw [e3]; simp)]
        rw [e4] at es
        refine ⟨_, rfl, _, rfl, rfl, _, rfl, ?_⟩
        have e5 : decide (V.int t = V.int x) = decide (t = x) := by
          by_cases h : t = x
          · rw [h]; simp
          · rw [decide_eq_false h, decide_eq_false (fun z => h (by cases z; rfl))]
        rw [e5]
        refine ite2 (fun c => ?_) (fun c => ?_)
        · rw [if_pos (of_decide_eq_true c)] at es
          rw [es] at q
          exact q
        · rw [if_neg (of_decide_eq_false (Bool.eq_false_iff.mpr c))] at es
          exact ⟨rfl, ⟨_, rfl⟩, es⟩
    · have c' : ¬ some t = y := of_decide_eq_false (Bool.eq_false_iff.mpr c)
      have e4 : scanB (suitsB ws g) x y (t :: (rowOf ws g).drop (i + 1)) = if t = x then true else scanB (suitsB ws g) x y ((rowOf ws g).drop (i + 1)) := by
        rw [scanB, if_neg (by rw [decide_eq_false c']; simp)]
      rw [e4] at es
      refine ⟨_, rfl, _, rfl, rfl, _, rfl, ?_⟩
      have e5 : decide (V.int t = V.int x) = decide (t = x) := by
        by_cases h : t = x
        · rw [h]; simp
        · rw [decide_eq_false h, decide_eq_false (fun z => h (by cases z; rfl))]
      rw [e5]
      refine ite2 (fun c => ?_) (fun c => ?_)
      · rw [if_pos (of_decide_eq_true c)] at es
        rw [es] at q
        exact q
      · rw [if_neg (of_decide_eq_false (Bool.eq_false_iff.mpr c))] at es
        exact ⟨rfl, ⟨_, rfl⟩, es⟩
  · rintro σ H' ⟨rfl, ⟨z, rfl⟩, es⟩
    rw [es, List.drop_eq_nil_of_le (by rw [List.length_map]; exact Nat.le_refl _)] at q
    exact q
end
end B2

namespace B2
open PySem L2
section
variable {P : Program} {w : World} {K : PySem.W.Frag} {mg : Str → Option Value} {base : Heap}

/-! ### _law_restless -/
theorem sc_lrestless : FnScope ["_law_wishes", "_law_mates_here", "_law_found", "_law_one", "_law_other"] ["_law_wishes", "_law_mates_here"] (defScope s_lrestless) := ⟨rfl, rfl, rfl, by decide +kernel, rfl, by decide +kernel, by decide +kernel⟩
theorem ok_lrestless {f : Addr} {fd : FuncData} (F : Fun K "_law_restless" "_law_restless" s_lrestless f fd) (T : Own mg) (C1 : Cal P w K mg base 2 "_law_rather" ["_law_wishes", "_law_guest", "_law_one", "_law_other"] (sp_lrather K)) :
    FnOk P w K mg base CX0 3 f fd ["_law_wishes", "_law_mates_here"] (sp_pairs K) := by
  obtain ⟨g1, gd1, G1, m1, k1, b1⟩ := C1
  refine F.ok sc_lrestless (fun vs H Q E h => ?_) (fun cdv A outer s H vs Q E hr h => ?_)
  · obtain ⟨a, b, ws, ms, rfl, _⟩ := h
    rfl
  obtain ⟨a, b, ws, ms, rfl, hT, hG, hM, hO, q⟩ := h
  refine ⟨_, pss_cons (ps_set (i := 2) sc_lrestless.nd rfl (Or.inl rfl) (pe_lst pa_nil))
    (pss_cons (ps_for PassesOwn.never rfl (pi_range1 rfl T.rng (pa_cons (pe_callB call_len_seq (by rfl) T.len PySem.boot_len (pa_cons (pv 0) pa_nil)) pa_nil)) (pg_name (i := 3) sc_lrestless.nd rfl (Or.inl rfl))
      (pss_one (ps_for PassesOwn.never rfl (pi_range2 (by rfl) T.rng (pa_cons (pe_op op_add (pv 3) pe_int) (pa_cons (pe_callB call_len_seq (by rfl) T.len PySem.boot_len (pa_cons (pv 0) pa_nil)) pa_nil))) (pg_name (i := 4) sc_lrestless.nd rfl (Or.inl rfl))
        (pss_one (ps_if (PW.pt (pw_and (pt_val (pe_call G1 hr (by rfl) m1 k1 b1 .nil pass0 (pa_cons (pv 0) (pa_cons (pv 3) (pa_cons (pv 4) (pa_cons (pe_ix ix_list (pv 1) (pv 3) (fun _ _ => rfl)) pa_nil))))))
          (pw_and1 (pt_val (pe_call G1 hr (by rfl) m1 k1 b1 .nil pass0 (pa_cons (pv 0) (pa_cons (pv 4) (pa_cons (pv 3) (pa_cons (pe_ix ix_list (pv 1) (pv 4) (fun _ _ => rfl)) pa_nil)))))))))
          (pss_one (ps_expr (pe_bm PySem.F.plainAttrs_list PySem.F.slot_list_append PySem.F.type_list_append mt_append (pv 2) (pa_cons (pe_tup (pa_cons (pv 3) (pa_cons (pv 4) pa_nil))) pa_nil)))) pss_nil)))))
    (pss_one (ps_ret (pv 2)))), ?_⟩
  obtain ⟨as, h1, h2, h3⟩ := id hT
  have hl : (as.map V.ref).length = ws.length := by rw [List.length_map]; exact h2
  have hi := hG.hi
  have hml := hO.len
  refine ⟨(by show 0 ≤ sizeLine; decide), fun D hD => ?_⟩
  have s0 := same_new hD (.lst [])
  refine ⟨_, rfl, a, _, rfl, .inl (s0.seq h1), (((as.map V.ref).length : Nat) : Int), rfl, by rw [hl]; omega, by rw [hl]; omega, ?_⟩
  refine for_range (lo := 0) (n := (((as.map V.ref).length : Nat) : Int).toNat) (fun i σ H' => BuiltF tupO H D (wildUp ws ms ws.length i) H' ∧ ∃ y z, σ = [some (.ref a), some (.ref b), some (.ref D), y, z])
    ⟨built_start hD, none, none, rfl⟩ ?_ ?_
  · rintro i σ H2 hin ⟨hB, y, z, rfl⟩
    have hin' : i < ws.length := by rw [hl] at hin; omega
    have ei : (0 : Int) + (i : Int) = (i : Int) := Int.zero_add _
    rw [ei]
    refine ⟨_, rfl, _, _, rfl, rfl, _, rfl, a, _, rfl, .inl (hB.1.seq h1), _, _, rfl, ⟨by omega, by omega, by rw [hl]; omega, by rw [hl]; omega⟩, ?_⟩
    rw [hl]
    have en : (((ws.length : Nat) : Int) - ((i : Int) + 1)).toNat = ws.length - (i + 1) := by omega
    refine for_range (lo := (i : Int) + 1) (n := (((ws.length : Nat) : Int) - ((i : Int) + 1)).toNat) (fun t σ H' => BuiltF tupO H D (wildUp ws ms ws.length i ++ wildIn ws ms i t) H' ∧ ∃ z, σ = [some (.ref a), some (.ref b), some (.ref D), some (.int (i : Int)), z])
      ⟨by show BuiltF tupO H D (wildUp ws ms ws.length i ++ []) H2; rw [List.append_nil]; exact hB, _, rfl⟩ ?_ ?_
    · rintro t σ H4 hlt ⟨hB2, z, rfl⟩
      have hT4 := hT.same hB2.1
      have hM4 := hB2.1.seq hM
      refine ⟨_, rfl, _, rfl, _, rfl, _, rfl, _, rfl, b, _, _, _, rfl, rfl, hM4, mt_at (ms := ms) (i := (i : Int)) (by omega) (by omega), ?_⟩
      refine ⟨a, ws, (i : Int), some ((i : Int) + 1 + (t : Int)), mt ms (i : Int), rfl, hT4, hG, by omega, by omega, ⟨by omega, by omega⟩, _, rfl, ?_⟩
      have ew : wildIn ws ms i (t + 1) = wildIn ws ms i t ++ (if wild ws ms (i : Int) ((i : Int) + 1 + (t : Int)) = true then [((i : Int), (i : Int) + 1 + (t : Int))] else []) := rfl
      have eu : wild ws ms (i : Int) ((i : Int) + 1 + (t : Int)) = (aheadB ws (i : Int) (some ((i : Int) + 1 + (t : Int))) (mt ms (i : Int)) && aheadB ws ((i : Int) + 1 + (t : Int)) (some (i : Int)) (mt ms ((i : Int) + 1 + (t : Int)))) := rfl
      rw [ew, eu]
      cases e1 : aheadB ws (i : Int) (some ((i : Int) + 1 + (t : Int))) (mt ms (i : Int)) with
      | false =>
        rw [Bool.false_and]
        refine iteF ⟨?_, _, rfl⟩
        show BuiltF tupO H D (wildUp ws ms ws.length i ++ (wildIn ws ms i t ++ [])) H4
        rw [List.append_nil]
        exact hB2
      | true =>
        rw [Bool.true_and]
        refine iteT ?_
        refine ⟨_, rfl, _, rfl, _, rfl, _, rfl, _, rfl, b, _, _, _, rfl, rfl, hM4, mt_at (ms := ms) (i := (i : Int) + 1 + (t : Int)) (by omega) (by omega), ?_⟩
        refine ⟨a, ws, (i : Int) + 1 + (t : Int), some (i : Int), mt ms ((i : Int) + 1 + (t : Int)), rfl, hT4, hG, by omega, by omega, ⟨by omega, by omega⟩, _, rfl, ?_⟩
        cases e2 : aheadB ws ((i : Int) + 1 + (t : Int)) (some (i : Int)) (mt ms ((i : Int) + 1 + (t : Int))) with
        | false =>
          refine iteF ⟨?_, _, rfl⟩
          show BuiltF tupO H D (wildUp ws ms ws.length i ++ (wildIn ws ms i t ++ [])) H4
          rw [List.append_nil]
          exact hB2
        | true =>
          refine iteT ?_
          obtain ⟨as2, y1, y2, y3⟩ := id hB2.2
          refine ⟨_, rfl, .inl ⟨rfl, _, SqL.of y1⟩, _, rfl, _, rfl, (by show 2 ≤ sizeLine; decide), fun p hp => ?_⟩
          obtain ⟨acc, z1, z2, z3⟩ := built_step (r := ((i : Int), (i : Int) + 1 + (t : Int))) hD hB2 (same_new hp _) hp upd_same
          refine ⟨D, _, _, rfl, rfl, z1, ?_, ?_, _, rfl⟩
          · have l1 := wildUp_le ws ms ws.length i
            have l2 := wildIn_le ws ms i t
            have l3 : i * ws.length ≤ 6 * 6 := Nat.mul_le_mul (by omega) (by omega)
            rw [z2, List.length_append]
            exact small1000 (by omega)
          · show BuiltF tupO H D (wildUp ws ms ws.length i ++ (wildIn ws ms i t ++ [((i : Int), (i : Int) + 1 + (t : Int))])) _
            rw [← List.append_assoc]
            exact z3
    · rintro σ H' ⟨h, z, rfl⟩
      rw [en] at h
      exact ⟨h, _, _, rfl⟩
  · rintro σ H' ⟨h, y, z, rfl⟩
    have e : (((as.map V.ref).length : Nat) : Int).toNat = ws.length := by rw [hl]; omega
    rw [e] at h
    exact ⟨_, rfl, q H' D hD h⟩
end
end B2

namespace B2
open PySem L2
section
variable {P : Program} {w : World} {K : PySem.W.Frag} {mg : Str → Option Value} {base : Heap}

/-! ### _law_whole -/
theorem sc_whole : FnScope ["_law_found"] ["_law_found"] (defScope s_whole) := ⟨rfl, rfl, rfl, by decide +kernel, rfl, by decide +kernel, by decide +kernel⟩
def sp_whole : Sp := fun vs H Q _ => ∃ (i : Int), vs = [.int i] ∧ Q (.bl true) H
theorem ok_whole {f : Addr} {fd : FuncData} (F : Fun K "_law_whole" "_law_whole" s_whole f fd) (T : Own mg) : FnOk P w K mg base CX0 1 f fd ["_law_found"] sp_whole := by
  refine F.ok sc_whole (fun vs H Q E h => ?_) (fun cdv A outer s H vs Q E hr h => ?_)
  · obtain ⟨i, rfl, _⟩ := h
    rfl
  obtain ⟨i, rfl, q⟩ := h
  refine ⟨_, pss_one (ps_ret (pe_and (pe_callB call_isi (by rfl) T.isI (by decide +kernel) (pa_cons (pv 0) (pa_cons (pe_bltn (v := .ty "int") (by rfl) T.int (by decide +kernel) rfl) pa_nil)))
      (pe_one (pe_not (pe_callB call_isi (by rfl) T.isI (by decide +kernel) (pa_cons (pv 0) (pa_cons (pe_bltn (v := .ty "bool") (by rfl) T.bool (by decide +kernel) rfl) pa_nil))))))), ?_⟩
  exact ⟨_, rfl, _, _, _, _, _, rfl, .ty _, .base (.int i), kit_ii, _, rfl, _, rfl, _, _, _, _, _, rfl, .ty _, .base (.int i), kit_ib, _, rfl, q⟩

end
end B2

namespace B2
open PySem L2
section
variable {P : Program} {w : World} {K : PySem.W.Frag} {mg : Str → Option Value} {base : Heap}

/-! ### _law_mates -/
theorem sc_lmates : FnScope ["_law_wishes", "_law_mates_here", "_law_guest", "_law_mate"] ["_law_wishes", "_law_mates_here"] (defScope s_lmates) := ⟨rfl, rfl, rfl, by decide +kernel, rfl, by decide +kernel, by decide +kernel⟩
def sp_lmates (K : PySem.W.Frag) : Sp := fun vs H Q _ => ∃ (a b : Addr) (ws : List (List Int)) (ms : List (Option Int)), vs = [.ref a, .ref b] ∧ Tab K H a ws ∧ ws.length ≤ 6 ∧ SqL K H b (ms.map ov) ∧ OkMates ws ms ∧ Q (.bl true) H
theorem ok_lmates {f : Addr} {fd : FuncData} (F : Fun K "_law_mates" "_law_mates" s_lmates f fd) (T : Own mg) (C1 : Cal P w K mg base 1 "_law_whole" ["_law_found"] sp_whole)
    (C2 : Cal P w K mg base 1 "_law_suits" ["_law_wishes", "_law_one", "_law_other"] (sp_in_both K)) : FnOk P w K mg base CX0 2 f fd ["_law_wishes", "_law_mates_here"] (sp_lmates K) := by
  obtain ⟨g1, gd1, G1, m1, k1, b1⟩ := C1
  obtain ⟨g2, gd2, G2, m2, k2, b2⟩ := C2
  refine F.ok sc_lmates (fun vs H Q E h => ?_) (fun cdv A outer s H vs Q E hr h => ?_)
  · obtain ⟨a, b, ws, ms, rfl, _⟩ := h
    rfl
  obtain ⟨a, b, ws, ms, rfl, hT, h6, hM, hO, q⟩ := h
  refine ⟨_, pss_cons (ps_if (PW.pt (pw_or (pt_not (pt_val (pe_callB call_isi (by rfl) T.isI (by decide +kernel) (pa_cons (pv 1) (pa_cons (pe_bltn (v := .ty "list") (by rfl) T.list (by decide +kernel) rfl) pa_nil)))))
        (pw_or1 (pt_cmpR op_ne (pe_callB call_len_seq (by rfl) T.len PySem.boot_len (pa_cons (pv 1) pa_nil)) (pe_callB call_len_seq (by rfl) T.len PySem.boot_len (pa_cons (pv 0) pa_nil)) (nomark _))))) (pss_one (ps_ret pe_bl)) pss_nil)
    (pss_cons (ps_for PassesOwn.never rfl (pi_range1 rfl T.rng (pa_cons (pe_callB call_len_seq (by rfl) T.len PySem.boot_len (pa_cons (pv 1) pa_nil)) pa_nil)) (pg_name (i := 2) sc_lmates.nd rfl (Or.inl rfl))
      (pss_cons (ps_set (i := 3) sc_lmates.nd rfl (Or.inl rfl) (pe_ix ix_list (pv 1) (pv 2) (fun _ _ => rfl)))
      (pss_one (ps_if (pt_cmpR op_notN (pv 3) pe_non (nomark _))
        (pss_cons (ps_if (PW.pt (pw_or (pt_not (pt_val (pe_call G1 hr (by rfl) m1 k1 b1 .nil pass0 (pa_cons (pv 3) pa_nil))))
            (pw_or (pt_cmpR op_lt (pv 3) pe_int (nomark _))
            (pw_or (pt_cmpR op_ge (pv 3) (pe_callB call_len_seq (by rfl) T.len PySem.boot_len (pa_cons (pv 1) pa_nil)) (nomark _))
            (pw_or1 (pt_cmpR op_ne (pe_ix ix_list (pv 1) (pv 3) (fun _ _ => rfl)) (pv 2) (nomark _))))))) (pss_one (ps_ret pe_bl)) pss_nil)
        (pss_one (ps_if (pt_not (pt_val (pe_call G2 hr (by rfl) m2 k2 b2 .nil pass0 (pa_cons (pv 0) (pa_cons (pv 2) (pa_cons (pv 3) pa_nil)))))) (pss_one (ps_ret pe_bl)) pss_nil))) pss_nil))))
    (pss_one (ps_ret pe_bl))), ?_⟩
  obtain ⟨as, h1, h2, h3⟩ := id hT
  have hl : (as.map V.ref).length = ws.length := by rw [List.length_map]; exact h2
  have hml := hO.len
  have hml2 : (ms.map ov).length = ws.length := by rw [List.length_map]; exact hO.len
  refine ⟨_, rfl, _, _, _, _, _, rfl, .ty _, ty_list hM, kit_ll, _, rfl, iteF ?_⟩
  refine ⟨_, rfl, b, _, rfl, .inl hM, _, rfl, a, _, rfl, .inl h1, rfl, _, rfl, ?_⟩
  rw [decide_eq_true (show V.int ((ms.map ov).length : Nat) = V.int ((as.map V.ref).length : Nat) by rw [hml2, hl])]
  refine iteF ?_
  refine ⟨_, rfl, b, _, rfl, .inl hM, (((ms.map ov).length : Nat) : Int), rfl, by rw [hml2]; omega, by rw [hml2]; omega, ?_⟩
  refine for_range (lo := 0) (n := (((ms.map ov).length : Nat) : Int).toNat) (fun i σ H' => H' = H ∧ ∃ y z, σ = [some (.ref a), some (.ref b), y, z])
    ⟨rfl, none, none, rfl⟩ ?_ ?_
  · rintro i σ H' hin ⟨rfl, y, z, rfl⟩
    have hin' : i < ws.length := by rw [hml2] at hin; omega
    have ei : (0 : Int) + (i : Int) = (i : Int) := Int.zero_add _
    rw [ei]
    refine ⟨_, rfl, _, rfl, b, _, _, _, rfl, rfl, hM, mt_at (ms := ms) (i := (i : Int)) (by omega) (by omega), ?_⟩
    refine ⟨_, rfl, rfl, _, rfl, ?_⟩
    rw [ov_non]
    cases e1 : mt ms (i : Int) with
    | none => exact iteF ⟨rfl, _, _, rfl⟩
    | some m =>
    obtain ⟨p0, p1, p2, p3⟩ := hO.pr (i : Int) m (by omega) (by omega) e1
    refine iteT ?_
    refine ⟨_, rfl, m, rfl, _, rfl, iteF ?_⟩
    refine ⟨_, rfl, _, _, rfl, rfl, _, rfl, ?_⟩
    rw [decide_eq_false (show ¬ m < 0 by omega)]
    refine iteF ?_
    refine ⟨_, rfl, _, rfl, b, _, rfl, .inl hM, _, _, rfl, rfl, _, rfl, ?_⟩
    rw [decide_eq_false (show ¬ m ≥ (((ms.map ov).length : Nat) : Int) by rw [hml2]; omega)]
    refine iteF ?_
    refine ⟨_, rfl, _, rfl, b, _, _, _, rfl, rfl, hM, mt_at (ms := ms) p0 (by omega), ?_⟩
    rw [p2]
    refine ⟨_, rfl, rfl, _, rfl, ?_⟩
    rw [decide_eq_true (show ov (some (i : Int)) = V.int (i : Int) from rfl)]
    refine iteF ?_
    refine ⟨_, rfl, _, rfl, _, rfl, a, ws, (i : Int), m, rfl, hT, by omega, by omega, p0, p1, _, rfl, ?_⟩
    rw [p3]
    exact iteF ⟨rfl, _, _, rfl⟩
  · rintro σ H' ⟨rfl, y, z, rfl⟩
    exact q
end
end B2

namespace B2
open PySem L2
theorem nx_at {ns : List Int} {i : Int} (h0 : 0 ≤ i) (h1 : i < (ns.length : Int)) : atI (ns.map V.int) i = some (.int (nxI ns i)) := by
  obtain ⟨a, rfl⟩ := nat_of h0
  exact atI_nat (by rw [List.getElem?_map, nx_get (ns := ns) (a := a) (by omega)]; rfl)
theorem OkAfter.nxI {n : Nat} {ns : List Int} (A : OkAfter n ns) {i : Int} (h0 : 0 ≤ i) (h1 : i < (n : Int)) : 0 ≤ nxI ns i ∧ nxI ns i < (n : Int) := by
  obtain ⟨a, rfl⟩ := nat_of h0
  exact A.nx (by omega)
theorem OkAfter.oko {n : Nat} {ns : List Int} (A : OkAfter n ns) {i : Int} (h0 : 0 ≤ i) (h1 : i < (n : Int)) : OkO n (hdI ns i) := by
  obtain ⟨a, rfl⟩ := nat_of h0
  rw [A.hd (by omega)]
  unfold selfO
  have := (A.lnfl a (by omega)).1
  by_cases c : lN ns a = a
  · rw [if_pos c]; trivial
  · rw [if_neg c]
    exact ⟨by omega, by omega⟩
theorem int_dec (i j : Int) : decide (V.int i = V.int j) = decide (i = j) := by
  by_cases h : i = j
  · rw [h]; simp
  · rw [decide_eq_false h, decide_eq_false (fun z => h (by cases z; rfl))]
end B2

namespace B2
open PySem L2
section
variable {P : Program} {w : World} {K : PySem.W.Frag} {mg : Str → Option Value} {base : Heap}

/-! ### _law_rings -/
theorem sc_lrings : FnScope ["_law_after_here", "_law_found", "_law_guest", "_law_ring"] ["_law_after_here"] (defScope s_lrings) := ⟨rfl, rfl, rfl, by decide +kernel, rfl, by decide +kernel, by decide +kernel⟩
def sp_lrings (K : PySem.W.Frag) : Sp := fun vs H Q _ => ∃ (b : Addr) (ns : List Int) (n : Nat), vs = [.ref b] ∧ SqL K H b (ns.map V.int) ∧ OkAfter n ns ∧ n ≤ 6 ∧
  ∀ (H' : Hp) (p : Addr), H p = none → Built H p ((ringsL ns).map fun r => r.map V.int) H' → Q (.ref p) H'
theorem ok_lrings {f : Addr} {fd : FuncData} (F : Fun K "_law_rings" "_law_rings" s_lrings f fd) (T : Own mg) : FnOk P w K mg base CX0 1 f fd ["_law_after_here"] (sp_lrings K) := by
  refine F.ok sc_lrings (fun vs H Q E h => ?_) (fun cdv A outer s H vs Q E hr h => ?_)
  · obtain ⟨b, ns, n, rfl, _⟩ := h
    rfl
  obtain ⟨b, ns, n, rfl, hS, hA, n6, q⟩ := h
  refine ⟨_, pss_cons (ps_set (i := 1) sc_lrings.nd rfl (Or.inl rfl) (pe_lst pa_nil))
    (pss_cons (ps_for PassesOwn.never rfl (pi_range1 rfl T.rng (pa_cons (pe_callB call_len_seq (by rfl) T.len PySem.boot_len (pa_cons (pv 0) pa_nil)) pa_nil)) (pg_name (i := 2) sc_lrings.nd rfl (Or.inl rfl))
      (pss_cons (ps_set (i := 3) sc_lrings.nd rfl (Or.inl rfl) (pe_lst (pa_cons (pv 2) pa_nil)))
      (pss_cons (ps_while PassesOwn.never (pt_cmpR op_ne (pe_ix ix_list (pv 0) (pe_ix ix_list (pv 3) (pe_un un_neg pe_int) (fun _ _ => rfl)) (fun _ _ => rfl)) (pv 2) (nomark _))
        (pss_one (ps_expr (pe_bm PySem.F.plainAttrs_list PySem.F.slot_list_append PySem.F.type_list_append mt_append (pv 3)
          (pa_cons (pe_ix ix_list (pv 0) (pe_ix ix_list (pv 3) (pe_un un_neg pe_int) (fun _ _ => rfl)) (fun _ _ => rfl)) pa_nil)))))
      (pss_one (ps_if (pt_cmpR op_eq (pe_callB (cr_min rfl) (by rfl) T.min (by decide +kernel) (pa_cons (pv 3) pa_nil)) (pv 2) (nomark _))
        (pss_one (ps_expr (pe_bm PySem.F.plainAttrs_list PySem.F.slot_list_append PySem.F.type_list_append mt_append (pv 1) (pa_cons (pv 3) pa_nil)))) pss_nil)))))
    (pss_one (ps_ret (pv 1)))), ?_⟩
  have hl := hA.len
  have hl2 : (ns.map V.int).length = n := by rw [List.length_map]; exact hl
  have en : (((ns.map V.int).length : Nat) : Int).toNat = n := by rw [hl2]; omega
  refine ⟨(by show 0 ≤ sizeLine; decide), fun D hD => ?_⟩
  refine ⟨_, rfl, b, _, rfl, .inl ((same_new hD _).seq hS), (((ns.map V.int).length : Nat) : Int), rfl, by rw [hl2]; omega, by rw [hl2]; omega, ?_⟩
  refine for_range (lo := 0) (n := (((ns.map V.int).length : Nat) : Int).toNat) (fun i σ H' => Built H D ((ringsUp ns i).map fun r => r.map V.int) H' ∧ ∃ y z, σ = [some (.ref b), some (.ref D), y, z])
    ⟨built_start hD, none, none, rfl⟩ ?_ ?_
  · rintro i σ H1 hin ⟨hB, y, z, rfl⟩
    have hi : i < n := by rw [en] at hin; exact hin
    have ei : (0 : Int) + (i : Int) = (i : Int) := Int.zero_add _
    rw [ei]
    have hp1 := hA.per1 hi
    have hpl := hA.per_le hi
    refine ⟨_, rfl, (by show 1 ≤ sizeLine; decide), fun R hR => ?_⟩
    obtain ⟨as0, ba, _, _⟩ := id hB.2
    have hDR : D ≠ R := ne_of_none ba hR
    have hR0 : H R = none := hB.1.free hR
    refine while_by (fun σ H' => ∃ k : Nat, (∀ j, 1 ≤ j → j ≤ k → Tan.iter (fN ns) j i ≠ i) ∧ σ = [some (.ref b), some (.ref D), some (.int (i : Int)), some (.ref R)] ∧ Same H1 H' ∧ H' R = some (.lst ((intsN (partN ns i (k + 1))).map V.int)))
      (fun σ H' => match H' R with | some (.lst xs) => 7 - xs.length | _ => 0)
      ⟨0, fun j _ _ => by omega, rfl, same_new hR _, upd_same⟩ ?_ ?_
    · rintro σ H2 ⟨k, hno, rfl, hs, hat⟩
      have hk : k < perN ns i := by
        by_cases c : k < perN ns i
        · exact c
        · exact absurd hp1.2.1 (hno _ hp1.1 (by omega))
      have hS2 : SqL K H2 b (ns.map V.int) := (hB.1.trans hs).seq hS
      have hil := hA.it hi k
      have elast : atI ((intsN (partN ns i (k + 1))).map V.int) (-1) = some (.int ((Tan.iter (fN ns) k i : Nat) : Int)) := by
        unfold intsN
        rw [part_succ, List.map_append, List.map_append]
        exact atI_last _ _
      have enx : atI (ns.map V.int) ((Tan.iter (fN ns) k i : Nat) : Int) = some (.int ((Tan.iter (fN ns) (k + 1) i : Nat) : Int)) := by
        rw [nx_at (ns := ns) (by omega) (by omega), hA.nxf hil]
        rfl
      refine ⟨_, rfl, _, rfl, _, rfl, R, _, _, _, rfl, rfl, SqL.of hat, elast, b, _, _, _, rfl, rfl, hS2, enx, _, rfl, rfl, _, rfl, ?_⟩
      rw [int_dec]
      by_cases c : ((Tan.iter (fN ns) (k + 1) i : Nat) : Int) = (i : Int)
      · rw [decide_eq_true c]
        have c' : Tan.iter (fN ns) (k + 1) i = i := by omega
        have ep : perN ns i = k + 1 := by
          have := hp1.2.2 (k + 1) (by omega) c'
          omega
        have er : intsN (partN ns i (k + 1)) = ringN ns i := by
          unfold ringN
          rw [ep]
        rw [er] at hat
        refine iteF ?_
        refine ⟨_, rfl, R, ringN ns i, rfl, SqL.of hat, by rw [ringN_len]; omega, fun m hm hle => ?_⟩
        refine ⟨_, rfl, rfl, _, rfl, ?_⟩
        rw [int_dec]
        have hin2 : (i : Int) ∈ ringN ns i := List.mem_map.mpr ⟨i, hA.part_in hi, rfl⟩
        have hB2 := hB.on hs
        obtain ⟨as, b1, b2, b3⟩ := id hB2.2
        rw [ringsUp_succ, List.map_append]
        by_cases c2 : m = (i : Int)
        · have el : leadB ns i = true := by
            unfold leadB
            rw [List.all_eq_true]
            intro x hx
            have := hle (x : Int) (List.mem_map.mpr ⟨x, hx, rfl⟩)
            apply decide_eq_true
            omega
          rw [decide_eq_true c2, if_pos el]
          refine iteT ?_
          obtain ⟨acc, z1, z2, z3⟩ := built_put (f := HO.lst) (r := (ringN ns i).map V.int) hD hB2 hat hDR.symm hR0
          have hrl := ringsUp_len ns i
          refine ⟨_, rfl, .inl ⟨rfl, _, SqL.of z1⟩, _, rfl, D, _, _, rfl, rfl, z1, ?_, z3, _, _, rfl⟩
          rw [z2, List.length_map]
          exact small1000 (by omega)
        · have el : ¬ leadB ns i = true := fun z => c2 (by
            unfold leadB at z
            rw [List.all_eq_true] at z
            obtain ⟨x, hx, rfl⟩ := List.mem_map.mp hm
            have h1 := of_decide_eq_true (z x hx)
            have h2 := hle _ hin2
            omega)
          rw [decide_eq_false c2, if_neg el]
          refine iteF ⟨?_, _, _, rfl⟩
          rw [List.map_nil, List.append_nil]
          exact hB2
      · rw [decide_eq_false c]
        refine iteT ?_
        refine ⟨_, rfl, .inl ⟨rfl, _, SqL.of hat⟩, _, rfl, _, rfl, _, rfl, R, _, _, _, rfl, rfl, SqL.of hat, elast, b, _, _, _, rfl, rfl, hS2, enx, ?_⟩
        refine ⟨R, _, _, rfl, rfl, hat, ?_, ⟨k + 1, fun j j1 j2 => ?_, rfl, same_put hs hR _, ?_⟩, ?_⟩
        · rw [List.length_map]
          unfold intsN
          rw [List.length_map, part_len]
          exact small1000 (by omega)
        · by_cases cj : j = k + 1
          · rw [cj]; exact fun z => c (by omega)
          · exact hno j j1 (by omega)
        · rw [upd_same]
          unfold intsN
          rw [part_succ ns i (k + 1), List.map_append, List.map_append]
          rfl
        · have hk1 : k + 1 < perN ns i := by
            by_cases c3 : k + 1 < perN ns i
            · exact c3
            · have e3 : k + 1 = perN ns i := by omega
              rw [e3] at c
              rw [hp1.2.1] at c
              exact absurd rfl c
          show (match upd H2 R _ R with | some (.lst xs) => 7 - xs.length | _ => 0) < (match H2 R with | some (.lst xs) => 7 - xs.length | _ => 0)
          rw [upd_same, hat]
          show 7 - (_ ++ [_]).length < 7 - _
          rw [List.length_append, List.length_map]
          unfold intsN
          rw [List.length_map, part_len, List.length_singleton]
          omega
    · rintro σ H' Q1 Q2 hq ⟨v, hv, v2, hv2, v3, hv3, p1, x1, x2, x3, e1, e2, e3, e4, p2, y1, y2, y3, f1, f2, f3, f4, g1, g2, g3, g4, g5, hq1⟩
      exact ⟨v, hv, v2, hv2, v3, hv3, p1, x1, x2, x3, e1, e2, e3, e4, p2, y1, y2, y3, f1, f2, f3, f4, g1, g2, g3, g4, g5, hq _ _ hq1⟩
  · rintro σ H' ⟨h, y, z, rfl⟩
    rw [en] at h
    refine ⟨_, rfl, q H' D hD ?_⟩
    unfold ringsL
    rw [hl]
    exact h
end
end B2

namespace B2
open PySem L2
section
variable {P : Program} {w : World} {K : PySem.W.Frag} {mg : Str → Option Value} {base : Heap}

/-! ### _law_ahead -/
theorem sc_lahead : FnScope ["_law_after_here", "_law_guest", "_law_one"] ["_law_after_here", "_law_guest"] (defScope s_lahead) := ⟨rfl, rfl, rfl, by decide +kernel, rfl, by decide +kernel, by decide +kernel⟩
def sp_lahead (K : PySem.W.Frag) : Sp := fun vs H Q _ => ∃ (b : Addr) (ns : List Int) (n : Nat) (g : Int), vs = [.ref b, .int g] ∧ SqL K H b (ns.map V.int) ∧ OkAfter n ns ∧ n ≤ 6 ∧ 0 ≤ g ∧ g < (n : Int) ∧ Q (ov (hdI ns g)) H
theorem ok_lahead {f : Addr} {fd : FuncData} (F : Fun K "_law_ahead" "_law_ahead" s_lahead f fd) (T : Own mg) : FnOk P w K mg base CX0 1 f fd ["_law_after_here", "_law_guest"] (sp_lahead K) := by
  refine F.ok sc_lahead (fun vs H Q E h => ?_) (fun cdv A outer s H vs Q E hr h => ?_)
  · obtain ⟨b, ns, n, g, rfl, _⟩ := h
    rfl
  obtain ⟨b, ns, n, g, rfl, hS, hA, n6, g0, g1, q⟩ := h
  refine ⟨_, pss_cons (ps_if (pt_cmpR op_eq (pe_ix ix_list (pv 0) (pv 1) (fun _ _ => rfl)) (pv 1) (nomark _)) (pss_one (ps_ret pe_non)) pss_nil)
    (pss_cons (ps_for PassesOwn.never rfl (pi_range1 rfl T.rng (pa_cons (pe_callB call_len_seq (by rfl) T.len PySem.boot_len (pa_cons (pv 0) pa_nil)) pa_nil)) (pg_name (i := 2) sc_lahead.nd rfl (Or.inl rfl))
      (pss_one (ps_if (pt_cmpR op_eq (pe_ix ix_list (pv 0) (pv 2) (fun _ _ => rfl)) (pv 1) (nomark _)) (pss_one (ps_ret (pv 2))) pss_nil)))
    (pss_one (ps_ret pe_non))), ?_⟩
  have hl := hA.len
  have hl2 : (ns.map V.int).length = n := by rw [List.length_map]; exact hl
  refine ⟨_, rfl, _, rfl, b, _, _, _, rfl, rfl, hS, nx_at (ns := ns) g0 (by omega), _, rfl, rfl, _, rfl, ?_⟩
  rw [int_dec]
  refine ite2 (fun c => ?_) (fun c => ?_)
  · have e : hdI ns g = none := if_pos (of_decide_eq_true c)
    rw [e] at q
    exact q
  have hne : nxI ns g ≠ g := of_decide_eq_false (Bool.eq_false_iff.mpr c)
  have e : hdI ns g = some ((ns.idxOf g : Nat) : Int) := if_neg hne
  rw [e] at q
  refine ⟨_, rfl, b, _, rfl, .inl hS, (((ns.map V.int).length : Nat) : Int), rfl, by rw [hl2]; omega, by rw [hl2]; omega, ?_⟩
  refine for_range (lo := 0) (n := (((ns.map V.int).length : Nat) : Int).toNat) (fun i σ H' => H' = H ∧ (∀ j : Nat, j < i → nxI ns (j : Int) ≠ g) ∧ ∃ z, σ = [some (.ref b), some (.int g), z])
    ⟨rfl, fun j hj => by omega, none, rfl⟩ ?_ ?_
  · rintro i σ H' hin ⟨rfl, hno, z, rfl⟩
    have hin' : i < n := by rw [hl2] at hin; omega
    have ei : (0 : Int) + (i : Int) = (i : Int) := Int.zero_add _
    rw [ei]
    refine ⟨_, rfl, _, rfl, b, _, _, _, rfl, rfl, hS, nx_at (ns := ns) (i := (i : Int)) (by omega) (by omega), _, rfl, rfl, _, rfl, ?_⟩
    rw [int_dec]
    refine ite2 (fun c => ?_) (fun c => ?_)
    · have h1 := hA.lf i hin'
      have h2 : nxI ns (i : Int) = g := of_decide_eq_true c
      have h3 := hA.nxf hin'
      have h4 : ns.idxOf g = i := by
        unfold lN at h1
        rw [← h3, h2] at h1
        exact h1
      rw [h4] at q
      exact ⟨_, rfl, q⟩
    · refine ⟨rfl, fun j hj => ?_, _, rfl⟩
      by_cases cj : j = i
      · rw [cj]
        exact of_decide_eq_false (Bool.eq_false_iff.mpr c)
      · exact hno j (by omega)
  · rintro σ H' ⟨rfl, hno, z, rfl⟩
    exfalso
    obtain ⟨a, ea⟩ := nat_of g0
    have h1 := hA.lnfl a (by omega)
    refine hno (lN ns a) (by rw [hl2]; omega) ?_
    rw [hA.nxf h1.1, h1.2, ea]

/-! ### _law_holds -/
theorem sc_lholds : FnScope ["_law_wishes", "_law_after_here", "_law_one", "_law_mate", "_law_other"] ["_law_wishes", "_law_after_here"] (defScope s_lholds) := ⟨rfl, rfl, rfl, by decide +kernel, rfl, by decide +kernel, by decide +kernel⟩
def sp_lholds (K : PySem.W.Frag) : Sp := fun vs H Q _ => ∃ (a b : Addr) (ws : List (List Int)) (ns : List Int), vs = [.ref a, .ref b] ∧ Tab K H a ws ∧ Good ws ∧ SqL K H b (ns.map V.int) ∧ OkAfter ws.length ns ∧
  ∀ t : Bool, (t = true ↔ HoldsP ws ns) → Q (.bl t) H
theorem ok_lholds {f : Addr} {fd : FuncData} (F : Fun K "_law_holds" "_law_holds" s_lholds f fd) (T : Own mg) (C1 : Cal P w K mg base 1 "_law_suits" ["_law_wishes", "_law_one", "_law_other"] (sp_in_both K))
    (C2 : Cal P w K mg base 2 "_law_rather" ["_law_wishes", "_law_guest", "_law_one", "_law_other"] (sp_lrather K)) (C3 : Cal P w K mg base 1 "_law_ahead" ["_law_after_here", "_law_guest"] (sp_lahead K)) :
    FnOk P w K mg base CX0 3 f fd ["_law_wishes", "_law_after_here"] (sp_lholds K) := by
  obtain ⟨g1, gd1, G1, m1, k1, b1⟩ := C1
  obtain ⟨g2, gd2, G2, m2, k2, b2⟩ := C2
  obtain ⟨g3, gd3, G3, m3, k3, b3⟩ := C3
  refine F.ok sc_lholds (fun vs H Q E h => ?_) (fun cdv A outer s H vs Q E hr h => ?_)
  · obtain ⟨a, b, ws, ns, rfl, _⟩ := h
    rfl
  obtain ⟨a, b, ws, ns, rfl, hT, hG, hS, hA, q⟩ := h
  have hr1 : Room 1 _ := hr.mono (by decide)
  have hr2 : Room 2 _ := hr.mono (by decide)
  refine ⟨_, pss_cons (ps_for PassesOwn.never rfl (pi_range1 rfl T.rng (pa_cons (pe_callB call_len_seq (by rfl) T.len PySem.boot_len (pa_cons (pv 1) pa_nil)) pa_nil)) (pg_name (i := 2) sc_lholds.nd rfl (Or.inl rfl))
      (pss_cons (ps_set (i := 3) sc_lholds.nd rfl (Or.inl rfl) (pe_ix ix_list (pv 1) (pv 2) (fun _ _ => rfl)))
      (Evl.pss_cut (ps_if (PW.pt (pw_and (pt_cmpR op_ne (pv 3) (pv 2) (nomark _)) (pw_and1 (pt_not (pt_val (pe_call G1 hr1 (by rfl) m1 k1 b1 .nil pass0 (pa_cons (pv 0) (pa_cons (pv 2) (pa_cons (pv 3) pa_nil)))))))))
        (pss_one (ps_ret pe_bl)) pss_nil)
      (Evl.pss_cut (ps_if (PW.pt (pw_and (pt_cmpR op_ne (pv 3) (pv 2) (nomark _)) (pw_and (pt_cmpR op_ne (pe_ix ix_list (pv 1) (pv 3) (fun _ _ => rfl)) (pv 2) (nomark _))
          (pw_and1 (pt_not (pt_val (pe_call G2 hr2 (by rfl) m2 k2 b2 .nil pass0 (pa_cons (pv 0) (pa_cons (pv 2) (pa_cons (pv 3) (pa_cons (pe_call G3 hr1 (by rfl) m3 k3 b3 .nil pass0 (pa_cons (pv 1) (pa_cons (pv 2) pa_nil))) pa_nil)))))))))))
        (pss_one (ps_ret pe_bl)) pss_nil)
      (pss_one (ps_for PassesOwn.never rfl (pi_range1 rfl T.rng (pa_cons (pe_callB call_len_seq (by rfl) T.len PySem.boot_len (pa_cons (pv 1) pa_nil)) pa_nil)) (pg_name (i := 4) sc_lholds.nd rfl (Or.inl rfl))
        (pss_one (ps_if (PW.pt (pw_and (pt_cmpR op_ne (pv 4) (pv 2) (nomark _)) (pw_and1 (pt_val (pe_call G2 hr2 (by rfl) m2 k2 b2 .nil pass0 (pa_cons (pv 0) (pa_cons (pv 2) (pa_cons (pv 4) (pa_cons (pe_call G3 hr1 (by rfl) m3 k3 b3 .nil pass0 (pa_cons (pv 1) (pa_cons (pv 2) pa_nil))) pa_nil)))))))))
          (pss_one (ps_if (pt_val (pe_call G2 hr2 (by rfl) m2 k2 b2 .nil pass0 (pa_cons (pv 0) (pa_cons (pv 4) (pa_cons (pv 2) (pa_cons (pe_call G3 hr1 (by rfl) m3 k3 b3 .nil pass0 (pa_cons (pv 1) (pa_cons (pv 4) pa_nil))) pa_nil))))))
            (pss_one (ps_ret pe_bl)) pss_nil)) pss_nil))))))))
    (pss_one (ps_ret pe_bl)), ?_⟩
  have hl := hA.len
  have h6 := hG.hi
  have hl2 : (ns.map V.int).length = ws.length := by rw [List.length_map]; exact hl
  have en : (((ns.map V.int).length : Nat) : Int).toNat = ws.length := by rw [hl2]; omega
  refine ⟨_, rfl, b, _, rfl, .inl hS, (((ns.map V.int).length : Nat) : Int), rfl, by rw [hl2]; omega, by rw [hl2]; omega, ?_⟩
  refine for_range (lo := 0) (n := (((ns.map V.int).length : Nat) : Int).toNat) (fun i σ H' => H' = H ∧ (∀ j : Nat, j < i → (nxI ns (j : Int) ≠ (j : Int) → suitsB ws (j : Int) (nxI ns (j : Int)) = true) ∧
      (nxI ns (j : Int) ≠ (j : Int) → nxI ns (nxI ns (j : Int)) ≠ (j : Int) → aheadB ws (j : Int) (some (nxI ns (j : Int))) (hdI ns (j : Int)) = true) ∧
      ∀ t : Nat, t < ws.length → (t : Int) ≠ (j : Int) → ¬ (aheadB ws (j : Int) (some (t : Int)) (hdI ns (j : Int)) = true ∧ aheadB ws (t : Int) (some (j : Int)) (hdI ns (t : Int)) = true)) ∧
      ∃ y z u, σ = [some (.ref a), some (.ref b), y, z, u])
    ⟨rfl, fun j hj => by omega, none, none, none, rfl⟩ ?_ ?_
  · rintro i σ H' hin ⟨rfl, hup, y, z, u, rfl⟩
    have hin' : i < ws.length := by rw [en] at hin; exact hin
    have ei : (0 : Int) + (i : Int) = (i : Int) := Int.zero_add _
    rw [ei]
    have hni := hA.nx hin'
    refine ⟨_, rfl, _, rfl, b, _, _, _, rfl, rfl, hS, nx_at (ns := ns) (i := (i : Int)) (by omega) (by omega), ?_⟩
    refine ⟨fun σ H1 => H1 = H' ∧ (nxI ns (i : Int) ≠ (i : Int) → suitsB ws (i : Int) (nxI ns (i : Int)) = true) ∧ ∃ u, σ = [some (.ref a), some (.ref b), some (.int (i : Int)), some (.int (nxI ns (i : Int))), u], ?_, ?_⟩
    · refine ⟨_, rfl, _, rfl, rfl, _, rfl, ?_⟩
      rw [int_dec]
      by_cases c : nxI ns (i : Int) = (i : Int)
      · rw [decide_eq_true c]
        exact iteF ⟨rfl, fun z => absurd c z, _, rfl⟩
      rw [decide_eq_false c]
      refine iteT ?_
      refine ⟨_, rfl, _, rfl, _, rfl, a, ws, (i : Int), nxI ns (i : Int), rfl, hT, by omega, by omega, hni.1, hni.2, _, rfl, ?_⟩
      cases e1 : suitsB ws (i : Int) (nxI ns (i : Int)) with
      | true => exact iteF ⟨rfl, fun _ => rfl, _, rfl⟩
      | false =>
        refine iteT (q false ⟨fun z => (by cases z), fun z => ?_⟩)
        have := z.s (i : Int) (by omega) (by omega) c
        rw [e1] at this
        exact this
    rintro σ H1 ⟨rfl, hs, u, rfl⟩
    refine ⟨fun σ H2 => H2 = H1 ∧ (nxI ns (i : Int) ≠ (i : Int) → nxI ns (nxI ns (i : Int)) ≠ (i : Int) → aheadB ws (i : Int) (some (nxI ns (i : Int))) (hdI ns (i : Int)) = true) ∧ ∃ u, σ = [some (.ref a), some (.ref b), some (.int (i : Int)), some (.int (nxI ns (i : Int))), u], ?_, ?_⟩
    · refine ⟨_, rfl, _, rfl, rfl, _, rfl, ?_⟩
      rw [int_dec]
      by_cases c : nxI ns (i : Int) = (i : Int)
      · rw [decide_eq_true c]
        exact iteF ⟨rfl, fun z => absurd c z, _, rfl⟩
      rw [decide_eq_false c]
      refine iteT ?_
      refine ⟨_, rfl, _, rfl, b, _, _, _, rfl, rfl, hS, nx_at (ns := ns) hni.1 (by omega), _, rfl, rfl, _, rfl, ?_⟩
      rw [int_dec]
      by_cases c2 : nxI ns (nxI ns (i : Int)) = (i : Int)
      · rw [decide_eq_true c2]
        exact iteF ⟨rfl, fun _ z => absurd c2 z, _, rfl⟩
      rw [decide_eq_false c2]
      refine iteT ?_
      refine ⟨_, rfl, _, rfl, _, rfl, _, rfl, _, rfl, b, ns, ws.length, (i : Int), rfl, hS, hA, h6, by omega, by omega, ?_⟩
      refine ⟨a, ws, (i : Int), some (nxI ns (i : Int)), hdI ns (i : Int), rfl, hT, hG, by omega, by omega, ⟨hni.1, hni.2⟩, _, rfl, ?_⟩
      cases e1 : aheadB ws (i : Int) (some (nxI ns (i : Int))) (hdI ns (i : Int)) with
      | true => exact iteF ⟨rfl, fun _ _ => rfl, _, rfl⟩
      | false =>
        refine iteT (q false ⟨fun z => (by cases z), fun z => ?_⟩)
        have := z.a (i : Int) (by omega) (by omega) c c2
        rw [e1] at this
        exact this
    rintro σ H2 ⟨rfl, ha, u, rfl⟩
    refine ⟨_, rfl, b, _, rfl, .inl hS, (((ns.map V.int).length : Nat) : Int), rfl, by rw [hl2]; omega, by rw [hl2]; omega, ?_⟩
    refine for_range (lo := 0) (n := (((ns.map V.int).length : Nat) : Int).toNat) (fun t σ H' => H' = H2 ∧ (∀ s : Nat, s < t → (s : Int) ≠ (i : Int) → ¬ (aheadB ws (i : Int) (some (s : Int)) (hdI ns (i : Int)) = true ∧ aheadB ws (s : Int) (some (i : Int)) (hdI ns (s : Int)) = true)) ∧
        ∃ u, σ = [some (.ref a), some (.ref b), some (.int (i : Int)), some (.int (nxI ns (i : Int))), u])
      ⟨rfl, fun s hs => by omega, _, rfl⟩ ?_ ?_
    · rintro t σ H3 htn ⟨rfl, hno, u, rfl⟩
      have htn' : t < ws.length := by rw [en] at htn; exact htn
      have et : (0 : Int) + (t : Int) = (t : Int) := Int.zero_add _
      rw [et]
      have step : ∀ (hz : (t : Int) ≠ (i : Int) → ¬ (aheadB ws (i : Int) (some (t : Int)) (hdI ns (i : Int)) = true ∧ aheadB ws (t : Int) (some (i : Int)) (hdI ns (t : Int)) = true)),
          ∀ s : Nat, s < t + 1 → (s : Int) ≠ (i : Int) → ¬ (aheadB ws (i : Int) (some (s : Int)) (hdI ns (i : Int)) = true ∧ aheadB ws (s : Int) (some (i : Int)) (hdI ns (s : Int)) = true) := fun hz s hs => by
        by_cases c : s = t
        · rw [c]; exact hz
        · exact hno s (by omega)
      refine ⟨_, rfl, _, rfl, rfl, _, rfl, ?_⟩
      rw [int_dec]
      by_cases c : (t : Int) = (i : Int)
      · rw [decide_eq_true c]
        exact iteF ⟨rfl, step fun z => absurd c z, _, rfl⟩
      rw [decide_eq_false c]
      refine iteT ?_
      refine ⟨_, rfl, _, rfl, _, rfl, _, rfl, _, rfl, b, ns, ws.length, (i : Int), rfl, hS, hA, h6, by omega, by omega, ?_⟩
      refine ⟨a, ws, (i : Int), some (t : Int), hdI ns (i : Int), rfl, hT, hG, by omega, by omega, ⟨by omega, by omega⟩, _, rfl, ?_⟩
      cases e1 : aheadB ws (i : Int) (some (t : Int)) (hdI ns (i : Int)) with
      | false => exact iteF ⟨rfl, step fun _ z => (by rw [e1] at z; cases z.1), _, rfl⟩
      | true =>
      refine iteT ?_
      refine ⟨_, rfl, _, rfl, _, rfl, _, rfl, _, rfl, b, ns, ws.length, (t : Int), rfl, hS, hA, h6, by omega, by omega, ?_⟩
      refine ⟨a, ws, (t : Int), some (i : Int), hdI ns (t : Int), rfl, hT, hG, by omega, by omega, ⟨by omega, by omega⟩, _, rfl, ?_⟩
      cases e2 : aheadB ws (t : Int) (some (i : Int)) (hdI ns (t : Int)) with
      | false => exact iteF ⟨rfl, step fun _ z => (by rw [e2] at z; cases z.2), _, rfl⟩
      | true =>
        exact iteT (q false ⟨fun z => (by cases z), fun z => (z.f (i : Int) (t : Int) (by omega) (by omega) (by omega) (by omega) c ⟨e1, e2⟩).elim⟩)
    · rintro σ H3 ⟨rfl, hno, u, rfl⟩
      rw [en] at hno
      refine ⟨rfl, fun j hj => ?_, _, _, _, rfl⟩
      by_cases c : j = i
      · rw [c]
        exact ⟨hs, ha, hno⟩
      · exact hup j (by omega)
  · rintro σ H' ⟨rfl, hup, y, z, u, rfl⟩
    rw [en] at hup
    refine q true ⟨fun _ => ⟨fun i i0 i1 => ?_, fun i i0 i1 => ?_, fun i j i0 i1 j0 j1 => ?_⟩, fun _ => rfl⟩
    · obtain ⟨x, rfl⟩ := nat_of i0
      exact (hup x (by omega)).1
    · obtain ⟨x, rfl⟩ := nat_of i0
      exact (hup x (by omega)).2.1
    · obtain ⟨x, rfl⟩ := nat_of i0
      obtain ⟨t, rfl⟩ := nat_of j0
      exact (hup x (by omega)).2.2 t (by omega)
end
end B2

namespace B2
open PySem L2

theorem BuiltF.tabM {K : PySem.W.Frag} {H H' : Hp} {D : Addr} {mss : List (List (Option Int))} (b : BuiltF fm H D mss H') : TabV K H' D (mss.map fun ms => ms.map ov) := by
  obtain ⟨s, as, h1, h2, h3⟩ := b
  refine ⟨as, SqL.of h1, by rw [List.length_map]; exact h2, fun i r hr => ?_⟩
  rw [List.getElem?_map] at hr
  cases e : mss[i]? with
  | none => rw [e] at hr; cases hr
  | some q =>
    rw [e] at hr
    cases hr
    obtain ⟨c, c1, c2, _⟩ := h3 i q e
    exact ⟨c, c1, SqL.of c2⟩
theorem plain_mates (mss : List (List (Option Int))) : ∀ r ∈ (mss.map fun ms => ms.map ov), ∀ v ∈ r, plainV v = true := by
  intro r hr v hv
  obtain ⟨q, _, rfl⟩ := List.mem_map.mp hr
  exact flat_ovs q v hv
end B2

namespace B2
open PySem L2
section
variable {P : Program} {w : World} {K : PySem.W.Frag} {mg : Str → Option Value} {base : Heap}

/-! ### joined -/
theorem sc_joined : FnScope ["mates", "one", "other", "changed"] ["mates", "one", "other"] (defScope s_joined) := ⟨rfl, rfl, rfl, by decide +kernel, rfl, by decide +kernel, by decide +kernel⟩
def sp_joined (K : PySem.W.Frag) : Sp := fun vs H Q _ => ∃ (b : Addr) (ms : List (Option Int)) (i j : Int), vs = [.ref b, .int i, .int j] ∧ SqL K H b (ms.map ov) ∧ 0 ≤ i ∧ i < (ms.length : Int) ∧ 0 ≤ j ∧ j < (ms.length : Int) ∧
  ∀ (H' : Hp) (p : Addr), Same H H' → H p = none → H' p = some (fm (joinL ms i j)) → Q (.ref p) H'
theorem ok_joined {f : Addr} {fd : FuncData} (F : Fun K "joined" "joined" s_joined f fd) (T : Own mg) : FnOk P w K mg base CX0 1 f fd ["mates", "one", "other"] (sp_joined K) := by
  refine F.ok sc_joined (fun vs H Q E h => ?_) (fun cdv A outer s H vs Q E hr h => ?_)
  · obtain ⟨b, ms, i, j, rfl, _⟩ := h
    rfl
  obtain ⟨b, ms, i, j, rfl, hM, i0, i1, j0, j1, q⟩ := h
  refine ⟨_, pss_cons (ps_set (i := 3) sc_joined.nd rfl (Or.inl rfl) (pe_callTy (T := "list") (call_lof (K := K) rfl) (by rfl) T.list (by decide +kernel) (pa_cons (pv 0) pa_nil)))
    (pss_cons (ps_asg (pv 2) (pg_sub (pv 3) (pv 1) set_list))
    (pss_cons (ps_asg (pv 1) (pg_sub (pv 3) (pv 2) set_list))
    (pss_one (ps_ret (pv 3))))), ?_⟩
  refine ⟨_, rfl, b, _, rfl, .inl hM, fun p hp => ?_⟩
  refine ⟨_, rfl, _, rfl, _, rfl, p, _, _, _, rfl, rfl, upd_same, ixN_of i0 (by rw [List.length_map]; exact i1), ?_⟩
  refine ⟨_, rfl, _, rfl, _, rfl, p, _, _, _, rfl, rfl, upd_same, ixN_of j0 (by rw [List.length_set, List.length_map]; exact j1), ?_⟩
  refine ⟨_, rfl, q _ p (same_put (same_put (same_new hp _) hp _) hp _) hp ?_⟩
  rw [upd_same]
  unfold fm joinL
  rw [List.map_set, List.map_set]
  rfl
end
end B2

namespace B2
open PySem L2
section
variable {P : Program} {w : World} {K : PySem.W.Frag} {mg : Str → Option Value} {base : Heap}

/-! ### settled -/
theorem sc_settled : FnScope ["wishes", "mates", "guest", "found", "other"] ["wishes", "mates", "guest"] (defScope s_settled) := ⟨rfl, rfl, rfl, by decide +kernel, rfl, by decide +kernel, by decide +kernel⟩
/-- at p the mates at b, then new ones -/
def MoreAt (H : Hp) (b p : Addr) (ls : List (List (Option Int))) (H' : Hp) : Prop :=
  Same H H' ∧ ∃ bs : List Addr, H' p = some (.lst (V.ref b :: bs.map V.ref)) ∧ bs.length = ls.length ∧ ∀ (i : Nat) (r : List (Option Int)), ls[i]? = some r → ∃ c, bs[i]? = some c ∧ H' c = some (fm r) ∧ c ≠ p ∧ H c = none
def sp_settled (K : PySem.W.Frag) : Sp := fun vs H Q _ => ∃ (a b : Addr) (ws : List (List Int)) (ms : List (Option Int)) (g : Nat), vs = [.ref a, .ref b, .int g] ∧ Tab K H a ws ∧ ws.length ≤ 6 ∧ SqL K H b (ms.map ov) ∧ OkMates ws ms ∧ g < ws.length ∧
  ∀ (H' : Hp) (p : Addr), H p = none → MoreAt H b p (moreL ws ms g) H' → Q (.ref p) H'
theorem ok_settled {f : Addr} {fd : FuncData} (F : Fun K "settled" "settled" s_settled f fd) (T : Own mg) (C1 : Cal P w K mg base 1 "in_both" ["wishes", "one", "other"] (sp_in_both K))
    (C2 : Cal P w K mg base 1 "joined" ["mates", "one", "other"] (sp_joined K)) : FnOk P w K mg base CX0 2 f fd ["wishes", "mates", "guest"] (sp_settled K) := by
  obtain ⟨g1, gd1, G1, m1, k1, b1⟩ := C1
  obtain ⟨g2, gd2, G2, m2, k2, b2⟩ := C2
  refine F.ok sc_settled (fun vs H Q E h => ?_) (fun cdv A outer s H vs Q E hr h => ?_)
  · obtain ⟨a, b, ws, ms, g, rfl, _⟩ := h
    rfl
  obtain ⟨a, b, ws, ms, g, rfl, hT, h6, hM, hO, hg, q⟩ := h
  refine ⟨_, pss_cons (ps_set (i := 3) sc_settled.nd rfl (Or.inl rfl) (pe_lst (pa_cons (pv 1) pa_nil)))
    (pss_cons (ps_if (pt_cmpR op_isN (pe_ix ix_list (pv 1) (pv 2) (fun _ _ => rfl)) pe_non (nomark _))
      (pss_one (ps_for PassesOwn.never rfl (pi_range2 (by rfl) T.rng (pa_cons (pe_op op_add (pv 2) pe_int) (pa_cons (pe_callB call_len_seq (by rfl) T.len PySem.boot_len (pa_cons (pv 0) pa_nil)) pa_nil))) (pg_name (i := 4) sc_settled.nd rfl (Or.inl rfl))
        (pss_one (ps_if (PW.pt (pw_and (pt_cmpR op_isN (pe_ix ix_list (pv 1) (pv 4) (fun _ _ => rfl)) pe_non (nomark _))
          (pw_and1 (pt_val (pe_call G1 hr (by rfl) m1 k1 b1 .nil pass0 (pa_cons (pv 0) (pa_cons (pv 2) (pa_cons (pv 4) pa_nil))))))))
          (pss_one (ps_expr (pe_bm PySem.F.plainAttrs_list PySem.F.slot_list_append PySem.F.type_list_append mt_append (pv 3)
            (pa_cons (pe_call G2 hr (by rfl) m2 k2 b2 .nil pass0 (pa_cons (pv 1) (pa_cons (pv 2) (pa_cons (pv 4) pa_nil)))) pa_nil)))) pss_nil)))) pss_nil)
    (pss_one (ps_ret (pv 3)))), ?_⟩
  have hml := hO.len
  obtain ⟨as, h1, h2, h3⟩ := id hT
  have hl : (as.map V.ref).length = ws.length := by rw [List.length_map]; exact h2
  refine ⟨_, rfl, (by show 1 ≤ sizeLine; decide), fun D hD => ?_⟩
  have s0 := same_new hD (.lst [V.ref b])
  refine ⟨_, rfl, _, rfl, b, _, _, _, rfl, rfl, s0.seq hM, mt_at (ms := ms) (i := (g : Int)) (by omega) (by omega), rfl, _, rfl, ?_⟩
  rw [ov_non]
  cases e1 : mt ms (g : Int) with
  | some k =>
    have e2 : moreL ws ms g = [] := by unfold moreL; rw [e1]; rfl
    refine iteF ⟨_, rfl, q _ D hD ?_⟩
    rw [e2]
    exact ⟨s0, [], upd_same, rfl, fun i r h => by cases h⟩
  | none =>
  have e2 : moreL ws ms g = joinsL ws ms g (ws.length - (g + 1)) := by unfold moreL; rw [if_pos e1]
  refine iteT ?_
  refine ⟨_, rfl, _, _, rfl, rfl, _, rfl, a, _, rfl, .inl (s0.seq h1), _, _, rfl, ⟨by omega, by omega, by rw [hl]; omega, by rw [hl]; omega⟩, ?_⟩
  rw [hl]
  have en : (((ws.length : Nat) : Int) - ((g : Int) + 1)).toNat = ws.length - (g + 1) := by omega
  refine for_range (lo := (g : Int) + 1) (n := (((ws.length : Nat) : Int) - ((g : Int) + 1)).toNat) (fun t σ H' => MoreAt H b D (joinsL ws ms g t) H' ∧ ∃ z, σ = [some (.ref a), some (.ref b), some (.int g), some (.ref D), z])
    ⟨⟨s0, [], upd_same, rfl, fun i r h => by cases h⟩, none, rfl⟩ ?_ ?_
  · rintro t σ H1 hlt ⟨⟨s1, bs, y1, y2, y3⟩, z, rfl⟩
    have hM1 := s1.seq hM
    have hjl := joins_le ws ms g t
    refine ⟨_, rfl, _, rfl, b, _, _, _, rfl, rfl, hM1, mt_at (ms := ms) (i := (g : Int) + 1 + (t : Int)) (by omega) (by omega), rfl, _, rfl, ?_⟩
    rw [ov_non]
    have ej : joinsL ws ms g (t + 1) = joinsL ws ms g t ++ (if (mt ms ((g : Int) + 1 + (t : Int)) = none ∧ suitsB ws (g : Int) ((g : Int) + 1 + (t : Int)) = true) then [joinL ms (g : Int) ((g : Int) + 1 + (t : Int))] else []) := rfl
    cases e3 : mt ms ((g : Int) + 1 + (t : Int)) with
    | some k =>
      refine iteF ⟨?_, _, rfl⟩
      rw [ej, e3, if_neg (by intro z; cases z.1), List.append_nil]
      exact ⟨s1, bs, y1, y2, y3⟩
    | none =>
    refine iteT ?_
    refine ⟨_, rfl, _, rfl, _, rfl, a, ws, (g : Int), (g : Int) + 1 + (t : Int), rfl, hT.same s1, by omega, by omega, by omega, by omega, _, rfl, ?_⟩
    cases e4 : suitsB ws (g : Int) ((g : Int) + 1 + (t : Int)) with
    | false =>
      refine iteF ⟨?_, _, rfl⟩
      rw [ej, e3, e4, if_neg (by intro z; cases z.2), List.append_nil]
      exact ⟨s1, bs, y1, y2, y3⟩
    | true =>
    refine iteT ?_
    refine ⟨_, rfl, .inl ⟨rfl, _, SqL.of y1⟩, _, rfl, _, rfl, _, rfl, b, ms, (g : Int), (g : Int) + 1 + (t : Int), rfl, hM1, by omega, by omega, by omega, by omega, fun H2 p s2 hp hp2 => ?_⟩
    have y12 := s2 _ _ y1
    have npD : p ≠ D := (ne_of_none y1 hp).symm
    refine ⟨D, _, _, rfl, rfl, y12, ?_, ?_, _, rfl⟩
    · rw [List.length_cons, List.length_map, y2]
      exact small1000 (by omega)
    rw [ej, e3, e4, if_pos ⟨rfl, rfl⟩]
    refine ⟨same_put (s1.trans s2) hD _, bs ++ [p], ?_, ?_, fun i r hr' => ?_⟩
    · rw [upd_same, List.map_append]
      rfl
    · rw [List.length_append, List.length_append, y2]
      rfl
    · rw [List.getElem?_append] at hr'
      rw [List.getElem?_append]
      by_cases c : i < (joinsL ws ms g t).length
      · rw [if_pos c] at hr'
        rw [if_pos (by rw [y2]; exact c)]
        obtain ⟨c1, c2, c3, c4, c5⟩ := y3 i r hr'
        exact ⟨c1, c2, by rw [upd_ne c4]; exact s2 _ _ c3, c4, c5⟩
      · rw [if_neg c] at hr'
        rw [if_neg (by rw [y2]; exact c)]
        have i0 : i - (joinsL ws ms g t).length = 0 := by
          have := (List.getElem?_eq_some_iff.mp hr').1
          simp at this
          omega
        rw [i0] at hr'
        cases hr'
        rw [y2, i0]
        exact ⟨p, rfl, by rw [upd_ne npD]; exact hp2, npD, s1.free hp⟩
  · rintro σ H' ⟨h, z, rfl⟩
    rw [en, ← e2] at h
    exact ⟨_, rfl, q H' D hD h⟩

/-! ### all_twos -/
theorem sc_all_twos : FnScope ["wishes", "found", "guest", "mates", "further"] ["wishes"] (defScope s_all_twos) := ⟨rfl, rfl, rfl, by decide +kernel, rfl, by decide +kernel, by decide +kernel⟩
def sp_all_twos (K : PySem.W.Frag) : Sp := fun vs H Q _ => ∃ (a : Addr) (ws : List (List Int)), vs = [.ref a] ∧ Tab K H a ws ∧ Good ws ∧
  ∀ (H' : Hp) (p : Addr), H p = none → BuiltF fm H p (allTwos ws) H' → Q (.ref p) H'
theorem ok_all_twos {f : Addr} {fd : FuncData} (F : Fun K "all_twos" "all_twos" s_all_twos f fd) (T : Own mg) (C1 : Cal P w K mg base 3 "need_wishes" ["wishes"] (sp_need_wishes K))
    (C2 : Cal P w K mg base 2 "settled" ["wishes", "mates", "guest"] (sp_settled K)) : FnOk P w K mg base CX0 4 f fd ["wishes"] (sp_all_twos K) := by
  obtain ⟨g1, gd1, G1, m1, k1, b1⟩ := C1
  obtain ⟨g2, gd2, G2, m2, k2, b2⟩ := C2
  refine F.ok sc_all_twos (fun vs H Q E h => ?_) (fun cdv A outer s H vs Q E hr h => ?_)
  · obtain ⟨a, ws, rfl, _⟩ := h
    rfl
  obtain ⟨a, ws, rfl, hT, hG, q⟩ := h
  have hr2 : Room 2 _ := hr.mono (by decide)
  refine ⟨_, pss_cons (ps_expr (pe_call G1 hr (by rfl) m1 k1 b1 .nil pass0 (pa_cons (pv 0) pa_nil)))
    (pss_cons (ps_set (i := 1) sc_all_twos.nd rfl (Or.inl rfl) (pe_lst (pa_cons (pe_op op_rep (pe_lst (pa_cons pe_non pa_nil)) (pe_callB call_len_seq (by rfl) T.len PySem.boot_len (pa_cons (pv 0) pa_nil))) pa_nil)))
    (pss_cons (ps_for PassesOwn.never rfl (pi_range1 rfl T.rng (pa_cons (pe_callB call_len_seq (by rfl) T.len PySem.boot_len (pa_cons (pv 0) pa_nil)) pa_nil)) (pg_name (i := 2) sc_all_twos.nd rfl (Or.inr rfl))
      (pss_one (ps_setLc2 (i := 1) (own := [("mates", 3), ("further", 4)]) (vs1 := [4]) (g := gName 3) (tt := tYes) (g1 := gName 4) (tt1 := tYes) rfl sc_all_twos.nd rfl rfl (sw_true rfl rfl rfl (by decide +kernel)) (pi_list (pv 1))
        (blkOk_by (N := ["wishes", "found", "guest", "mates", "further"]) (sc := defScope s_all_twos) (by decide +kernel)) (by decide)
        (fun _ _ _ _ _ => pg_name (i := 3) sc_all_twos.nd rfl (Or.inl rfl)) (fun _ _ _ _ _ => pts_nil)
        (fun _ _ _ _ _ => pi_lst (K := K) rfl (pe_call G2 hr2 (by rfl) m2 k2 b2 .nil pass0 (pa_cons (pv 0) (pa_cons (pv 3) (pa_cons (pv 2) pa_nil)))))
        (fun _ _ _ _ _ => pg_name (i := 4) sc_all_twos.nd rfl (Or.inl rfl)) (fun _ _ _ _ _ => pts_nil) (fun _ _ _ _ _ => pv 4))))
    (pss_one (ps_ret (pv 1))))), ?_⟩
  obtain ⟨as0, h1, h2, h3⟩ := id hT
  have hl : (as0.map V.ref).length = ws.length := by rw [List.length_map]; exact h2
  have h6 := hG.hi
  refine ⟨_, rfl, a, ws, rfl, hT, hG, fun H1 s1 => ?_⟩
  refine ⟨(by show 1 ≤ sizeLine; decide), fun N hN => ?_⟩
  have s2 := s1.trans (same_new hN (.lst [V.non]))
  refine ⟨_, rfl, a, _, rfl, .inl (s2.seq h1), ?_⟩
  rw [hl]
  refine ⟨N, (ws.length : Int), _, rfl, rfl, upd_same, by omega, by omega, ?_, fun R hR => ?_⟩
  · show 1 * ((ws.length : Nat) : Int).toNat ≤ sizeLine
    exact le_line (by omega)
  have en : ((ws.length : Nat) : Int).toNat = ws.length := by omega
  rw [en, flat_nones]
  refine ⟨(by show 1 ≤ sizeLine; decide), fun D0 hD0 => ?_⟩
  have s3 := s2.trans (same_new hR (.lst ((List.replicate ws.length (none : Option Int)).map ov)))
  have s4 := s3.trans (same_new hD0 (.lst [V.ref R]))
  have nRD : R ≠ D0 := ne_of_none upd_same hD0
  refine ⟨_, rfl, a, _, rfl, .inl (s4.seq h1), (((as0.map V.ref).length : Nat) : Int), rfl, by rw [hl]; omega, by rw [hl]; omega, ?_⟩
  refine for_range (lo := 0) (n := (((as0.map V.ref).length : Nat) : Int).toNat) (fun g σ H' => ∃ (D : Addr) (y : Option V), σ = [some (.ref a), some (.ref D), y, none, none] ∧ H D = none ∧ BuiltF fm H D (stageL ws g) H')
    ⟨D0, none, rfl, s3.free hD0, s4, [R], upd_same, rfl, fun i r hr' => ?_⟩ ?_ ?_
  · have hi0 : i = 0 := by
      have := (List.getElem?_eq_some_iff.mp hr').1
      have e : (stageL ws 0).length = 1 := rfl
      omega
    subst hi0
    cases hr'
    exact ⟨R, rfl, by rw [upd_ne nRD]; exact upd_same, nRD, s2.free hR⟩
  · rintro g σ H2 hin ⟨D, y, rfl, hD, hB⟩
    have hg : g < ws.length := by rw [hl] at hin; omega
    have ei : (0 : Int) + (g : Int) = (g : Int) := Int.zero_add _
    rw [ei]
    obtain ⟨e2, as, d1, d2, d3⟩ := id hB
    have hsm := stage_small ws h6 g (by omega)
    refine ⟨_, rfl, D, rfl, ⟨_, SqL.of d1⟩, fun D2 hD2 => ?_⟩
    have hD20 : H D2 = none := e2.free hD2
    refine in_it (walk_list (xs := as.map V.ref)) (fun i H' => Same H2 H' ∧ BuiltF fm H D2 (((stageL ws g).take i).flatMap fun ms => settledL ws ms g) H')
      ⟨same_new hD2 _, (built_start hD2).back e2⟩ (fun i H' _ h => h.1.seq (SqL.of d1)) ?_ ?_
    · rintro i x H3 _ hi ⟨e3, hB3⟩ ⟨rfl, hx⟩
      obtain ⟨b, hb, rfl⟩ := map_ref_get hx
      have hi' : i < (stageL ws g).length := by rw [← d2]; exact (List.getElem?_eq_some_iff.mp hb).1
      obtain ⟨b', hb', c2, c3, c4⟩ := d3 i (stageL ws g)[i] (List.getElem?_eq_getElem hi')
      rw [hb] at hb'
      cases hb'
      have hOk := stage_ok ws g (by omega) _ (List.getElem_mem hi')
      have hge : (stageL ws g)[i]? = some (stageL ws g)[i] := List.getElem?_eq_getElem hi'
      generalize (stageL ws g)[i] = ms at c2 hOk hge
      refine ⟨rfl, ?_⟩
      have hT3 := (hT.same e2).same e3
      have hb3 := e3 _ _ c2
      refine ⟨_, rfl, _, rfl, _, rfl, a, b, ws, ms, g, rfl, hT3, h6, SqL.of hb3, hOk, hg, fun H4 p hp hM => ?_⟩
      obtain ⟨e4, bs, r1, r2, r3⟩ := hM
      obtain ⟨hB31, as2, hB32, hB33, hB34⟩ := id hB3
      have npD2 : p ≠ D2 := (ne_of_none hB32 hp).symm
      have hcs : ∀ (j : Nat) (r : List (Option Int)), (settledL ws ms g)[j]? = some r → ∃ c, (b :: bs)[j]? = some c ∧ H4 c = some (fm r) ∧ c ≠ D2 ∧ H c = none := by
        intro j r hj
        unfold settledL at hj
        cases j with
        | zero =>
          cases hj
          exact ⟨b, rfl, e4 _ _ hb3, ne_of_none c2 hD2, c4⟩
        | succ j =>
          rw [List.getElem?_cons_succ] at hj
          obtain ⟨c, q1, q2, q3, q4⟩ := r3 j r hj
          exact ⟨c, q1, q2, (ne_of_none hB32 q4).symm, (e2.trans e3).free q4⟩
      have hcl : (b :: bs).length = (settledL ws ms g).length := by unfold settledL; rw [List.length_cons, List.length_cons, r2]
      have r1' : H4 p = some (.lst ((b :: bs).map V.ref)) := r1
      generalize b :: bs = cs at hcs hcl r1'
      have hst := settled_le (ws := ws) (ms := ms) hg
      have hpl := flatMap_le (fun ms => settledL ws ms g) 6 ((stageL ws g).take i) fun _ _ => Nat.le_trans (settled_le hg) h6
      rw [List.length_take] at hpl
      have hpl2 : (((stageL ws g).take i).flatMap fun ms => settledL ws ms g).length ≤ 300000 := by omega
      refine ⟨p, rfl, ⟨_, SqL.of r1'⟩, ?_⟩
      refine in_it (walk_list (xs := cs.map V.ref)) (fun t H' => Same H2 H' ∧ BuiltF fm H D2 ((((stageL ws g).take i).flatMap fun ms => settledL ws ms g) ++ (settledL ws ms g).take t) H' ∧ H' p = some (.lst (cs.map V.ref)) ∧
          ∀ (j : Nat) (r : List (Option Int)), (settledL ws ms g)[j]? = some r → ∃ c, cs[j]? = some c ∧ H' c = some (fm r) ∧ c ≠ D2 ∧ H c = none)
        ⟨e3.trans e4, by rw [List.take_zero, List.append_nil]; exact hB3.on e4, r1', hcs⟩ (fun t H' _ h => SqL.of h.2.2.1) ?_ ?_
      · rintro t x H5 _ ht ⟨f1, f2, f3, f4⟩ ⟨rfl, hx5⟩
        obtain ⟨c, hc, rfl⟩ := map_ref_get hx5
        have ht' : t < (settledL ws ms g).length := by rw [← hcl]; exact (List.getElem?_eq_some_iff.mp hc).1
        obtain ⟨c', hc', q2, q3, q4⟩ := f4 t (settledL ws ms g)[t] (List.getElem?_eq_getElem ht')
        rw [hc] at hc'
        cases hc'
        refine ⟨rfl, ?_⟩
        obtain ⟨acc, z1, z2, z3⟩ := built_put hD20 f2 q2 q3 q4
        refine ⟨_, rfl, acc, z1, ?_, ?_, ?_, by rw [upd_ne npD2]; exact f3, fun j r hj => ?_⟩
        · rw [z2, List.length_append, List.length_take]
          exact big_line (by omega)
        · exact same_put f1 hD2 _
        · rw [take_one (List.getElem?_eq_getElem ht'), ← List.append_assoc]
          exact z3
        · obtain ⟨c, u1, u2, u3, u4⟩ := f4 j r hj
          exact ⟨c, u1, by rw [upd_ne u3]; exact u2, u3, u4⟩
      · rintro H5 ⟨f1, f2, f3, f4⟩
        refine ⟨f1, ?_⟩
        have e9 : (settledL ws ms g).take (cs.map V.ref).length = settledL ws ms g := List.take_of_length_le (by rw [List.length_map, hcl]; exact Nat.le_refl _)
        rw [e9] at f2
        rw [take_one hge, List.flatMap_append]
        have e : (List.flatMap (fun ms => settledL ws ms g) [ms]) = settledL ws ms g := by
          rw [List.flatMap_cons, List.flatMap_nil, List.append_nil]
        rw [e]
        exact f2
    · rintro H3 ⟨e3, hB3⟩
      rw [List.take_of_length_le (by rw [List.length_map, d2]; exact Nat.le_refl _)] at hB3
      exact ⟨D2, _, rfl, hD20, hB3⟩
  · rintro σ H' ⟨D, y, rfl, hD, hB⟩
    have e : (((as0.map V.ref).length : Nat) : Int).toNat = ws.length := by rw [hl]; omega
    rw [e] at hB
    exact ⟨_, rfl, q H' D hD hB⟩

/-! ### all_calm -/
theorem sc_all_calm : FnScope ["wishes", "mates"] ["wishes"] (defScope s_all_calm) := ⟨rfl, rfl, rfl, by decide +kernel, rfl, by decide +kernel, by decide +kernel⟩
def sp_all_calm (K : PySem.W.Frag) : Sp := fun vs H Q _ => ∃ (a : Addr) (ws : List (List Int)), vs = [.ref a] ∧ Tab K H a ws ∧ Good ws ∧
  ∀ (H' : Hp) (p : Addr), H p = none → BuiltF fm H p (allCalm ws) H' → Q (.ref p) H'
theorem ok_all_calm {f : Addr} {fd : FuncData} (F : Fun K "all_calm" "all_calm" s_all_calm f fd) (C1 : Cal P w K mg base 4 "all_twos" ["wishes"] (sp_all_twos K))
    (C2 : Cal P w K mg base 3 "restless_pairs" ["wishes", "mates"] (sp_pairs K)) : FnOk P w K mg base CX0 5 f fd ["wishes"] (sp_all_calm K) := by
  obtain ⟨g1, gd1, G1, m1, k1, b1⟩ := C1
  obtain ⟨g2, gd2, G2, m2, k2, b2⟩ := C2
  refine F.ok sc_all_calm (fun vs H Q E h => ?_) (fun cdv A outer s H vs Q E hr h => ?_)
  · obtain ⟨a, ws, rfl, _⟩ := h
    rfl
  obtain ⟨a, ws, rfl, hT, hG, q⟩ := h
  have hr3 : Room 3 _ := hr.mono (by decide)
  have hu := hr.units
  refine ⟨_, pss_one (ps_ret (pe_lc (own := [("mates", 1)]) (g := gName 1) rfl sc_all_calm.nd (pi_list (pe_call G1 hr (by rfl) m1 k1 b1 .nil pass0 (pa_cons (pv 0) pa_nil)))
      (blkOk_by (N := ["wishes", "mates"]) (sc := defScope s_all_calm) (by decide +kernel))
      (fun _ _ _ _ _ => pg_name (i := 1) sc_all_calm.nd rfl (Or.inl rfl))
      (fun _ _ _ _ _ => pts_one (pt_cmpR (eq_dat (K := K) rfl hu) (pe_call G2 hr3 (by rfl) m2 k2 b2 .nil pass0 (pa_cons (pv 0) (pa_cons (pv 1) pa_nil))) (pe_lst pa_nil) (nomark _)))
      (fun _ _ _ _ _ => pv 1))), ?_⟩
  have h6 := hG.hi
  refine ⟨_, rfl, a, ws, rfl, hT, hG, fun H1 p hp hB => ?_⟩
  obtain ⟨e1, as, d1, d2, d3⟩ := hB
  refine ⟨p, rfl, ⟨_, SqL.of d1⟩, fun D hD => ?_⟩
  have hD0 : H D = none := e1.free hD
  have hsm := stage_small ws h6 ws.length (Nat.le_refl _)
  refine lc_list (K := K) (a := p) (xs := as.map V.ref) (fun i H' => Same H1 H' ∧ BuiltF fm H D (((allTwos ws).take i).filter fun ms => (wildAll ws ms).isEmpty) H')
    ⟨same_new hD _, (built_start hD).back e1⟩ (fun i H' _ h => h.1.seq (SqL.of d1)) ?_ ?_
  · rintro i x H2 hx ⟨e2, hB2⟩
    obtain ⟨b, hb, rfl⟩ := map_ref_get hx
    have hi' : i < (allTwos ws).length := by rw [← d2]; exact (List.getElem?_eq_some_iff.mp hb).1
    obtain ⟨b', hb', c2, c3, c4⟩ := d3 i (allTwos ws)[i] (List.getElem?_eq_getElem hi')
    rw [hb] at hb'
    cases hb'
    have hOk := stage_ok ws ws.length (Nat.le_refl _) _ (List.getElem_mem hi')
    have hge : (allTwos ws)[i]? = some (allTwos ws)[i] := List.getElem?_eq_getElem hi'
    generalize (allTwos ws)[i] = ms at c2 hOk hge
    rw [take_one hge, List.filter_append]
    have hfl : (((allTwos ws).take i).filter fun ms => (wildAll ws ms).isEmpty).length ≤ 46656 := by
      refine Nat.le_trans (List.length_filter_le _ _) ?_
      rw [List.length_take]
      unfold allTwos
      omega
    refine ⟨rfl, ?_⟩
    have hT2 := (hT.same e1).same e2
    refine ⟨_, rfl, _, rfl, a, b, ws, ms, rfl, hT2, hG, SqL.of (e2 _ _ c2), hOk, fun H3 r hr' hR => ?_⟩
    refine ⟨(by show 0 ≤ sizeLine; decide), fun e he => ?_⟩
    have s4 : Same H3 (upd H3 e (.lst [])) := same_new he _
    have e4 := hR.1.trans s4
    refine ⟨dPs (wildAll ws ms), dPs [], (hR.prs.same s4).dp, .lst (SqL.of upd_same) .nil, dPs_shaped _, dPs_shaped _, _, rfl, ?_⟩
    rw [dPs_nil]
    cases ew : (wildAll ws ms).isEmpty with
    | false =>
      refine iteF ⟨e2.trans e4, ?_⟩
      have e : [ms].filter (fun ms => (wildAll ws ms).isEmpty) = [] := by
        rw [List.filter_cons, ew]; rfl
      rw [e, List.append_nil]
      exact hB2.on e4
    | true =>
      have e : [ms].filter (fun ms => (wildAll ws ms).isEmpty) = [ms] := by
        rw [List.filter_cons, ew]; rfl
      rw [e]
      obtain ⟨acc, z1, z2, z3⟩ := built_put hD0 (hB2.on e4) (e4 _ _ (e2 _ _ c2)) (ne_of_none c2 hD) c4
      refine ⟨_, rfl, acc, z1, ?_, ?_, z3⟩
      · rw [z2]
        exact big_line (by omega)
      · exact same_put (e2.trans e4) hD _
  · rintro H2 ⟨e2, hB2⟩
    rw [List.take_of_length_le (by rw [List.length_map, d2]; exact Nat.le_refl _)] at hB2
    exact q H2 D hD0 hB2
end
end B2

namespace B2
open PySem L2

/-! ### what the program's rings, holds, paired promise -/
def sp_rings (K : PySem.W.Frag) : Sp := fun vs H Q _ => ∃ (b : Addr) (ns : List Int) (n : Nat), vs = [.ref b] ∧ SqL K H b (ns.map V.int) ∧ OkAfter n ns ∧ 1 ≤ n ∧ n ≤ 6 ∧
  ∀ (H' : Hp) (p : Addr), H p = none → Built H p ((ringsL ns).map fun r => r.map V.int) H' → Q (.ref p) H'
def sp_holds (K : PySem.W.Frag) : Sp := fun vs H Q _ => ∃ (a b : Addr) (ws : List (List Int)) (ns : List Int), vs = [.ref a, .ref b] ∧ Tab K H a ws ∧ Good ws ∧ SqL K H b (ns.map V.int) ∧ OkAfter ws.length ns ∧
  ∀ (H' : Hp) (t : Bool), Same H H' → (t = true ↔ HoldsP ws ns) → Q (.bl t) H'
def sp_paired (K : PySem.W.Frag) : Sp := fun vs H Q _ => ∃ (b : Addr) (s : Bool) (ns : List Int) (n : Nat), vs = [.ref b, .bl s] ∧ SqL K H b (ns.map V.int) ∧ OkAfter n ns ∧ 1 ≤ n ∧ n ≤ 6 ∧ EvenAll n ns ∧
  ∀ (H' : Hp) (p : Addr), Same H H' → H p = none → H' p = some (fm (pairMs ns (!s))) → Q (.ref p) H'
/-- paired refuses a party of three or five -/
def sp_pairedB (K : PySem.W.Frag) (C : Addr) : Sp := fun vs H _ E => ∃ (b : Addr) (s : Bool) (ns : List Int) (n : Nat), vs = [.ref b, .bl s] ∧ SqL K H b (ns.map V.int) ∧ OkAfter n ns ∧ 1 ≤ n ∧ n ≤ 6 ∧ ¬ EvenAll n ns ∧
  ∀ (H' : Hp), Same H H' → E (.ref C) none H'
/-- dealt: the first calm mates, else parties that hold, with one of three or five -/
def sp_dealt (K : PySem.W.Frag) : Sp := fun vs H Q _ => ∃ (a : Addr) (ws : List (List Int)), vs = [.ref a] ∧ Tab K H a ws ∧ Good ws ∧
  ∀ (H' : Hp) (p m : Addr), Same H H' → H p = none → H m = none → m ≠ p →
    (((∃ ms l, allCalm ws = ms :: l ∧ H' p = some (.tup [.str "twos", .ref m]) ∧ H' m = some (fm ms)) ∨
     (allCalm ws = [] ∧ ∃ ns, H' p = some (.tup [.str "parties", .ref m]) ∧ H' m = some (.lst (ns.map V.int)) ∧ OkAfter ws.length ns ∧ HoldsP ws ns ∧ OddAt ws.length ns)) → Q (.ref p) H')
end B2

namespace B2
open PySem L2
theorem mi_lst {X : Cx} {K : PySem.W.Frag} (h : X.K = K) : MtR X "list.index" (rIndex K) := by
  subst h
  exact mt_index
def rMinOf (K : PySem.W.Frag) : List V → Hp → VK → Prop := fun vs H Q => ∃ (a : Addr) (ns : List Int), vs = [V.ref a] ∧ SqL K H a (ns.map V.int) ∧ 0 < ns.length ∧ ∀ m, m ∈ ns → (∀ y, y ∈ ns → m ≤ y) → Q (.int m) H
theorem min_lst {X : Cx} {K : PySem.W.Frag} (h : X.K = K) (hc : X.calm = true) : CallR X (.builtin "min") (rMinOf K) := by
  subst h
  exact cr_min hc
theorem ring_head {n : Nat} {ns : List Int} (A : OkAfter n ns) {a : Nat} (ha : a < n) : atI ((ringN ns a).map V.int) 0 = some (.int (a : Int)) := by
  have hp := (A.per1 ha).1
  have : atI ((ringN ns a).map V.int) ((0 : Nat) : Int) = some (.int (a : Int)) := by
    refine atI_nat ?_
    unfold ringN intsN partN
    rw [List.getElem?_map, List.getElem?_map, List.getElem?_map, List.getElem?_range (by omega)]
    rfl
  exact this
theorem lead_min {n : Nat} {ns : List Int} (A : OkAfter n ns) {a : Nat} (ha : a < n) {m : Int} (hm : m ∈ ringN ns a) (hle : ∀ y ∈ ringN ns a, m ≤ y) : decide ((a : Int) = m) = leadB ns a := by
  have hin2 : (a : Int) ∈ ringN ns a := List.mem_map.mpr ⟨a, A.part_in ha, rfl⟩
  by_cases c2 : (a : Int) = m
  · have el : leadB ns a = true := by
      unfold leadB
      rw [List.all_eq_true]
      intro x hx
      have := hle (x : Int) (List.mem_map.mpr ⟨x, hx, rfl⟩)
      apply decide_eq_true
      omega
    rw [decide_eq_true c2, el]
  · have el : ¬ leadB ns a = true := fun z => c2 (by
      unfold leadB at z
      rw [List.all_eq_true] at z
      obtain ⟨x, hx, rfl⟩ := List.mem_map.mp hm
      have h1 := of_decide_eq_true (z x hx)
      have h2 := hle _ hin2
      omega)
    rw [decide_eq_false c2, Bool.eq_false_iff.mpr el]
section
variable {P : Program} {w : World} {K : PySem.W.Frag} {mg : Str → Option Value} {base : Heap}

/-! ### need_parties -/
theorem sc_need_parties : FnScope ["after", "many", "guest", "following"] ["after"] (defScope s_need_parties) := ⟨rfl, rfl, rfl, by decide +kernel, rfl, by decide +kernel, by decide +kernel⟩
def sp_need_parties (K : PySem.W.Frag) : Sp := fun vs H Q _ => ∃ (b : Addr) (ns : List Int) (n : Nat), vs = [.ref b] ∧ SqL K H b (ns.map V.int) ∧ OkAfter n ns ∧ 1 ≤ n ∧ n ≤ 6 ∧ ∀ H', Same H H' → Q .non H'
theorem ok_need_parties {f : Addr} {fd : FuncData} (F : Fun K "need_parties" "need_parties" s_need_parties f fd) (T : Own mg) (M : ∃ t, mg "MOST_GUESTS" = some (.int 6 t)) (C1 : Cal P w K mg base 1 "is_guest" ["number", "many"] sp_is_guest) :
    FnOk P w K mg base CX0 2 f fd ["after"] (sp_need_parties K) := by
  obtain ⟨g1, gd1, G1, m1, k1, b1⟩ := C1
  obtain ⟨t, mM⟩ := M
  refine F.ok sc_need_parties (fun vs H Q E h => ?_) (fun cdv A outer s H vs Q E hr h => ?_)
  · obtain ⟨b, ns, n, rfl, _⟩ := h
    rfl
  obtain ⟨b, ns, n, rfl, hS, hA, n1, n6, q⟩ := h
  refine ⟨_, pss_cons (ps_if (pt_not (pt_val (pe_callB call_isi (by rfl) T.isI (by decide +kernel) (pa_cons (pv 0) (pa_cons (pe_bltn (v := .ty "list") (by rfl) T.list (by decide +kernel) rfl) pa_nil)))))
      (pss_one ps_never) pss_nil)
    (pss_cons (ps_set (i := 1) sc_need_parties.nd rfl (Or.inl rfl) (pe_callB call_len_seq (by rfl) T.len PySem.boot_len (pa_cons (pv 0) pa_nil)))
    (pss_cons (ps_if (pt_not (pt_chain op_le op_le pe_int (pv 1) (pe_glob (v := .int 6) rfl mM ⟨_, rfl⟩))) (pss_one ps_never) pss_nil)
    (pss_cons (ps_for PassesOwn.never rfl (pi_enum (by rfl) T.enm (pa_cons (pv 0) pa_nil))
      (pg_tup (by rfl) (pgs_cons (pg_name (i := 2) sc_need_parties.nd rfl (Or.inl rfl)) (pgs_cons (pg_name (i := 3) sc_need_parties.nd rfl (Or.inl rfl)) pgs_nil)))
      (pss_one (ps_if (pt_not (pt_val (pe_call G1 hr (by rfl) m1 k1 b1 .nil pass0 (pa_cons (pv 3) (pa_cons (pv 1) pa_nil))))) (pss_one ps_never) pss_nil)))
    (pss_one (ps_if (pt_cmpR op_lt (RZ.pe_lenSetI (by rfl) T.len (by rfl) T.set (pv 0)) (pv 1) (nomark _)) (pss_one ps_never) pss_nil))))), ?_⟩
  have hl := hA.len
  have hl2 : (ns.map V.int).length = n := by rw [List.length_map]; exact hl
  refine ⟨_, rfl, _, _, _, _, _, rfl, .ty _, ty_list hS, kit_ll, _, rfl, iteF ?_⟩
  refine ⟨_, rfl, b, _, rfl, .inl hS, ?_⟩
  rw [hl2]
  refine ⟨_, rfl, _, _, rfl, rfl, _, rfl, ?_⟩
  rw [decide_eq_true (show (1 : Int) ≤ ((n : Nat) : Int) by omega)]
  refine iteT ?_
  refine ⟨_, _, rfl, rfl, _, rfl, ?_⟩
  rw [decide_eq_true (show ((n : Nat) : Int) ≤ 6 by omega)]
  refine iteF ?_
  refine ⟨_, rfl, b, _, rfl, hS, for_it walk_enum (fun i σ H' => Same H H' ∧ ∃ y z, σ = [some (.ref b), some (.int n), y, z])
    ⟨Same.refl H, none, none, rfl⟩ (fun i σ H' _ h => h.1.seq hS) ?_ ?_⟩
  · rintro i x σ H' H2 hi' ⟨hs, y, z, rfl⟩ ⟨t, x1, x2, rfl, ht, rfl, ex1, ex2⟩
    rw [hl2] at hi'
    cases ex1
    change (ns.map V.int)[i]? = some x2 at ex2
    obtain ⟨y2, hy2, rfl⟩ := map_int_get ex2
    have hrg := hA.rg y2 (List.mem_of_getElem? hy2)
    have hs2 := hs.trans (same_new ht (.tup [V.int (i : Nat), V.int y2]))
    refine ⟨t, _, rfl, SqT.of upd_same, rfl, _, _, rfl, _, _, rfl, rfl, ?_⟩
    refine ⟨_, rfl, _, rfl, y2, n, rfl, _, rfl, ?_⟩
    rw [decide_eq_true hrg]
    exact iteF ⟨hs2, _, _, rfl⟩
  · rintro σ H' ⟨hs, y, z, rfl⟩
    refine ⟨_, rfl, b, ns, rfl, hs.seq hS, hA.nd, by omega, _, rfl, _, _, rfl, rfl, _, rfl, ?_⟩
    have e : decide (((ns.length : Nat) : Int) < ((n : Nat) : Int)) = false := decide_eq_false (by omega)
    rw [e]
    exact iteF (q H' hs)

end
end B2

namespace B2
open PySem L2
/-! ### The ones ahead -/
def aheadL (ns : List Int) : List Int := byN ns.length fun a => ((lN ns a : Nat) : Int)
theorem aheadL_len (ns : List Int) : (aheadL ns).length = ns.length := by unfold aheadL; rw [byN_len]
theorem aheadL_get {ns : List Int} {a : Nat} (h : a < ns.length) : (aheadL ns)[a]? = some ((lN ns a : Nat) : Int) := byN_get h
theorem byN_succ {α : Type} (i : Nat) (f : Nat → α) : byN (i + 1) f = byN i f ++ [f i] := by
  unfold byN
  rw [List.range_succ, List.map_append]
  rfl
def aheadM (ns : List Int) : List (Option Int) := (aheadL ns).map some
theorem aheadM_ov (ns : List Int) : (aheadM ns).map ov = (aheadL ns).map V.int := by
  unfold aheadM
  rw [List.map_map]
  rfl
theorem aheadM_mt {ns : List Int} {a : Nat} (h : a < ns.length) : mt (aheadM ns) (a : Int) = some ((lN ns a : Nat) : Int) := by
  show List.getD _ _ _ = _
  unfold aheadM
  rw [List.getD_eq_getElem?_getD, Int.toNat_natCast, List.getElem?_map, aheadL_get h]
  rfl
/-- suits its next, or is its own -/
def nextB (ws : List (List Int)) (ns : List Int) (a : Nat) : Bool := decide (nxI ns (a : Int) = (a : Int)) || suitsB ws (a : Int) (nxI ns (a : Int))
/-- would rather have its next than the one ahead of it, or they are the same -/
def onB (ws : List (List Int)) (ns : List Int) (a : Nat) : Bool := decide (nxI ns (a : Int) = ((lN ns a : Nat) : Int)) || aheadB ws (a : Int) (some (nxI ns (a : Int))) (some ((lN ns a : Nat) : Int))
theorem all_byN {n : Nat} {f : Nat → Bool} : (byN n f).all id = true ↔ ∀ a, a < n → f a = true := by
  unfold byN
  rw [List.all_eq_true]
  constructor
  · intro h a ha
    exact h _ (List.mem_map.mpr ⟨a, List.mem_range.mpr ha, rfl⟩)
  · intro h x hx
    obtain ⟨a, ha, rfl⟩ := List.mem_map.mp hx
    exact h a (List.mem_range.mp ha)
theorem ok_same_ends {n : Nat} {ns : List Int} (A : OkAfter n ns) {a : Nat} (ha : a < n) : nxI ns (a : Int) = ((lN ns a : Nat) : Int) ↔ nxI ns (nxI ns (a : Int)) = (a : Int) := by
  have h1 := A.nxf ha
  have h2 := A.fn a ha
  have h3 := A.lnfl a ha
  rw [h1, A.nxf h2]
  constructor
  · intro h
    have : fN ns a = lN ns a := by omega
    rw [this, h3.2]
  · intro h
    have h4 : fN ns (fN ns a) = a := by omega
    have h5 := A.inj (fN ns a) (lN ns a) h2 h3.1 (h4.trans h3.2.symm)
    omega
theorem ok_hdl {n : Nat} {ns : List Int} (A : OkAfter n ns) {a : Nat} (ha : a < n) : (nxI ns (a : Int) = (a : Int) ∧ lN ns a = a ∧ hdI ns (a : Int) = none) ∨ (nxI ns (a : Int) ≠ (a : Int) ∧ hdI ns (a : Int) = some ((lN ns a : Nat) : Int)) := by
  have h := A.hd ha
  unfold selfO at h
  by_cases c : lN ns a = a
  · rw [if_pos c] at h
    have := (A.lnfl a ha).2
    rw [c] at this
    have h2 := A.nxf ha
    exact .inl ⟨by omega, c, h⟩
  · rw [if_neg c] at h
    refine .inr ⟨fun z => c ?_, h⟩
    have h2 := A.nxf ha
    have h3 := A.lf a ha
    have h4 : fN ns a = a := by omega
    rw [h4] at h3
    exact h3
theorem ok_ahead_hd {ws : List (List Int)} (hG : Good ws) {ns : List Int} (A : OkAfter ws.length ns) {a b : Nat} (ha : a < ws.length) (ne : b ≠ a) :
    aheadB ws (a : Int) (some (b : Int)) (some ((lN ns a : Nat) : Int)) = aheadB ws (a : Int) (some (b : Int)) (hdI ns (a : Int)) := by
  rcases ok_hdl A ha with ⟨_, h2, h3⟩ | ⟨_, h3⟩
  · rw [h3, h2]
    show (if (b : Int) = (a : Int) then false else if suitsB ws (a : Int) (b : Int) = true then (if suitsB ws (a : Int) (a : Int) = true then decide _ else true) else false) = suitsB ws (a : Int) (b : Int)
    rw [if_neg (by omega), suitsB_self hG (by omega) (by omega), if_neg Bool.false_ne_true]
    cases suitsB ws (a : Int) (b : Int) <;> rfl
  · rw [h3]
theorem holdsP_iff {ws : List (List Int)} (hG : Good ws) {ns : List Int} (A : OkAfter ws.length ns) :
    HoldsP ws ns ↔ ((∀ a, a < ws.length → nextB ws ns a = true) ∧ (∀ a, a < ws.length → onB ws ns a = true) ∧ (wildAll ws (aheadM ns)).isEmpty = true) := by
  have hl := A.len
  constructor
  · intro h
    refine ⟨fun a ha => ?_, fun a ha => ?_, calm_to fun i j i0 i1 j0 j1 ne => ?_⟩
    · unfold nextB
      by_cases c : nxI ns (a : Int) = (a : Int)
      · rw [decide_eq_true c]; rfl
      · rw [h.s (a : Int) (by omega) (by omega) c, Bool.or_true]
    · unfold onB
      by_cases c : nxI ns (a : Int) = ((lN ns a : Nat) : Int)
      · rw [decide_eq_true c]; rfl
      · rcases ok_hdl A ha with ⟨h1, h2, _⟩ | ⟨h1, h3⟩
        · exact absurd (by rw [h1, h2]) c
        · have := h.a (a : Int) (by omega) (by omega) h1 (fun z => c ((ok_same_ends A ha).mpr z))
          rw [h3] at this
          rw [this, Bool.or_true]
    · obtain ⟨a, rfl⟩ := nat_of i0
      obtain ⟨b, rfl⟩ := nat_of j0
      have := h.f (a : Int) (b : Int) i0 i1 j0 j1 (fun z => ne z.symm)
      unfold wild
      rw [aheadM_mt (by omega), aheadM_mt (by omega), ok_ahead_hd hG A (by omega) (by omega), ok_ahead_hd hG A (by omega) (by omega)]
      cases e1 : aheadB ws (a : Int) (some (b : Int)) (hdI ns (a : Int)) with
      | false => rfl
      | true =>
        cases e2 : aheadB ws (b : Int) (some (a : Int)) (hdI ns (b : Int)) with
        | false => rfl
        | true => exact absurd ⟨e1, e2⟩ this
  · rintro ⟨h1, h2, h3⟩
    have h4 := calm_of h3
    refine ⟨fun i i0 i1 ne => ?_, fun i i0 i1 ne ne2 => ?_, fun i j i0 i1 j0 j1 ne => ?_⟩
    · obtain ⟨a, rfl⟩ := nat_of i0
      have := h1 a (by omega)
      unfold nextB at this
      rw [decide_eq_false ne, Bool.false_or] at this
      exact this
    · obtain ⟨a, rfl⟩ := nat_of i0
      have := h2 a (by omega)
      unfold onB at this
      rw [decide_eq_false (fun z => ne2 ((ok_same_ends A (by omega)).mp z)), Bool.false_or] at this
      rcases ok_hdl A (a := a) (by omega) with ⟨q1, _, _⟩ | ⟨_, q3⟩
      · exact absurd q1 ne
      · rw [q3]; exact this
    · obtain ⟨a, rfl⟩ := nat_of i0
      obtain ⟨b, rfl⟩ := nat_of j0
      have := h4 (a : Int) (b : Int) i0 i1 j0 j1 (fun z => ne z.symm)
      unfold wild at this
      rw [aheadM_mt (by omega), aheadM_mt (by omega), ok_ahead_hd hG A (by omega) (by omega), ok_ahead_hd hG A (by omega) (by omega)] at this
      rintro ⟨e1, e2⟩
      rw [e1, e2] at this
      cases this
section
variable {P : Program} {w : World} {K : PySem.W.Frag} {mg : Str → Option Value} {base : Heap}

/-! ### ones_ahead -/
theorem sc_ones_ahead : FnScope ["after", "guest"] ["after"] (defScope s_ones_ahead) := ⟨rfl, rfl, rfl, by decide +kernel, rfl, by decide +kernel, by decide +kernel⟩
def sp_ones_ahead (K : PySem.W.Frag) : Sp := fun vs H Q _ => ∃ (b : Addr) (ns : List Int) (n : Nat), vs = [.ref b] ∧ SqA K H b (ns.map V.int) ∧ OkAfter n ns ∧ n ≤ 6 ∧
  ∀ (H' : Hp) (p : Addr), Same H H' → H p = none → H' p = some (.lst ((aheadL ns).map V.int)) → Q (.ref p) H'
theorem ok_ones_ahead {f : Addr} {fd : FuncData} (F : Fun K "ones_ahead" "ones_ahead" s_ones_ahead f fd) (T : Own mg) : FnOk P w K mg base CX0 1 f fd ["after"] (sp_ones_ahead K) := by
  refine F.ok sc_ones_ahead (fun vs H Q E h => ?_) (fun cdv A outer s H vs Q E hr h => ?_)
  · obtain ⟨b, ns, n, rfl, _⟩ := h
    rfl
  obtain ⟨b, ns, n, rfl, hSA, hA, n6, q⟩ := h
  have hl := hA.len
  have hl2 : (ns.map V.int).length = n := by rw [List.length_map]; exact hl
  have en : (((ns.map V.int).length : Nat) : Int).toNat = n := by rw [hl2]; omega
  have step : ∀ (D : Addr) (i : Nat) (H1 : Hp), H D = none → i < n → Same H H1 → H1 D = some (.lst ((byN i fun a => ((lN ns a : Nat) : Int)).map V.int)) →
      ((byN i fun a => ((lN ns a : Nat) : Int)).map V.int).length < sizeLine ∧ Same H (upd H1 D (.lst ((byN i fun a => ((lN ns a : Nat) : Int)).map V.int ++ [V.int ((ns.idxOf (i : Int) : Nat) : Int)]))) ∧
      upd H1 D (.lst ((byN i fun a => ((lN ns a : Nat) : Int)).map V.int ++ [V.int ((ns.idxOf (i : Int) : Nat) : Int)])) D = some (.lst ((byN (i + 1) fun a => ((lN ns a : Nat) : Int)).map V.int)) := fun D i H1 hD hi e hat => by
    refine ⟨?_, same_put e hD _, ?_⟩
    · rw [List.length_map, byN_len]
      exact small1000 (by omega)
    · rw [upd_same, byN_succ, List.map_append]
      rfl
  have fin : ∀ (D : Addr) (H1 : Hp), H D = none → Same H H1 ∧ H1 D = some (.lst ((byN (((ns.map V.int).length : Nat) : Int).toNat fun a => ((lN ns a : Nat) : Int)).map V.int)) → Q (.ref D) H1 := fun D H1 hD h => by
    rw [en, ← hl] at h
    exact q H1 D h.1 hD h.2
  rcases id hSA with hS | hS
  · refine ⟨_, pss_one (ps_ret (pe_lc (own := [("guest", 1)]) (g := gName 1) (tt := tYes) rfl sc_ones_ahead.nd (pi_range1 rfl T.rng (pa_cons (pe_callB call_len_seq (by rfl) T.len PySem.boot_len (pa_cons (pv 0) pa_nil)) pa_nil))
      (blkOk_by (N := ["after", "guest"]) (sc := defScope s_ones_ahead) (by decide +kernel))
      (fun _ _ _ _ _ => pg_name (i := 1) sc_ones_ahead.nd rfl (Or.inl rfl)) (fun _ _ _ _ _ => pts_nil)
      (fun _ _ _ _ _ => pe_bmK (K := K) rfl PySem.F.plainAttrs_list PySem.F.slot_list_index PySem.F.type_list_index (mi_lst (K := K) rfl) (pv 0) (pa_cons (pv 1) pa_nil)))), ?_⟩
    refine ⟨_, rfl, b, _, rfl, .inl hS, (((ns.map V.int).length : Nat) : Int), rfl, by rw [hl2]; omega, by rw [hl2]; omega, fun D hD => ?_⟩
    refine lc_range (lo := 0) (n := (((ns.map V.int).length : Nat) : Int).toNat) (fun i H' => Same H H' ∧ H' D = some (.lst ((byN i fun a => ((lN ns a : Nat) : Int)).map V.int)))
      ⟨same_new hD _, upd_same⟩ ?_ (fun H1 h => fin D H1 hD h)
    rintro i H1 hin ⟨e1, hat⟩
    have hi : i < n := by rw [en] at hin; exact hin
    have ei : (0 : Int) + (i : Int) = (i : Int) := Int.zero_add _
    rw [ei]
    obtain ⟨p1, p2⟩ := index_at (i : Int) ns (List.mem_of_getElem? (at_index (i : Int) ns (by
      have h := (hA.lnfl i hi)
      have g := nx_get (ns := ns) (a := lN ns i) (by omega)
      rw [hA.nxf h.1, h.2] at g
      exact List.mem_of_getElem? g)))
    obtain ⟨t1, t2, t3⟩ := step D i H1 hD hi e1 hat
    exact ⟨rfl, _, rfl, .inl ⟨rfl, _, e1.seq hS⟩, _, rfl, b, _, _, _, _, rfl, rfl, e1.seq hS, rfl, flat_ints _, p1, (by show ((i : Int) == (i : Int)) = true; exact beq_self_eq_true _), p2, _, hat, t1, t2, t3⟩
  · refine ⟨_, pss_one (ps_ret (pe_lc (own := [("guest", 1)]) (g := gName 1) (tt := tYes) rfl sc_ones_ahead.nd (pi_range1 rfl T.rng (pa_cons (pe_callB call_len_seq (by rfl) T.len PySem.boot_len (pa_cons (pv 0) pa_nil)) pa_nil))
      (blkOk_by (N := ["after", "guest"]) (sc := defScope s_ones_ahead) (by decide +kernel))
      (fun _ _ _ _ _ => pg_name (i := 1) sc_ones_ahead.nd rfl (Or.inl rfl)) (fun _ _ _ _ _ => pts_nil)
      (fun _ _ _ _ _ => pe_bmT PySem.F.slot_tuple_index PySem.F.type_tuple_index (mi_tup (K := K) rfl) (pv 0) (pa_cons (pv 1) pa_nil)))), ?_⟩
    refine ⟨_, rfl, b, _, rfl, .inr hS.t, (((ns.map V.int).length : Nat) : Int), rfl, by rw [hl2]; omega, by rw [hl2]; omega, fun D hD => ?_⟩
    refine lc_range (lo := 0) (n := (((ns.map V.int).length : Nat) : Int).toNat) (fun i H' => Same H H' ∧ H' D = some (.lst ((byN i fun a => ((lN ns a : Nat) : Int)).map V.int)))
      ⟨same_new hD _, upd_same⟩ ?_ (fun H1 h => fin D H1 hD h)
    rintro i H1 hin ⟨e1, hat⟩
    have hi : i < n := by rw [en] at hin; exact hin
    have ei : (0 : Int) + (i : Int) = (i : Int) := Int.zero_add _
    rw [ei]
    have hm : (i : Int) ∈ ns := by
      have h := (hA.lnfl i hi)
      have g := nx_get (ns := ns) (a := lN ns i) (by omega)
      rw [hA.nxf h.1, h.2] at g
      exact List.mem_of_getElem? g
    obtain ⟨t1, t2, t3⟩ := step D i H1 hD hi e1 hat
    have hF : TupF H1 b (ns.map V.int) := by
      obtain ⟨ob, h1, h2⟩ := hS
      exact ⟨ob, e1 _ _ h1, h2⟩
    exact ⟨rfl, _, rfl, ⟨b, _, rfl, hF⟩, _, rfl, b, ns, (i : Int), rfl, rfl, hF.t, hm, _, hat, t1, t2, t3⟩

/-! ### suit_their_next -/
theorem nx_atN {ns : List Int} {a : Nat} (h : a < ns.length) : atI (ns.map V.int) (a : Int) = some (.int (nxI ns (a : Int))) := nx_at (by omega) (by omega)
theorem sc_suit_their_next : FnScope ["wishes", "after", "guest"] ["wishes", "after"] (defScope s_suit_their_next) := ⟨rfl, rfl, rfl, by decide +kernel, rfl, by decide +kernel, by decide +kernel⟩
def sp_suit_their_next (K : PySem.W.Frag) : Sp := fun vs H Q _ => ∃ (a b : Addr) (ws : List (List Int)) (ns : List Int), vs = [.ref a, .ref b] ∧ Tab K H a ws ∧ Good ws ∧ SqA K H b (ns.map V.int) ∧ OkAfter ws.length ns ∧
  ∀ H', Same H H' → Q (.bl ((byN ws.length (nextB ws ns)).all id)) H'
theorem ok_suit_their_next {f : Addr} {fd : FuncData} (F : Fun K "suit_their_next" "suit_their_next" s_suit_their_next f fd) (T : Own mg) (C1 : Cal P w K mg base 1 "in_both" ["wishes", "one", "other"] (sp_in_both K)) :
    FnOk P w K mg base CX0 2 f fd ["wishes", "after"] (sp_suit_their_next K) := by
  obtain ⟨g1, gd1, G1, m1, k1, b1⟩ := C1
  refine F.ok sc_suit_their_next (fun vs H Q E h => ?_) (fun cdv A outer s H vs Q E hr h => ?_)
  · obtain ⟨a, b, ws, ns, rfl, _⟩ := h
    rfl
  obtain ⟨a, b, ws, ns, rfl, hT, hG, hS, hA, q⟩ := h
  refine ⟨_, pss_one (ps_ret (pe_callB (cr_all rfl) (by rfl) T.all (by decide +kernel) (pa_cons (pe_lc (own := [("guest", 2)]) (g := gName 2) (tt := tYes) rfl sc_suit_their_next.nd (pi_range1 rfl T.rng (pa_cons (pe_callB call_len_seq (by rfl) T.len PySem.boot_len (pa_cons (pv 1) pa_nil)) pa_nil))
      (blkOk_by (N := ["wishes", "after", "guest"]) (sc := defScope s_suit_their_next) (by decide +kernel))
      (fun _ _ _ _ _ => pg_name (i := 2) sc_suit_their_next.nd rfl (Or.inl rfl)) (fun _ _ _ _ _ => pts_nil)
      (fun _ _ _ _ _ => pe_or (pe_cmpR op_eq (pe_ix (ix_any (K := K) rfl) (pv 1) (pv 2) (fun _ _ => rfl)) (pv 2) (nomark _))
        (pe_one (pe_call G1 hr (by rfl) m1 k1 b1 .nil pass0 (pa_cons (pv 0) (pa_cons (pv 2) (pa_cons (pe_ix (ix_any (K := K) rfl) (pv 1) (pv 2) (fun _ _ => rfl)) pa_nil))))))) pa_nil))), ?_⟩
  have hl := hA.len
  have h6 := hG.hi
  have hl2 : (ns.map V.int).length = ws.length := by rw [List.length_map]; exact hl
  have en : (((ns.map V.int).length : Nat) : Int).toNat = ws.length := by rw [hl2]; omega
  refine ⟨_, rfl, b, _, rfl, hS.s, (((ns.map V.int).length : Nat) : Int), rfl, by rw [hl2]; omega, by rw [hl2]; omega, fun D hD => ?_⟩
  refine lc_range (lo := 0) (n := (((ns.map V.int).length : Nat) : Int).toNat) (fun i H' => Same H H' ∧ H' D = some (.lst ((byN i (nextB ws ns)).map V.bl))) ⟨same_new hD _, upd_same⟩ ?_ ?_
  · rintro i H1 hin ⟨e1, hat⟩
    have hi : i < ws.length := by rw [en] at hin; exact hin
    have ei : (0 : Int) + (i : Int) = (i : Int) := Int.zero_add _
    rw [ei]
    have hn := hA.nx hi
    have put : ∀ c : Bool, c = nextB ws ns i → ∃ acc, H1 D = some (.lst acc) ∧ acc.length < sizeLine ∧ Same H (upd H1 D (.lst (acc ++ [V.bl c]))) ∧ upd H1 D (.lst (acc ++ [V.bl c])) D = some (.lst ((byN (i + 1) (nextB ws ns)).map V.bl)) := fun c hc => by
      refine ⟨_, hat, ?_, same_put e1 hD _, ?_⟩
      · rw [List.length_map, byN_len]
        exact small1000 (by omega)
      · rw [upd_same, byN_succ, List.map_append, hc]
        rfl
    refine ⟨rfl, ?_⟩
    refine ⟨_, rfl, _, rfl, b, _, _, _, rfl, rfl, hS.same e1, nx_atN (by omega), _, rfl, rfl, _, rfl, ?_⟩
    rw [int_dec]
    refine ite2 (fun c => ?_) (fun c => ?_)
    · exact put true (by unfold nextB; rw [c]; rfl)
    · refine ⟨_, rfl, _, rfl, _, rfl, _, rfl, b, _, _, _, rfl, rfl, hS.same e1, nx_atN (by omega), a, ws, (i : Int), nxI ns (i : Int), rfl, hT.same e1, by omega, by omega, by omega, by omega, ?_⟩
      exact put _ (by unfold nextB; rw [Bool.eq_false_iff.mpr c]; rfl)
  · rintro H1 ⟨e1, hat⟩
    rw [en] at hat
    exact ⟨D, _, rfl, SqL.of hat, q H1 e1⟩

/-! ### look_onward -/
theorem sc_look_onward : FnScope ["wishes", "after", "before", "guest"] ["wishes", "after", "before"] (defScope s_look_onward) := ⟨rfl, rfl, rfl, by decide +kernel, rfl, by decide +kernel, by decide +kernel⟩
def sp_look_onward (K : PySem.W.Frag) : Sp := fun vs H Q _ => ∃ (a b c : Addr) (ws : List (List Int)) (ns : List Int), vs = [.ref a, .ref b, .ref c] ∧ Tab K H a ws ∧ Good ws ∧ SqA K H b (ns.map V.int) ∧ OkAfter ws.length ns ∧
  SqL K H c ((aheadL ns).map V.int) ∧ ∀ H', Same H H' → Q (.bl ((byN ws.length (onB ws ns)).all id)) H'
theorem ok_look_onward {f : Addr} {fd : FuncData} (F : Fun K "look_onward" "look_onward" s_look_onward f fd) (T : Own mg) (C1 : Cal P w K mg base 2 "is_ahead" ["wishes", "guest", "one", "other"] (sp_is_ahead K)) :
    FnOk P w K mg base CX0 3 f fd ["wishes", "after", "before"] (sp_look_onward K) := by
  obtain ⟨g1, gd1, G1, m1, k1, b1⟩ := C1
  refine F.ok sc_look_onward (fun vs H Q E h => ?_) (fun cdv A outer s H vs Q E hr h => ?_)
  · obtain ⟨a, b, c, ws, ns, rfl, _⟩ := h
    rfl
  obtain ⟨a, b, c, ws, ns, rfl, hT, hG, hS, hA, hB, q⟩ := h
  refine ⟨_, pss_one (ps_ret (pe_callB (cr_all rfl) (by rfl) T.all (by decide +kernel) (pa_cons (pe_lc (own := [("guest", 3)]) (g := gName 3) (tt := tYes) rfl sc_look_onward.nd (pi_range1 rfl T.rng (pa_cons (pe_callB call_len_seq (by rfl) T.len PySem.boot_len (pa_cons (pv 1) pa_nil)) pa_nil))
      (blkOk_by (N := ["wishes", "after", "before", "guest"]) (sc := defScope s_look_onward) (by decide +kernel))
      (fun _ _ _ _ _ => pg_name (i := 3) sc_look_onward.nd rfl (Or.inl rfl)) (fun _ _ _ _ _ => pts_nil)
      (fun _ _ _ _ _ => pe_or (pe_cmpR op_eq (pe_ix (ix_any (K := K) rfl) (pv 1) (pv 3) (fun _ _ => rfl)) (pe_ix (ix_lst (K := K) rfl) (pv 2) (pv 3) (fun _ _ => rfl)) (nomark _))
        (pe_one (pe_call G1 hr (by rfl) m1 k1 b1 .nil pass0 (pa_cons (pv 0) (pa_cons (pv 3) (pa_cons (pe_ix (ix_any (K := K) rfl) (pv 1) (pv 3) (fun _ _ => rfl)) (pa_cons (pe_ix (ix_lst (K := K) rfl) (pv 2) (pv 3) (fun _ _ => rfl)) pa_nil)))))))) pa_nil))), ?_⟩
  have hl := hA.len
  have h6 := hG.hi
  have hl2 : (ns.map V.int).length = ws.length := by rw [List.length_map]; exact hl
  have en : (((ns.map V.int).length : Nat) : Int).toNat = ws.length := by rw [hl2]; omega
  refine ⟨_, rfl, b, _, rfl, hS.s, (((ns.map V.int).length : Nat) : Int), rfl, by rw [hl2]; omega, by rw [hl2]; omega, fun D hD => ?_⟩
  refine lc_range (lo := 0) (n := (((ns.map V.int).length : Nat) : Int).toNat) (fun i H' => Same H H' ∧ H' D = some (.lst ((byN i (onB ws ns)).map V.bl))) ⟨same_new hD _, upd_same⟩ ?_ ?_
  · rintro i H1 hin ⟨e1, hat⟩
    have hi : i < ws.length := by rw [en] at hin; exact hin
    have ei : (0 : Int) + (i : Int) = (i : Int) := Int.zero_add _
    rw [ei]
    have hn := hA.nx hi
    have hb : atI ((aheadL ns).map V.int) (i : Int) = some (.int ((lN ns i : Nat) : Int)) := atI_nat (by rw [List.getElem?_map, aheadL_get (by omega)]; rfl)
    have hln := (hA.lnfl i hi).1
    have put : ∀ c : Bool, c = onB ws ns i → ∃ acc, H1 D = some (.lst acc) ∧ acc.length < sizeLine ∧ Same H (upd H1 D (.lst (acc ++ [V.bl c]))) ∧ upd H1 D (.lst (acc ++ [V.bl c])) D = some (.lst ((byN (i + 1) (onB ws ns)).map V.bl)) := fun c hc => by
      refine ⟨_, hat, ?_, same_put e1 hD _, ?_⟩
      · rw [List.length_map, byN_len]
        exact small1000 (by omega)
      · rw [upd_same, byN_succ, List.map_append, hc]
        rfl
    refine ⟨rfl, ?_⟩
    refine ⟨_, rfl, _, rfl, b, _, _, _, rfl, rfl, hS.same e1, nx_atN (by omega), _, rfl, _, rfl, c, _, _, _, rfl, rfl, e1.seq hB, hb, rfl, _, rfl, ?_⟩
    rw [int_dec]
    refine ite2 (fun cc => ?_) (fun cc => ?_)
    · exact put true (by unfold onB; rw [cc]; rfl)
    · refine ⟨_, rfl, _, rfl, _, rfl, _, rfl, b, _, _, _, rfl, rfl, hS.same e1, nx_atN (by omega), _, rfl, _, rfl, c, _, _, _, rfl, rfl, e1.seq hB, hb, ?_⟩
      refine ⟨a, ws, (i : Int), some (nxI ns (i : Int)), some ((lN ns i : Nat) : Int), rfl, hT.same e1, by omega, by omega, ⟨by omega, by omega⟩, ⟨by omega, by omega⟩, ?_⟩
      exact put _ (by unfold onB; rw [Bool.eq_false_iff.mpr cc]; rfl)
  · rintro H1 ⟨e1, hat⟩
    rw [en] at hat
    exact ⟨D, _, rfl, SqL.of hat, q H1 e1⟩

/-! ### parties_hold -/
theorem sc_parties_hold : FnScope ["wishes", "after", "before"] ["wishes", "after"] (defScope s_parties_hold) := ⟨rfl, rfl, rfl, by decide +kernel, rfl, by decide +kernel, by decide +kernel⟩
def sp_parties_hold (K : PySem.W.Frag) : Sp := fun vs H Q _ => ∃ (a b : Addr) (ws : List (List Int)) (ns : List Int), vs = [.ref a, .ref b] ∧ Tab K H a ws ∧ Good ws ∧ SqA K H b (ns.map V.int) ∧ OkAfter ws.length ns ∧
  ∀ (H' : Hp) (t : Bool), Same H H' → (t = true ↔ HoldsP ws ns) → Q (.bl t) H'
theorem ok_parties_hold {f : Addr} {fd : FuncData} (F : Fun K "parties_hold" "parties_hold" s_parties_hold f fd) (C1 : Cal P w K mg base 2 "suit_their_next" ["wishes", "after"] (sp_suit_their_next K))
    (C2 : Cal P w K mg base 1 "ones_ahead" ["after"] (sp_ones_ahead K)) (C3 : Cal P w K mg base 3 "look_onward" ["wishes", "after", "before"] (sp_look_onward K))
    (C4 : Cal P w K mg base 3 "restless_pairs" ["wishes", "mates"] (sp_pairsG K)) : FnOk P w K mg base CX0 4 f fd ["wishes", "after"] (sp_parties_hold K) := by
  obtain ⟨g1, gd1, G1, m1, k1, b1⟩ := C1
  obtain ⟨g2, gd2, G2, m2, k2, b2⟩ := C2
  obtain ⟨g3, gd3, G3, m3, k3, b3⟩ := C3
  obtain ⟨g4, gd4, G4, m4, k4, b4⟩ := C4
  refine F.ok sc_parties_hold (fun vs H Q E h => ?_) (fun cdv A outer s H vs Q E hr h => ?_)
  · obtain ⟨a, b, ws, ns, rfl, _⟩ := h
    rfl
  obtain ⟨a, b, ws, ns, rfl, hT, hG, hS, hA, q⟩ := h
  have hu := hr.units
  refine ⟨_, pss_cons (ps_if (pt_not (pt_val (pe_call G1 (hr.mono (by decide)) (by rfl) m1 k1 b1 .nil pass0 (pa_cons (pv 0) (pa_cons (pv 1) pa_nil))))) (pss_one (ps_ret pe_bl)) pss_nil)
    (pss_cons (ps_set (i := 2) sc_parties_hold.nd rfl (Or.inl rfl) (pe_call G2 (hr.mono (by decide)) (by rfl) m2 k2 b2 .nil pass0 (pa_cons (pv 1) pa_nil)))
    (pss_one (ps_ret (pe_and (pe_call G3 hr (by rfl) m3 k3 b3 .nil pass0 (pa_cons (pv 0) (pa_cons (pv 1) (pa_cons (pv 2) pa_nil))))
      (pe_one (pe_cmpR (op_eqD hu) (pe_call G4 hr (by rfl) m4 k4 b4 .nil pass0 (pa_cons (pv 0) (pa_cons (pv 2) pa_nil))) (pe_lst pa_nil) (nomark _))))))), ?_⟩
  have hl := hA.len
  have iff := holdsP_iff hG hA
  refine ⟨_, rfl, _, rfl, a, b, ws, ns, rfl, hT, hG, hS, hA, fun H1 e1 => ?_⟩
  refine ⟨_, rfl, ?_⟩
  cases c1 : (byN ws.length (nextB ws ns)).all id with
  | false =>
    refine iteT (q H1 false e1 ⟨(fun z => nomatch z), fun z => ?_⟩)
    have := all_byN.mpr (iff.mp z).1
    rw [c1] at this
    exact this
  | true =>
  refine iteF ?_
  refine ⟨_, rfl, b, ns, ws.length, rfl, hS.same e1, hA, hG.hi, fun H2 p e2 hp hat => ?_⟩
  have e12 := e1.trans e2
  refine ⟨_, rfl, _, rfl, _, rfl, a, b, p, ws, ns, rfl, hT.same e12, hG, hS.same e12, hA, SqL.of hat, fun H3 e3 => ?_⟩
  refine ⟨_, rfl, ?_⟩
  have e13 := e12.trans e3
  cases c2 : (byN ws.length (onB ws ns)).all id with
  | false =>
    refine iteF (q H3 false e13 ⟨(fun z => nomatch z), fun z => ?_⟩)
    have := all_byN.mpr (iff.mp z).2.1
    rw [c2] at this
    exact this
  | true =>
  refine iteT ?_
  have hml : (aheadM ns).length = ws.length := by unfold aheadM; rw [List.length_map, aheadL_len]; exact hl
  refine ⟨_, rfl, _, rfl, a, p, ws, aheadM ns, rfl, hT.same e13, hG, by rw [aheadM_ov]; exact SqL.of (e3 _ _ hat), hml, fun i i0 i1 => ?_, fun H4 d hd hB => ?_⟩
  · obtain ⟨x, rfl⟩ := nat_of i0
    rw [aheadM_mt (by omega)]
    have := (hA.lnfl x (by omega)).1
    exact ⟨by omega, by omega⟩
  refine ⟨(by show 0 ≤ sizeLine; decide), fun e he => ?_⟩
  have s2 : Same H4 (upd H4 e (.lst [])) := same_new he _
  refine ⟨dPs (wildAll ws (aheadM ns)), dPs [], (hB.prs.same s2).dp, .lst (SqL.of upd_same) .nil, dPs_shaped _, dPs_shaped _, ?_⟩
  rw [dPs_nil]
  refine q _ _ ((e13.trans hB.1).trans s2) ⟨fun z => iff.mpr ⟨all_byN.mp c1, all_byN.mp c2, z⟩, fun z => (iff.mp z).2.2⟩

/-! ### holds -/
theorem sc_holds : FnScope ["wishes", "after"] ["wishes", "after"] (defScope s_holds) := ⟨rfl, rfl, rfl, by decide +kernel, rfl, by decide +kernel, by decide +kernel⟩
theorem ok_holds {f : Addr} {fd : FuncData} (F : Fun K "holds" "holds" s_holds f fd) (T : Own mg) (C1 : Cal P w K mg base 3 "need_wishes" ["wishes"] (sp_need_wishes K)) (C2 : Cal P w K mg base 2 "need_parties" ["after"] (sp_need_parties K))
    (C3 : Cal P w K mg base 4 "parties_hold" ["wishes", "after"] (sp_parties_hold K)) : FnOk P w K mg base CX0 5 f fd ["wishes", "after"] (sp_holds K) := by
  obtain ⟨g1, gd1, G1, m1, k1, b1⟩ := C1
  obtain ⟨g2, gd2, G2, m2, k2, b2⟩ := C2
  obtain ⟨g3, gd3, G3, m3, k3, b3⟩ := C3
  refine F.ok sc_holds (fun vs H Q E h => ?_) (fun cdv A outer s H vs Q E hr h => ?_)
  · obtain ⟨a, b, ws, ns, rfl, _⟩ := h
    rfl
  obtain ⟨a, b, ws, ns, rfl, hT, hG, hS, hA, q⟩ := h
  refine ⟨_, pss_cons (ps_expr (pe_call G1 (hr.mono (by decide)) (by rfl) m1 k1 b1 .nil pass0 (pa_cons (pv 0) pa_nil)))
    (pss_cons (ps_expr (pe_call G2 (hr.mono (by decide)) (by rfl) m2 k2 b2 .nil pass0 (pa_cons (pv 1) pa_nil)))
    (pss_cons (ps_if (pt_cmpR op_ne (pe_callB call_len_seq (by rfl) T.len PySem.boot_len (pa_cons (pv 1) pa_nil)) (pe_callB call_len_seq (by rfl) T.len PySem.boot_len (pa_cons (pv 0) pa_nil)) (nomark _)) (pss_one ps_never) pss_nil)
    (pss_one (ps_ret (pe_call G3 hr (by rfl) m3 k3 b3 .nil pass0 (pa_cons (pv 0) (pa_cons (pv 1) pa_nil))))))), ?_⟩
  have hl := hA.len
  obtain ⟨as, t1, t2, t3⟩ := id hT
  refine ⟨_, rfl, a, ws, rfl, hT, hG, fun H1 e1 => ?_⟩
  refine ⟨_, rfl, b, ns, ws.length, rfl, e1.seq hS, hA, hG.lo, hG.hi, fun H2 e2 => ?_⟩
  have e12 := e1.trans e2
  refine ⟨_, rfl, b, _, rfl, .inl (e12.seq hS), _, rfl, a, _, rfl, .inl (e12.seq t1), rfl, _, rfl, ?_⟩
  rw [int_dec, decide_eq_true (by rw [List.length_map, List.length_map, hl, t2])]
  refine iteF ?_
  refine ⟨_, rfl, _, rfl, a, b, ws, ns, rfl, hT.same e12, hG, .inl (e12.seq hS), hA, fun H3 t e3 hh => ?_⟩
  exact q H3 t (e12.trans e3) hh
end
end B2

namespace B2
open PySem L2
theorem ring_get {ns : List Int} {a t : Nat} (h : t < perN ns a) : atI ((ringN ns a).map V.int) (t : Int) = some (.int ((Tan.iter (fN ns) t a : Nat) : Int)) := by
  refine atI_nat ?_
  unfold ringN intsN partN
  rw [List.getElem?_map, List.getElem?_map, List.getElem?_map, List.getElem?_range h]
  rfl
end B2

namespace B2
open PySem L2
def intsL (l : List Nat) : List Int := l.map fun (j : Nat) => (j : Int)
theorem permV_ints (l : List Nat) : permV l = (intsL l).map V.int := by
  unfold permV intsL
  rw [List.map_map]
  rfl
theorem perm_ok {n : Nat} {l : List Nat} (h : l ∈ permsN n) : OkAfter n (intsL l) := by
  obtain ⟨h1, h2, h3⟩ := pL_of n (List.range n) l List.nodup_range h
  refine ⟨by unfold intsL; rw [List.length_map]; exact h1, fun x hx => ?_, ?_⟩
  · obtain ⟨j, hj, rfl⟩ := List.mem_map.mp hx
    have := List.mem_range.mp (h3 j hj)
    exact ⟨by omega, by omega⟩
  · exact List.pairwise_map.mpr (List.Pairwise.imp_of_mem (fun {a b} _ _ (ne : a ≠ b) (e : (a : Int) = (b : Int)) => ne (by omega)) h2)
theorem ok_perm {n : Nat} {ns : List Int} (A : OkAfter n ns) : ∃ l ∈ permsN n, intsL l = ns := by
  refine ⟨ns.map Int.toNat, pL_all n _ _ (by rw [List.length_map]; exact A.len) ?_ fun x hx => ?_, ?_⟩
  · exact List.pairwise_map.mpr (List.Pairwise.imp_of_mem (fun {a b} ha hb (ne : a ≠ b) e => ne (by have h1 := A.rg a ha; have h2 := A.rg b hb; omega)) A.nd)
  · obtain ⟨y, hy, rfl⟩ := List.mem_map.mp hx
    have := A.rg y hy
    exact List.mem_range.mpr (by omega)
  · unfold intsL
    rw [List.map_map]
    have : ∀ l : List Int, (∀ x ∈ l, 0 ≤ x) → l.map ((fun (j : Nat) => (j : Int)) ∘ Int.toNat) = l := fun l => by
      induction l with
      | nil => exact fun _ => rfl
      | cons a l ih =>
        intro h
        rw [List.map_cons, ih fun x hx => h x (List.mem_cons_of_mem _ hx)]
        have := h a (List.mem_cons_self ..)
        show ((a.toNat : Nat) : Int) :: l = a :: l
        rw [Int.toNat_of_nonneg this]
    exact this ns fun x hx => (A.rg x hx).1
theorem odd_of {ws : List (List Int)} (hG : Good ws) {ns : List Int} (A : OkAfter ws.length ns) (h : HoldsP ws ns) (no : allCalm ws = []) : OddAt ws.length ns := by
  refine Classical.byContradiction fun z => ?_
  have ev : EvenAll ws.length ns := fun a ha la => by
    by_cases c : perN ns a = 1
    · exact .inl c
    · by_cases c2 : perN ns a % 2 = 0
      · exact .inr c2
      · exact absurd (A.odd ha c (by omega)) z
  have := pair_calm hG A h ev true
  have hin := calm_in hG this.1 this.2
  rw [no] at hin
  cases hin
section
variable {P : Program} {w : World} {K : PySem.W.Frag} {mg : Str → Option Value} {base : Heap}

/-! ### first_parties -/
theorem sc_first_parties : FnScope ["wishes", "found", "after"] ["wishes"] (defScope s_first_parties) := ⟨rfl, rfl, rfl, by decide +kernel, rfl, by decide +kernel, by decide +kernel⟩
def sp_first (K : PySem.W.Frag) : Sp := fun vs H Q _ => ∃ (a : Addr) (ws : List (List Int)), vs = [.ref a] ∧ Tab K H a ws ∧ Good ws ∧ allCalm ws = [] ∧
  ∀ (H' : Hp) (p : Addr) (ns : List Int), Same H H' → H p = none → H' p = some (.lst (ns.map V.int)) → OkAfter ws.length ns → HoldsP ws ns → Q (.ref p) H'
theorem ok_first_parties {f : Addr} {fd : FuncData} (F : Fun K "first_parties" "first_parties" s_first_parties f fd) (T : Own mg) (mp : mg "permutations" = some (.type "itertools.permutations"))
    (C1 : Cal P w K mg base 4 "parties_hold" ["wishes", "after"] (sp_parties_hold K)) : FnOk P w K mg base CX0 5 f fd ["wishes"] (sp_first K) := by
  obtain ⟨g1, gd1, G1, m1, k1, b1⟩ := C1
  refine F.ok sc_first_parties (fun vs H Q E h => ?_) (fun cdv A outer s H vs Q E hr h => ?_)
  · obtain ⟨a, ws, rfl, _⟩ := h
    rfl
  obtain ⟨a, ws, rfl, hT, hG, hno, q⟩ := h
  refine ⟨_, pss_cons (ps_setLc (i := 1) (own := [("after", 2)]) (g := gName 2) rfl sc_first_parties.nd rfl rfl (sw_true rfl rfl rfl (by decide +kernel))
      (pi_perm rfl (by rfl) mp (prg_1 (by rfl) T.rng (pe_callB call_len_seq (by rfl) T.len PySem.boot_len (pa_cons (pv 0) pa_nil))))
      (blkOk_by (N := ["wishes", "found", "after"]) (sc := defScope s_first_parties) (by decide +kernel))
      (fun _ _ _ _ _ => pg_name (i := 2) sc_first_parties.nd rfl (Or.inl rfl))
      (fun _ _ _ _ _ => pts_one (pt_val (pe_call G1 hr (by rfl) m1 k1 b1 .nil pass0 (pa_cons (pv 0) (pa_cons (pv 2) pa_nil)))))
      (fun _ _ _ _ _ => pv 2))
    (pss_one (ps_ret (pe_callTy (T := "list") (call_lof (K := K) rfl) (by rfl) T.list (by decide +kernel) (pa_cons (pe_ix ix_list (pv 1) pe_int (fun _ _ => rfl)) pa_nil)))), ?_⟩
  obtain ⟨as, t1, t2, t3⟩ := id hT
  have hl : (as.map V.ref).length = ws.length := by rw [List.length_map]; exact t2
  refine ⟨_, rfl, a, _, rfl, .inl t1, _, rfl, rfl, ws.length, by rw [hl], hG.lo, hG.hi, fun D hD => ?_⟩
  have few := perms_few hG.lo hG.hi
  refine lc_it (walk_perm (n := ws.length)) (fun i H' => Same H H' ∧ ∃ bs : List Addr, H' D = some (.lst (bs.map V.ref)) ∧ bs.length ≤ i ∧ (∀ b ∈ bs, ∃ l ob, H' b = some (.frz ob (.tup (permV l))) ∧ l ∈ permsN ws.length ∧ HoldsP ws (intsL l) ∧ b ≠ D) ∧
      (∀ (j : Nat) (l : List Nat), j < i → (permsN ws.length)[j]? = some l → HoldsP ws (intsL l) → bs ≠ []))
    ⟨same_new hD _, [], upd_same, Nat.le_refl _, (fun b h => nomatch h), (fun j l h => by omega)⟩ (fun _ _ _ _ => trivial) ?_ ?_
  · rintro i x H1 _ hi ⟨e1, bs, c1, c2, c3, c4⟩ ⟨p, ob, l, rfl, hp, hc, hd, hl2, rfl⟩
    have hin := List.mem_of_getElem? hl2
    have hA := perm_ok hin
    have ep := same_new hp (.frz ob (.tup (permV l)))
    have npD : p ≠ D := (ne_of_none c1 hp).symm
    have c3' : ∀ {H2 : Hp}, Same (upd H1 p (.frz ob (.tup (permV l)))) H2 → ∀ b ∈ bs, ∃ l ob, H2 b = some (.frz ob (.tup (permV l))) ∧ l ∈ permsN ws.length ∧ HoldsP ws (intsL l) ∧ b ≠ D := fun e b hb => by
      obtain ⟨l', ob', h1, h2, h3, h4⟩ := c3 b hb
      exact ⟨l', ob', e _ _ (ep _ _ h1), h2, h3, h4⟩
    refine ⟨rfl, ?_⟩
    refine ⟨_, rfl, _, rfl, a, p, ws, intsL l, rfl, (hT.same e1).same ep, hG, .inr ⟨ob, by rw [upd_same, permV_ints], hc, hd⟩, hA, fun H2 t e2 ht => ⟨_, rfl, ?_⟩⟩
    have e12 := (e1.trans ep).trans e2
    have hD2 := e2 _ _ (ep _ _ c1)
    cases t with
    | false =>
      refine iteF ⟨e12, bs, hD2, by omega, c3' e2, fun j l' hj hl' hh => ?_⟩
      by_cases c : j = i
      · subst c
        rw [hl2] at hl'
        cases hl'
        exact absurd (ht.mpr hh) Bool.false_ne_true
      · exact c4 j l' (by omega) hl' hh
    | true =>
      refine iteT ⟨_, rfl, _, hD2, ?_, same_put e12 hD _, bs ++ [p], ?_, ?_, fun b hb => ?_, fun j l' hj hl' hh z => ?_⟩
      · rw [List.length_map]
        exact small1000 (by omega)
      · rw [upd_same, List.map_append]
        rfl
      · rw [List.length_append, List.length_singleton]
        omega
      · rcases List.mem_append.mp hb with hb | hb
        · obtain ⟨l', ob', h1, h2, h3, h4⟩ := c3' e2 b hb
          exact ⟨l', ob', by rw [upd_ne h4]; exact h1, h2, h3, h4⟩
        · rw [List.mem_singleton.mp hb]
          exact ⟨l, ob, by rw [upd_ne npD]; exact e2 _ _ upd_same, hin, ht.mp rfl, npD⟩
      · cases bs <;> cases z
  · rintro H1 ⟨e1, bs, c1, c2, c3, c4⟩
    obtain ⟨ns, hA, hh, _⟩ := calm_or hG hno
    obtain ⟨l, hin, rfl⟩ := ok_perm hA
    obtain ⟨j, hj⟩ := List.mem_iff_getElem?.mp hin
    have hne := c4 j l (List.getElem?_eq_some_iff.mp hj).1 hj hh
    cases bs with
    | nil => exact absurd rfl hne
    | cons b bs =>
      obtain ⟨l2, ob, h1, h2, h3, _⟩ := c3 b (List.mem_cons_self ..)
      refine ⟨_, rfl, D, _, _, _, rfl, rfl, SqL.of c1, atI_nat (j := 0) rfl, b, _, rfl, .inr (.inl (.inr ⟨ob, h1⟩)), fun r hr' => ?_⟩
      refine q _ r (intsL l2) (e1.trans (same_new hr' _)) (e1.free hr') (by rw [upd_same, permV_ints]) (perm_ok h2) h3

/-! ### dealt -/
theorem sc_dealt : FnScope ["wishes", "found"] ["wishes"] (defScope s_dealt) := ⟨rfl, rfl, rfl, by decide +kernel, rfl, by decide +kernel, by decide +kernel⟩
theorem ok_dealt {f : Addr} {fd : FuncData} (F : Fun K "dealt" "dealt" s_dealt f fd) (C1 : Cal P w K mg base 5 "all_calm" ["wishes"] (sp_all_calm K)) (C2 : Cal P w K mg base 5 "first_parties" ["wishes"] (sp_first K)) :
    FnOk P w K mg base CX0 6 f fd ["wishes"] (sp_dealt K) := by
  obtain ⟨g1, gd1, G1, m1, k1, b1⟩ := C1
  obtain ⟨g2, gd2, G2, m2, k2, b2⟩ := C2
  refine F.ok sc_dealt (fun vs H Q E h => ?_) (fun cdv A outer s H vs Q E hr h => ?_)
  · obtain ⟨a, ws, rfl, _⟩ := h
    rfl
  obtain ⟨a, ws, rfl, hT, hG, q⟩ := h
  refine ⟨_, pss_cons (ps_set (i := 1) sc_dealt.nd rfl (Or.inl rfl) (pe_call G1 hr (by rfl) m1 k1 b1 .nil pass0 (pa_cons (pv 0) pa_nil)))
    (pss_cons (ps_if (pt_truth (pv 1) (by intro _; rfl)) (pss_one (ps_ret (pe_tup (pa_cons pe_str (pa_cons (pe_ix ix_list (pv 1) pe_int (fun _ _ => rfl)) pa_nil))))) pss_nil)
    (pss_one (ps_ret (pe_tup (pa_cons pe_str (pa_cons (pe_call G2 hr (by rfl) m2 k2 b2 .nil pass0 (pa_cons (pv 0) pa_nil)) pa_nil)))))), ?_⟩
  refine ⟨_, rfl, a, ws, rfl, hT, hG, fun H1 L hL hB => ?_⟩
  have e1 := hB.1
  obtain ⟨ls, l1, l2, l3⟩ := id hB.2
  refine ⟨_, rfl, _, .inl ⟨_, SqL.of l1, rfl⟩, ?_⟩
  cases hh : allCalm ws with
  | nil =>
    rw [hh] at l2
    rw [List.length_eq_zero_iff.mp l2]
    refine iteF ?_
    refine ⟨_, rfl, a, ws, rfl, hT.same e1, hG, hh, fun H2 p ns e2 hp hat hA hhp => ?_⟩
    refine ⟨(by show 2 ≤ sizeLine; decide), fun t ht => ?_⟩
    have npt : p ≠ t := ne_of_none hat ht
    exact q _ t p ((e1.trans e2).trans (same_new ht _)) ((e1.trans e2).free ht) (e1.free hp) npt (.inr ⟨hh, ns, upd_same, by rw [upd_ne npt]; exact hat, hA, hhp, odd_of hG hA hhp hh⟩)
  | cons ms l =>
    obtain ⟨c, c1, c2, c3, c4⟩ := l3 0 ms (by rw [hh]; rfl)
    cases ls with
    | nil => cases c1
    | cons c' ls =>
      cases c1
      refine iteT ?_
      refine ⟨_, rfl, L, _, _, _, rfl, rfl, SqL.of l1, atI_nat (j := 0) rfl, (by show 2 ≤ sizeLine; decide), fun t ht => ?_⟩
      have nct : c ≠ t := ne_of_none c2 ht
      exact q _ t c (e1.trans (same_new ht _)) (e1.free ht) c4 nct (.inl ⟨ms, l, hh, upd_same, by rw [upd_ne nct]; exact c2⟩)
end
end B2

namespace B2
open PySem L2
/-! ### Calm mates as parties of two and one -/
theorem hold_mates {ws : List (List Int)} (hG : Good ws) {ms : List (Option Int)} (o : OkMates ws ms) (c : Calm ws ms) : Tan.Hold (prefT ws hG) (mN ms) (mN ms) := by
  have V := mate_to hG o c
  exact ⟨V.lt, V.lt, V.inv, V.inv, V.ok, fun a ha => Nat.le_refl _, V.calm⟩
/-- each guest's mate, its own where it is alone -/
def partyL (ms : List (Option Int)) : List Int := byN ms.length fun a => (mt ms (a : Int)).getD (a : Int)
theorem party_hold {ws : List (List Int)} (hG : Good ws) {ms : List (Option Int)} (o : OkMates ws ms) (c : Calm ws ms) : OkAfter ws.length (partyL ms) ∧ HoldsP ws (partyL ms) := by
  obtain ⟨ns, hA, hh, hf⟩ := hold_from hG (hold_mates hG o c)
  have e : ns = partyL ms := by
    apply List.ext_getElem?
    intro i
    have hl := hA.len
    have hml := o.len
    by_cases ci : i < ws.length
    · rw [nx_get (ns := ns) (a := i) (by omega), hA.nxf ci, (hf i ci).1]
      unfold partyL
      rw [byN_get (by omega)]
      have h := mN_is hG o ci
      congr 1
      rw [h.2.2.2]
      unfold selfO
      by_cases z : mN ms i = i
      · rw [if_pos z, z]; rfl
      · rw [if_neg z]; rfl
    · rw [List.getElem?_eq_none (by omega), List.getElem?_eq_none (by unfold partyL; rw [byN_len]; omega)]
  rw [← e]
  exact ⟨hA, hh⟩
theorem eqv_ov : ∀ a b : Option Int, (dV (ov a)).eqv (dV (ov b)) = decide (a = b)
  | none, none => by simp [dV, ov, PyData.eqv]
  | none, some j => by simp [dV, ov, PyData.eqv]
  | some i, none => by simp [dV, ov, PyData.eqv]
  | some i, some j => by
    by_cases h : i = j
    · subst h; simp [dV, ov, PyData.eqv]
    · simp [dV, ov, PyData.eqv, h]
theorem eqvAll_ov : ∀ a b : List (Option Int), PyData.eqvAll ((a.map ov).map dV) ((b.map ov).map dV) = decide (a = b)
  | [], [] => by simp [PyData.eqvAll]
  | [], _ :: _ => by simp [PyData.eqvAll]
  | _ :: _, [] => by simp [PyData.eqvAll]
  | x :: a, y :: b => by
    rw [List.map_cons, List.map_cons, List.map_cons, List.map_cons, PyData.eqvAll, eqv_ov, eqvAll_ov a b]
    by_cases h : x = y
    · by_cases h2 : a = b
      · simp [h, h2]
      · simp [h, h2]
    · simp [h]
theorem dL_eqv (a b : List (Option Int)) : (dL (a.map ov)).eqv (dL (b.map ov)) = decide (a = b) := by
  unfold dL
  rw [PyData.eqv]
  exact eqvAll_ov a b
/-- the first of those that pass is the first that passes -/
theorem filter_first {α : Type} {p : α → Bool} {x : α} {l' : List α} : ∀ {l : List α} {i : Nat} {y : α}, l.filter p = x :: l' → l[i]? = some y → p y = true → (∀ j z, j < i → l[j]? = some z → p z = false) → y = x
  | [], i, y, h, _, _, _ => by cases h
  | a :: l, 0, y, h, hy, hp, _ => by
    cases hy
    rw [List.filter_cons, if_pos hp] at h
    exact (List.cons.inj h).1
  | a :: l, i + 1, y, h, hy, hp, hb => by
    have ha := hb 0 a (Nat.succ_pos _) rfl
    rw [List.filter_cons, if_neg (by rw [ha]; exact Bool.false_ne_true)] at h
    exact filter_first h hy hp fun j z hj hz => hb (j + 1) z (by omega) hz
section
variable {P : Program} {w : World} {K : PySem.W.Frag} {mg : Str → Option Value} {base : Heap}

/-! ### _law_after -/
theorem sc_lafter : FnScope ["_law_found", "_law_many", "_law_k"] ["_law_found", "_law_many"] (defScope s_lafter) := ⟨rfl, rfl, rfl, by decide +kernel, rfl, by decide +kernel, by decide +kernel⟩
def sp_lafter (K : PySem.W.Frag) : Sp := fun vs H Q _ => ∃ (b : Addr) (ns : List Int) (n : Nat), vs = [.ref b, .int n] ∧ SqL K H b (ns.map V.int) ∧ OkAfter n ns ∧ n ≤ 6 ∧ ∀ H', Same H H' → Q (.bl true) H'
theorem ok_lafter {f : Addr} {fd : FuncData} (F : Fun K "_law_after" "_law_after" s_lafter f fd) (T : Own mg) (C1 : Cal P w K mg base 1 "_law_whole" ["_law_found"] sp_whole) : FnOk P w K mg base CX0 2 f fd ["_law_found", "_law_many"] (sp_lafter K) := by
  obtain ⟨g1, gd1, G1, m1, k1, b1⟩ := C1
  refine F.ok sc_lafter (fun vs H Q E h => ?_) (fun cdv A outer s H vs Q E hr h => ?_)
  · obtain ⟨b, ns, n, rfl, _⟩ := h
    rfl
  obtain ⟨b, ns, n, rfl, hS, hA, n6, q⟩ := h
  refine ⟨_, pss_cons (ps_if (PW.pt (pw_or (pt_not (pt_val (pe_callB call_isi (by rfl) T.isI (by decide +kernel) (pa_cons (pv 0) (pa_cons (pe_bltn (v := .ty "list") (by rfl) T.list (by decide +kernel) rfl) pa_nil)))))
        (pw_or1 (pt_cmpR op_ne (pe_callB call_len_seq (by rfl) T.len PySem.boot_len (pa_cons (pv 0) pa_nil)) (pv 1) (nomark _))))) (pss_one (ps_ret pe_bl)) pss_nil)
    (pss_cons (ps_for PassesOwn.never rfl (pi_range1 rfl T.rng (pa_cons (pv 1) pa_nil)) (pg_name (i := 2) sc_lafter.nd rfl (Or.inl rfl))
      (pss_one (ps_if (PW.pt (pw_or (pt_not (pt_val (pe_call G1 hr (by rfl) m1 k1 b1 .nil pass0 (pa_cons (pe_ix ix_list (pv 0) (pv 2) (fun _ _ => rfl)) pa_nil))))
          (pw_or (pt_cmpR op_lt (pe_ix ix_list (pv 0) (pv 2) (fun _ _ => rfl)) pe_int (nomark _))
          (pw_or (pt_cmpR op_ge (pe_ix ix_list (pv 0) (pv 2) (fun _ _ => rfl)) (pv 1) (nomark _))
          (pw_or1 (pt_cmpR op_in_seq (pe_ix ix_list (pv 0) (pv 2) (fun _ _ => rfl)) (pe_slice sl_list (pv 0) po_none (po_some (pv 2))) (by rfl))))))) (pss_one (ps_ret pe_bl)) pss_nil)))
    (pss_one (ps_ret pe_bl))), ?_⟩
  have hl := hA.len
  have hl2 : (ns.map V.int).length = n := by rw [List.length_map]; exact hl
  refine ⟨_, rfl, _, _, _, _, _, rfl, .ty _, ty_list hS, kit_ll, _, rfl, iteF ?_⟩
  refine ⟨_, rfl, b, _, rfl, .inl hS, _, rfl, rfl, _, rfl, ?_⟩
  rw [decide_eq_true (show V.int ((ns.map V.int).length : Nat) = V.int (n : Nat) by rw [hl2])]
  refine iteF ?_
  refine ⟨_, rfl, (n : Int), rfl, by omega, by omega, ?_⟩
  refine for_range (lo := 0) (n := ((n : Nat) : Int).toNat) (fun i σ H' => Same H H' ∧ ∃ z, σ = [some (.ref b), some (.int n), z]) ⟨Same.refl H, none, rfl⟩ ?_ ?_
  · rintro i σ H' hin ⟨e, z, rfl⟩
    have hi : i < n := by omega
    have ei : (0 : Int) + (i : Int) = (i : Int) := Int.zero_add _
    rw [ei]
    have hS' := e.seq hS
    have hat := nx_at (ns := ns) (i := (i : Int)) (by omega) (by omega)
    have hn := hA.nx hi
    refine ⟨_, rfl, _, rfl, b, _, _, _, rfl, rfl, hS', hat, _, rfl, _, rfl, iteF ?_⟩
    refine ⟨_, rfl, _, rfl, b, _, _, _, rfl, rfl, hS', hat, _, _, rfl, rfl, _, rfl, ?_⟩
    rw [decide_eq_false (show ¬ nxI ns (i : Int) < 0 by omega)]
    refine iteF ?_
    refine ⟨_, rfl, _, rfl, b, _, _, _, rfl, rfl, hS', hat, _, rfl, _, _, rfl, rfl, _, rfl, ?_⟩
    rw [decide_eq_false (show ¬ nxI ns (i : Int) ≥ (n : Int) by omega)]
    refine iteF ?_
    refine ⟨_, rfl, _, rfl, b, _, _, _, rfl, rfl, hS', hat, _, rfl, _, rfl, _, rfl, b, _, rfl, hS', fun l hl0 => ?_⟩
    have ec : cutV (ns.map V.int) none (some (i : Int)) = (ns.take i).map V.int := by
      unfold cutV
      have e1 : HT.sIx (ns.map V.int).length 0 none = 0 := rfl
      have e2 : HT.sIx (ns.map V.int).length (ns.map V.int).length (some (i : Int)) = i := by
        rw [List.length_map, HT.sIx_nat]; omega
      rw [e1, e2, List.drop_zero, Nat.sub_zero, List.map_take]
    rw [ec]
    refine ⟨l, _, rfl, .inl (SqL.of upd_same), rfl, flat_ints _, _, rfl, ?_⟩
    rw [inV_int]
    have nin : ¬ nxI ns (i : Int) ∈ ns.take i := fun hm => by
      obtain ⟨j, hj⟩ := List.mem_iff_getElem?.mp hm
      rw [List.getElem?_take] at hj
      by_cases c : j < i
      · rw [if_pos c] at hj
        have g := nx_get (ns := ns) (a := i) (by omega)
        have := (List.getElem?_inj (show j < ns.length by omega) hA.nd).mp (hj.trans g.symm)
        omega
      · rw [if_neg c] at hj; cases hj
    rw [decide_eq_false nin]
    exact iteF ⟨e.trans (same_new hl0 _), _, rfl⟩
  · rintro σ H' ⟨e, z, rfl⟩
    exact q H' e

/-! ### _law_first, of k07 -/
theorem sc_lfirst7 : FnScope ["_law_wishes", "_law_mates_here", "_law_some", "_law_one"] ["_law_wishes", "_law_mates_here", "_law_some"] (defScope s_lfirst) := ⟨rfl, rfl, rfl, by decide +kernel, rfl, by decide +kernel, by decide +kernel⟩
def sp_lfirst7 (K : PySem.W.Frag) : Sp := fun vs H Q _ => ∃ (a b c : Addr) (ws : List (List Int)) (ms : List (Option Int)) (l : List (List (Option Int))), vs = [.ref a, .ref b, .ref c] ∧ Tab K H a ws ∧ Good ws ∧ SqL K H b (ms.map ov) ∧ allCalm ws = ms :: l ∧
  TabV K H c ((allTwos ws).map fun m => m.map ov) ∧ ∀ H', Same H H' → Q (.bl true) H'
theorem ok_lfirst7 {f : Addr} {fd : FuncData} (F : Fun K "_law_first" "_law_first" s_lfirst f fd) (C1 : Cal P w K mg base 3 "_law_restless" ["_law_wishes", "_law_mates_here"] (sp_pairs K)) : FnOk P w K mg base CX0 4 f fd ["_law_wishes", "_law_mates_here", "_law_some"] (sp_lfirst7 K) := by
  obtain ⟨g1, gd1, G1, m1, k1, b1⟩ := C1
  refine F.ok sc_lfirst7 (fun vs H Q E h => ?_) (fun cdv A outer s H vs Q E hr h => ?_)
  · obtain ⟨a, b, c, ws, ms, l, rfl, _⟩ := h
    rfl
  obtain ⟨a, b, c, ws, ms, l, rfl, hT, hG, hM, hC, hS, q⟩ := h
  have hu := hr.units
  refine ⟨_, pss_cons (ps_for PassesOwn.never rfl (pi_list (pv 2)) (pg_name (i := 3) sc_lfirst7.nd rfl (Or.inl rfl))
      (pss_cons (ps_if (pt_cmpR (op_eqD hu) (pv 3) (pv 1) (nomark _)) (pss_one (ps_ret pe_bl)) pss_nil)
      (pss_one (ps_if (pt_cmpR (op_eqD hu) (pe_call G1 hr (by rfl) m1 k1 b1 .nil pass0 (pa_cons (pv 0) (pa_cons (pv 3) pa_nil))) (pe_lst pa_nil) (nomark _)) (pss_one (ps_ret pe_bl)) pss_nil))))
    (pss_one (ps_ret pe_bl)), ?_⟩
  obtain ⟨as, s1, s2, s3⟩ := id hS
  rw [List.length_map] at s2
  have hmem : ms ∈ allCalm ws := by rw [hC]; exact List.mem_cons_self ..
  refine ⟨_, rfl, c, rfl, ⟨_, s1⟩, for_list (K := K) (a := c) (xs := as.map V.ref) (fun i σ H' => Same H H' ∧ (∀ j m, j < i → (allTwos ws)[j]? = some m → m ≠ ms ∧ (wildAll ws m).isEmpty = false) ∧ ∃ z, σ = [some (.ref a), some (.ref b), some (.ref c), z])
    ⟨Same.refl H, (fun j m hj => by omega), none, rfl⟩ (fun i σ H' _ h => h.1.seq s1) ?_ ?_⟩
  · rintro i x σ H1 hx ⟨e1, hb, z, rfl⟩
    obtain ⟨p, hp, rfl⟩ := map_ref_get hx
    have hi : i < (allTwos ws).length := by rw [← s2]; exact (List.getElem?_eq_some_iff.mp hp).1
    obtain ⟨p', hp', hps⟩ := s3 i ((allTwos ws)[i].map ov) (by rw [List.getElem?_map, List.getElem?_eq_getElem hi]; rfl)
    rw [hp] at hp'
    cases hp'
    have hge : (allTwos ws)[i]? = some (allTwos ws)[i] := List.getElem?_eq_getElem hi
    have hOk := stage_ok ws ws.length (Nat.le_refl _) _ (List.getElem_mem hi)
    generalize (allTwos ws)[i] = m at hps hge hOk
    refine ⟨_, rfl, _, rfl, dL (m.map ov), dL (ms.map ov), .lst (e1.seq hps) (dpAll_plain _ (flat_ovs m)), .lst (e1.seq hM) (dpAll_plain _ (flat_ovs ms)), dL_shaped _, dL_shaped _, _, rfl, ?_⟩
    rw [dL_eqv]
    by_cases cm : m = ms
    · rw [decide_eq_true cm]
      exact iteT (q H1 e1)
    · rw [decide_eq_false cm]
      refine iteF ?_
      refine ⟨_, rfl, _, rfl, a, p, ws, m, rfl, hT.same e1, hG, e1.seq hps, hOk, fun H2 r hr' hR => ?_⟩
      refine ⟨(by show 0 ≤ sizeLine; decide), fun e he => ?_⟩
      have s4 : Same H2 (upd H2 e (.lst [])) := same_new he _
      have e4 := (e1.trans hR.1).trans s4
      refine ⟨dPs (wildAll ws m), dPs [], (hR.prs.same s4).dp, .lst (SqL.of upd_same) .nil, dPs_shaped _, dPs_shaped _, _, rfl, ?_⟩
      rw [dPs_nil]
      cases hw : (wildAll ws m).isEmpty with
      | true =>
        exfalso
        exact cm (filter_first (p := fun ms => (wildAll ws ms).isEmpty) hC hge hw fun j z hj hz => (hb j z hj hz).2)
      | false =>
        refine iteF ⟨e4, fun j m' hj hm' => ?_, _, rfl⟩
        by_cases c : j = i
        · rw [c] at hm'
          rw [hge] at hm'
          cases hm'
          exact ⟨cm, hw⟩
        · exact hb j m' (by omega) hm'
  · rintro σ H' ⟨_, hb, z, rfl⟩
    exfalso
    obtain ⟨j, hj⟩ := List.mem_iff_getElem?.mp (List.mem_filter.mp hmem).1
    have hlt : j < (as.map V.ref).length := by rw [List.length_map, s2]; exact (List.getElem?_eq_some_iff.mp hj).1
    exact (hb j ms hlt hj).1 rfl
end
end B2

namespace B2
open PySem L2
theorem kit_tt7 {K : PySem.W.Frag} : PySem.W.kitOne K (.type "tuple") (.type "tuple") = some true := kit_ty (by decide +kernel)
theorem ix_tpl {X : Cx} {K : PySem.W.Frag} (h : X.K = K) : IxR X (rIxT K) := by
  subst h
  exact ix_tup
section
variable {P : Program} {w : World} {K : PySem.W.Frag} {mg : Str → Option Value} {base : Heap}

/-! ### law -/
abbrev law7N : List Str := ["_law_script", "_law_many", "_law_wishes", "_law_handed", "_law_found", "_law_some", "_law_after_here", "_law_mates_here", "_law_row", "_law_guest", "_law_ring"]
theorem sc_law : FnScope ["_law_script", "_law_many", "_law_wishes", "_law_handed", "_law_found", "_law_some", "_law_after_here", "_law_mates_here", "_law_row", "_law_guest", "_law_ring"] ["_law_script"] (defScope s_law) := ⟨rfl, rfl, rfl, by decide +kernel, rfl, by decide +kernel, by decide +kernel⟩
def sp_law (K : PySem.W.Frag) : Sp := fun vs H Q _ => ∃ (a : Addr) (ns : List Int), vs = [.ref a] ∧ SqL K H a (ns.map V.int) ∧ ns.length ≤ 63 ∧ ∀ H', Q (.bl true) H'
theorem ok_law {f : Addr} {fd : FuncData} (F : Fun K "law" "law" s_law f fd) (T : Own mg) (C1 : Cal P w K mg base 1 "_law_cell_at" ["_law_script", "_law_k"] (sp_cell_at K))
    (C2 : Cal P w K mg base 2 "_law_wishes_by" ["_law_script", "_law_many"] (sp_wishes_by K))
    (C3 : Cal P w K mg base 6 "dealt" ["wishes"] (sp_dealt K))
    (C4 : Cal P w K mg base 4 "all_twos" ["wishes"] (sp_all_twos K))
    (C5 : Cal P w K mg base 2 "_law_mates" ["_law_wishes", "_law_mates_here"] (sp_lmates K)) (C6 : Cal P w K mg base 3 "_law_restless" ["_law_wishes", "_law_mates_here"] (sp_pairs K))
    (C7 : Cal P w K mg base 4 "_law_first" ["_law_wishes", "_law_mates_here", "_law_some"] (sp_lfirst7 K))
    (C8 : Cal P w K mg base 5 "holds" ["wishes", "after"] (sp_holds K))
    (C9 : Cal P w K mg base 2 "_law_after" ["_law_found", "_law_many"] (sp_lafter K))
    (C10 : Cal P w K mg base 3 "_law_holds" ["_law_wishes", "_law_after_here"] (sp_lholds K))
    (C11 : Cal P w K mg base 1 "_law_rings" ["_law_after_here"] (sp_lrings K)) : FnOk P w K mg base CX0 7 f fd ["_law_script"] (sp_law K) := by
  obtain ⟨g1, gd1, G1, m1, k1, b1⟩ := C1
  obtain ⟨g2, gd2, G2, m2, k2, b2⟩ := C2
  obtain ⟨g3, gd3, G3, m3, k3, b3⟩ := C3
  obtain ⟨g4, gd4, G4, m4, k4, b4⟩ := C4
  obtain ⟨g5, gd5, G5, m5, k5, b5⟩ := C5
  obtain ⟨g6, gd6, G6, m6, k6, b6⟩ := C6
  obtain ⟨g7, gd7, G7, m7, k7, b7⟩ := C7
  obtain ⟨g8, gd8, G8, m8, k8, b8⟩ := C8
  obtain ⟨g9, gd9, G9, m9, k9, b9⟩ := C9
  obtain ⟨g10, gd10, G10, m10, k10, b10⟩ := C10
  obtain ⟨g11, gd11, G11, m11, k11, b11⟩ := C11
  refine F.ok sc_law (fun vs H Q E h => ?_) (fun cdv A outer s H vs Q E hr h => ?_)
  · obtain ⟨a, ns, rfl, _⟩ := h
    rfl
  obtain ⟨a, cs, rfl, hS, hlen, q⟩ := h
  have hr1 : Room 1 _ := hr.mono (by decide)
  have hr2 : Room 2 _ := hr.mono (by decide)
  have hr3 : Room 3 _ := hr.mono (by decide)
  have hr4 : Room 4 _ := hr.mono (by decide)
  have hr5 : Room 5 _ := hr.mono (by decide)
  have hu := hr.units
  refine ⟨_, Evl.pss_cut (ps_set (i := 1) sc_law.nd rfl (Or.inl rfl) (pe_op op_add pe_int (pe_op op_mod (pe_call G1 hr1 (by rfl) m1 k1 b1 .nil pass0 (pa_cons (pv 0) (pa_cons pe_int pa_nil))) pe_int)))
    (Evl.pss_cut (ps_if (PW.pt (pw_and (pt_cmpR op_eq (pv 1) pe_int (nomark _)) (pw_and1 (pt_cmpR op_gt (pe_op op_mod (pe_op op_fdiv (pe_call G1 hr1 (by rfl) m1 k1 b1 .nil pass0 (pa_cons (pv 0) (pa_cons pe_int pa_nil))) pe_int) pe_int) pe_int (nomark _)))))
      (pss_one (ps_set (i := 1) sc_law.nd rfl (Or.inl rfl) pe_int)) pss_nil)
    (pss_cons (ps_set (i := 2) sc_law.nd rfl (Or.inl rfl) (pe_call G2 hr2 (by rfl) m2 k2 b2 .nil pass0 (pa_cons (pv 0) (pa_cons (pv 1) pa_nil))))
    (Evl.pss_cut (ps_setLc (i := 3) (own := [("_law_row", 8)]) (g := gName 8) (tt := tYes) rfl sc_law.nd rfl rfl (sw_true rfl rfl rfl (by decide +kernel)) (pi_list (pv 2))
        (blkOk_by (N := law7N) (sc := defScope s_law) (by decide +kernel))
        (fun _ _ _ _ _ => pg_name (i := 8) sc_law.nd rfl (Or.inl rfl)) (fun _ _ _ _ _ => pts_nil) (fun _ _ _ _ _ => pe_callTy (T := "list") (call_lof (K := K) rfl) (by rfl) T.list (by decide +kernel) (pa_cons (pv 8) pa_nil)))
    (pss_cons (ps_set (i := 4) sc_law.nd rfl (Or.inr rfl) (pe_call G3 hr (by rfl) m3 k3 b3 .nil pass0 (pa_cons (pv 3) pa_nil)))
    (Evl.pss_cut (ps_set (i := 5) sc_law.nd rfl (Or.inl rfl) (pe_call G4 hr4 (by rfl) m4 k4 b4 .nil pass0 (pa_cons (pe_lc (own := [("_law_row", 8)]) (g := gName 8) (tt := tYes) rfl sc_law.nd (pi_list (pv 2))
        (blkOk_by (N := law7N) (sc := defScope s_law) (by decide +kernel))
        (fun _ _ _ _ _ => pg_name (i := 8) sc_law.nd rfl (Or.inl rfl)) (fun _ _ _ _ _ => pts_nil) (fun _ _ _ _ _ => pe_callTy (T := "list") (call_lof (K := K) rfl) (by rfl) T.list (by decide +kernel) (pa_cons (pv 8) pa_nil))) pa_nil)))
    (pss_cons (ps_if (PW.pt (pw_or (pt_cmpR (op_neD hu) (pv 3) (pv 2) (nomark _)) (pw_or (pt_not (pt_val (pe_callB call_isi (by rfl) T.isI (by decide +kernel) (pa_cons (pv 4) (pa_cons (pe_bltn (v := .ty "tuple") (by rfl) T.tup (by decide +kernel) rfl) pa_nil)))))
        (pw_or (pt_cmpR op_ne (pe_callB call_len_seq (by rfl) T.len PySem.boot_len (pa_cons (pv 4) pa_nil)) pe_int (nomark _)) (pw_or1 (pt_not (pt_val (pe_callB call_isi (by rfl) T.isI (by decide +kernel) (pa_cons (pv 5) (pa_cons (pe_bltn (v := .ty "list") (by rfl) T.list (by decide +kernel) rfl) pa_nil)))))))))) (pss_one (ps_ret pe_bl)) pss_nil)
    (pss_cons (ps_if (pt_cmpR op_eq (pe_ix ix_tup (pv 4) pe_int (fun _ _ => rfl)) pe_str (nomark _))
      (pss_cons (ps_if (PW.pt (pw_or (pt_not (pt_val (pe_call G5 hr2 (by rfl) m5 k5 b5 .nil pass0 (pa_cons (pv 2) (pa_cons (pe_ix ix_tup (pv 4) pe_int (fun _ _ => rfl)) pa_nil)))))
          (pw_or1 (pt_cmpR (op_neD hu) (pe_call G6 hr3 (by rfl) m6 k6 b6 .nil pass0 (pa_cons (pv 2) (pa_cons (pe_ix ix_tup (pv 4) pe_int (fun _ _ => rfl)) pa_nil))) (pe_lst pa_nil) (nomark _))))) (pss_one (ps_ret pe_bl)) pss_nil)
      (pss_cons (ps_setLc (i := 6) (own := [("_law_guest", 9)]) (g := gName 9) (tt := tYes) rfl sc_law.nd rfl rfl (sw_true rfl rfl rfl (by decide +kernel)) (pi_range1 rfl T.rng (pa_cons (pv 1) pa_nil))
          (blkOk_by (N := law7N) (sc := defScope s_law) (by decide +kernel))
          (fun _ _ _ _ _ => pg_name (i := 9) sc_law.nd rfl (Or.inl rfl)) (fun _ _ _ _ _ => pts_nil)
          (fun _ _ _ _ _ => pe_ifExp (pt_cmpR op_isN (pe_ix (ix_lst (K := K) rfl) (pe_ix (ix_tpl (K := K) rfl) (pv 4) pe_int (fun _ _ => rfl)) (pv 9) (fun _ _ => rfl)) pe_non (nomark _)) (pv 9)
            (pe_ix (ix_lst (K := K) rfl) (pe_ix (ix_tpl (K := K) rfl) (pv 4) pe_int (fun _ _ => rfl)) (pv 9) (fun _ _ => rfl))))
      (pss_one (ps_ret (pe_and (pe_call G7 hr4 (by rfl) m7 k7 b7 .nil pass0 (pa_cons (pv 2) (pa_cons (pe_ix ix_tup (pv 4) pe_int (fun _ _ => rfl)) (pa_cons (pv 5) pa_nil))))
        (pe_one (pe_cmpR op_isBl (pe_call G8 hr5 (by rfl) m8 k8 b8 .nil pass0 (pa_cons (pv 3) (pa_cons (pv 6) pa_nil))) pe_bl (nomark _)))))))) pss_nil)
    (pss_cons (ps_if (PW.pt (pw_or (pt_cmpR op_ne (pe_ix ix_tup (pv 4) pe_int (fun _ _ => rfl)) pe_str (nomark _)) (pw_or (pt_not (pt_val (pe_call G9 hr2 (by rfl) m9 k9 b9 .nil pass0 (pa_cons (pe_ix ix_tup (pv 4) pe_int (fun _ _ => rfl)) (pa_cons (pv 1) pa_nil)))))
        (pw_or1 (pt_not (pt_val (pe_call G10 hr3 (by rfl) m10 k10 b10 .nil pass0 (pa_cons (pv 2) (pa_cons (pe_ix ix_tup (pv 4) pe_int (fun _ _ => rfl)) pa_nil))))))))) (pss_one (ps_ret pe_bl)) pss_nil)
    (pss_cons (ps_for PassesOwn.never rfl (pi_list (pv 5)) (pg_name (i := 7) sc_law.nd rfl (Or.inl rfl))
      (pss_one (ps_if (PW.pt (pw_or (pt_not (pt_val (pe_call G5 hr2 (by rfl) m5 k5 b5 .nil pass0 (pa_cons (pv 2) (pa_cons (pv 7) pa_nil)))))
          (pw_or1 (pt_cmpR (op_eqD hu) (pe_call G6 hr3 (by rfl) m6 k6 b6 .nil pass0 (pa_cons (pv 2) (pa_cons (pv 7) pa_nil))) (pe_lst pa_nil) (nomark _))))) (pss_one (ps_ret pe_bl)) pss_nil)))
    (pss_one (ps_ret (pe_cmpR op_gt (pe_callB call_len_seq (by rfl) T.len PySem.boot_len (pa_cons (pe_lc (own := [("_law_ring", 10)]) (g := gName 10) rfl sc_law.nd (pi_list (pe_call G11 hr1 (by rfl) m11 k11 b11 .nil pass0 (pa_cons (pe_ix ix_tup (pv 4) pe_int (fun _ _ => rfl)) pa_nil)))
        (blkOk_by (N := law7N) (sc := defScope s_law) (by decide +kernel))
        (fun _ _ _ _ _ => pg_name (i := 10) sc_law.nd rfl (Or.inl rfl)) (fun _ _ _ _ _ => pts_one (PW.pt (pw_and (pt_cmpR op_gt (pe_callB (len_lst (K := K) rfl) (by rfl) T.len PySem.boot_len (pa_cons (pv 10) pa_nil)) pe_int (nomark _))
          (pw_and1 (pt_cmpR op_eq (pe_op op_mod (pe_callB (len_lst (K := K) rfl) (by rfl) T.len PySem.boot_len (pa_cons (pv 10) pa_nil)) pe_int) pe_int (nomark _)))))) (fun _ _ _ _ _ => pv 10)) pa_nil)) pe_int (nomark _))))))))))))), ?_⟩
  refine ⟨fun σ H' => H' = H ∧ ∃ m : Nat, 1 ≤ m ∧ m ≤ 6 ∧ σ = [some (.ref a), some (.int m), none, none, none, none, none, none, none, none, none], ?_, ?_⟩
  · refine ⟨_, rfl, a, cs, 0, rfl, hS, by decide, fun c => ?_⟩
    refine ⟨_, _, rfl, rfl, (by show (0 : Int) < 6; decide), _, _, rfl, rfl, ?_⟩
    obtain ⟨n, hn⟩ : ∃ n : Nat, 1 + c % 6 = (n : Int) := ⟨(1 + c % 6).toNat, by omega⟩
    exact ⟨rfl, n, by omega, by omega, by rw [← hn]; rfl⟩
  rintro σ H' ⟨rfl, m0, hm1, hm6, rfl⟩
  refine ⟨fun σ H'' => H'' = H' ∧ ∃ m : Nat, 1 ≤ m ∧ m ≤ 6 ∧ σ = [some (.ref a), some (.int m), none, none, none, none, none, none, none, none, none], ?_, ?_⟩
  · refine ⟨_, rfl, rfl, _, rfl, ?_⟩
    refine ite2 (fun c1 => ?_) (fun c1 => ?_)
    · refine ⟨_, rfl, a, cs, 0, rfl, hS, by decide, fun c => ?_⟩
      refine ⟨_, _, rfl, rfl, ⟨by decide, by decide⟩, _, _, rfl, rfl, (by show (0 : Int) < 3; decide), _, _, rfl, rfl, _, rfl, ?_⟩
      refine ite2 (fun c2 => ?_) (fun c2 => ?_)
      · exact ⟨rfl, 4, by omega, by omega, rfl⟩
      · exact ⟨rfl, m0, hm1, hm6, rfl⟩
    · exact ⟨rfl, m0, hm1, hm6, rfl⟩
  rintro σ H'' ⟨rfl, m, hm1, hm6, rfl⟩
  refine ⟨_, rfl, _, rfl, a, cs, m, rfl, hS, hm1, hm6, fun H1 wl ws e1 hwl hT1 hG hl => ?_⟩
  subst hl
  obtain ⟨as, t1, t2, t3⟩ := id hT1
  refine ⟨fun σ H2 => ∃ hd, H1 hd = none ∧ Built H1 hd (ws.map fun r => r.map V.int) H2 ∧ σ = [some (.ref a), some (.int ws.length), some (.ref wl), some (.ref hd), none, none, none, none, none, none, none], ?_, ?_⟩
  · refine ⟨_, rfl, wl, rfl, ⟨_, t1⟩, fun L hL => ?_⟩
    refine lc_list (K := K) (a := wl) (xs := as.map V.ref) (fun i H' => Built H1 L ((ws.take i).map fun r => r.map V.int) H') (built_start hL) (fun i H' _ h => h.1.seq t1) ?_ ?_
    · rintro i x HX hx hBX
      obtain ⟨b, hb, rfl⟩ := map_ref_get hx
      have hi : i < ws.length := by rw [← t2]; exact (List.getElem?_eq_some_iff.mp hb).1
      obtain ⟨b', hb', hs⟩ := t3 i ws[i] (List.getElem?_eq_getElem hi)
      rw [hb] at hb'
      cases hb'
      refine ⟨rfl, _, rfl, b, _, rfl, .inl (hBX.1.seq hs), fun l hl => ?_⟩
      obtain ⟨acc, z1, z2, z3⟩ := built_step (f := HO.lst) (r := ws[i].map V.int) hL hBX (same_new hl _) hl upd_same
      refine ⟨acc, z1, ?_, ?_⟩
      · rw [z2, List.length_map, List.length_take]
        exact small1000 (by omega)
      · rw [take_one (List.getElem?_eq_getElem hi), List.map_append]
        exact z3
    · rintro H2 hB
      rw [List.length_map, t2, List.take_length] at hB
      exact ⟨L, hL, hB, rfl⟩
  rintro σ H2 ⟨hd, hhd, hB2, rfl⟩
  have hH2 : Tab K H2 hd ws := hB2.tab.t
  have e2 := hB2.1
  refine ⟨_, rfl, hd, ws, rfl, hH2, hG, fun H3 fp fm1 e3 hfp hfm nfp hdl => ?_⟩
  have e13 := e2.trans e3
  refine ⟨fun σ H5 => ∃ so H4, Same H3 H5 ∧ H4 so = none ∧ BuiltF fm H4 so (allTwos ws) H5 ∧ σ = [some (.ref a), some (.int ws.length), some (.ref wl), some (.ref hd), some (.ref fp), some (.ref so), none, none, none, none, none], ?_, ?_⟩
  · refine ⟨_, rfl, wl, rfl, ⟨_, e13.seq t1⟩, fun L hL => ?_⟩
    refine lc_list (K := K) (a := wl) (xs := as.map V.ref) (fun i H' => Built H3 L ((ws.take i).map fun r => r.map V.int) H') (built_start hL) (fun i H' _ h => h.1.seq (e13.seq t1)) ?_ ?_
    · rintro i x HX hx hBX
      obtain ⟨b, hb, rfl⟩ := map_ref_get hx
      have hi : i < ws.length := by rw [← t2]; exact (List.getElem?_eq_some_iff.mp hb).1
      obtain ⟨b', hb', hs⟩ := t3 i ws[i] (List.getElem?_eq_getElem hi)
      rw [hb] at hb'
      cases hb'
      refine ⟨rfl, _, rfl, b, _, rfl, .inl (hBX.1.seq (e13.seq hs)), fun l hl => ?_⟩
      obtain ⟨acc, z1, z2, z3⟩ := built_step (f := HO.lst) (r := ws[i].map V.int) hL hBX (same_new hl _) hl upd_same
      refine ⟨acc, z1, ?_, ?_⟩
      · rw [z2, List.length_map, List.length_take]
        exact small1000 (by omega)
      · rw [take_one (List.getElem?_eq_getElem hi), List.map_append]
        exact z3
    · rintro H4 hB
      rw [List.length_map, t2, List.take_length] at hB
      exact ⟨L, ws, rfl, hB.tab.t, hG, fun H5 so hso hB5 => ⟨so, H4, hB.1.trans hB5.1, hso, hB5, rfl⟩⟩
  rintro σ H5 ⟨so, H4, e35, hso, hB5, rfl⟩
  have e15 := e13.trans e35
  have hT5 := hT1.same e15
  have hH5 := hH2.same (e3.trans e35)
  have hSo : TabV K H5 so ((allTwos ws).map fun m => m.map ov) := hB5.tabM
  obtain ⟨ss, s1, s2, s3⟩ := id hSo
  rw [List.length_map] at s2
  obtain ⟨tv, htv, hc2⟩ : ∃ tv : List V, H5 fp = some (.tup tv) ∧ tv.length = 2 := by
    rcases hdl with ⟨ms, l, _, h, _⟩ | ⟨_, ns, h, _⟩
    · exact ⟨_, e35 _ _ h, rfl⟩
    · exact ⟨_, e35 _ _ h, rfl⟩
  refine ⟨_, rfl, _, rfl, _, _, hH5.dp, hT5.dp, dLL_shaped _, dLL_shaped _, _, rfl, ?_⟩
  rw [dLL_refl]
  refine iteF ?_
  refine ⟨_, rfl, _, _, _, _, _, rfl, .ty _, .base (.tup htv), kit_tt7, _, rfl, iteF ?_⟩
  refine ⟨_, rfl, fp, _, rfl, .inr (SqT.of htv), rfl, _, rfl, ?_⟩
  rw [hc2]
  refine iteF ?_
  refine ⟨_, rfl, _, _, _, _, _, rfl, .ty _, ty_list s1, kit_ll, _, rfl, iteF ?_⟩
  clear htv hc2 tv
  rcases hdl with ⟨ms, l, hac, hp3, hm3⟩ | ⟨hac, ns, hp3, hm3, hA, hHo, hOd⟩
  · -- calm mates
    have hp5 := e35 _ _ hp3
    have hm5 := e35 _ _ hm3
    have i0 : atI [V.str "twos", V.ref fm1] (0 : Int) = some (.str "twos") := atI_nat (j := 0) rfl
    have i1 : atI [V.str "twos", V.ref fm1] (1 : Int) = some (.ref fm1) := atI_nat (j := 1) rfl
    have hin : ms ∈ allCalm ws := by rw [hac]; exact List.mem_cons_self ..
    obtain ⟨hO, hC⟩ := calm_out hin
    have hw := (List.mem_filter.mp hin).2
    have hml := hO.len
    refine ⟨_, rfl, fp, _, _, _, rfl, rfl, SqT.of hp5, i0, rfl, _, rfl, ?_⟩
    rw [decide_eq_true (rfl : V.str "twos" = V.str "twos")]
    refine iteT ?_
    refine ⟨_, rfl, _, rfl, fp, _, _, _, rfl, rfl, SqT.of hp5, i1, wl, fm1, ws, ms, rfl, hT5, hG.hi, SqL.of hm5, hO, _, rfl, iteF ?_⟩
    refine ⟨_, rfl, _, rfl, fp, _, _, _, rfl, rfl, SqT.of hp5, i1, wl, fm1, ws, ms, rfl, hT5, hG, SqL.of hm5, hO, fun H6 r hr' hR => ?_⟩
    refine ⟨(by show 0 ≤ sizeLine; decide), fun e he => ?_⟩
    have s4 : Same H6 (upd H6 e (.lst [])) := same_new he _
    have e57 := hR.1.trans s4
    refine ⟨dPs (wildAll ws ms), dPs [], (hR.prs.same s4).dp, .lst (SqL.of upd_same) .nil, dPs_shaped _, dPs_shaped _, _, rfl, ?_⟩
    rw [dPs_nil, hw]
    refine iteF ?_
    generalize upd H6 e (.lst []) = H7 at e57
    have hp7 := e57 _ _ hp5
    have hm7 := e57 _ _ hm5
    refine ⟨_, rfl, (ws.length : Int), rfl, by omega, by omega, fun D hD => ?_⟩
    have en : ((ws.length : Nat) : Int).toNat = ws.length := by omega
    refine lc_range (lo := 0) (n := ((ws.length : Nat) : Int).toNat) (fun i H' => Same H7 H' ∧ H' D = some (.lst ((byN i fun a => (mt ms (a : Int)).getD (a : Int)).map V.int))) ⟨same_new hD _, upd_same⟩ ?_ ?_
    · rintro i HX hin' ⟨eX, hat⟩
      have hi : i < ws.length := by rw [en] at hin'; exact hin'
      have ei : (0 : Int) + (i : Int) = (i : Int) := Int.zero_add _
      rw [ei]
      have hpX := eX _ _ hp7
      have hmX := eX _ _ hm7
      have gt := mt_at (ms := ms) (i := (i : Int)) (by omega) (by omega)
      have fin : ∀ v : Int, v = (mt ms (i : Int)).getD (i : Int) → ∃ acc, HX D = some (.lst acc) ∧ acc.length < sizeLine ∧ Same H7 (upd HX D (.lst (acc ++ [V.int v]))) ∧ upd HX D (.lst (acc ++ [V.int v])) D = some (.lst ((byN (i + 1) fun a => (mt ms (a : Int)).getD (a : Int)).map V.int)) := fun v hv => by
        refine ⟨_, hat, ?_, same_put eX hD _, ?_⟩
        · rw [List.length_map, byN_len]
          exact small1000 (by omega)
        · rw [upd_same, byN_succ, List.map_append, hv]
          rfl
      refine ⟨rfl, ?_⟩
      refine ⟨_, rfl, fp, _, _, _, rfl, rfl, SqT.of hpX, i1, _, rfl, fm1, _, _, _, rfl, rfl, SqL.of hmX, gt, rfl, ?_⟩
      rw [ov_non]
      cases hmi : mt ms (i : Int) with
      | none => exact ⟨_, rfl, iteT ⟨_, rfl, fin (i : Int) (by rw [hmi]; rfl)⟩⟩
      | some m =>
        rw [hmi] at gt
        exact ⟨_, rfl, iteF ⟨_, rfl, fp, _, _, _, rfl, rfl, SqT.of hpX, i1, _, rfl, fm1, _, _, _, rfl, rfl, SqL.of hmX, gt, fin m (by rw [hmi]; rfl)⟩⟩
    · rintro H8 ⟨e8, hat⟩
      have e58 := e57.trans e8
      have ep : (byN ((ws.length : Nat) : Int).toNat fun a => (mt ms (a : Int)).getD (a : Int)) = partyL ms := by
        unfold partyL
        rw [en, hml]
      rw [ep] at hat
      obtain ⟨hA, hHo⟩ := party_hold hG hO hC
      refine ⟨_, rfl, _, rfl, fp, _, _, _, rfl, rfl, SqT.of (e8 _ _ hp7), i1, _, rfl, wl, fm1, so, ws, ms, l, rfl, hT5.same e58, hG, SqL.of (e8 _ _ hm7), hac, hSo.same e58, fun H9 e9 => ⟨_, rfl, iteT ?_⟩⟩
      refine ⟨_, rfl, _, rfl, hd, D, ws, partyL ms, rfl, hH5.same (e58.trans e9), hG, SqL.of (e9 _ _ hat), hA, fun H10 t e10 ht => ?_⟩
      refine ⟨t, true, rfl, rfl, ?_⟩
      rw [ht.mpr hHo]
      exact q _
  · -- parties
    have hp5 := e35 _ _ hp3
    have hm5 := e35 _ _ hm3
    have i0 : atI [V.str "parties", V.ref fm1] (0 : Int) = some (.str "parties") := atI_nat (j := 0) rfl
    have i1 : atI [V.str "parties", V.ref fm1] (1 : Int) = some (.ref fm1) := atI_nat (j := 1) rfl
    have ne : decide (V.str "parties" = V.str "twos") = false := by decide +kernel
    refine ⟨_, rfl, fp, _, _, _, rfl, rfl, SqT.of hp5, i0, rfl, _, rfl, ?_⟩
    rw [ne]
    refine iteF ?_
    refine ⟨_, rfl, fp, _, _, _, rfl, rfl, SqT.of hp5, i0, rfl, _, rfl, ?_⟩
    rw [decide_eq_true (rfl : V.str "parties" = V.str "parties")]
    refine iteF ?_
    refine ⟨_, rfl, fp, _, _, _, rfl, rfl, SqT.of hp5, i1, _, rfl, fm1, ns, ws.length, rfl, SqL.of hm5, hA, hm6, fun H6 e6 => ⟨_, rfl, iteF ?_⟩⟩
    have hp6 := e6 _ _ hp5
    have hm6' := e6 _ _ hm5
    refine ⟨_, rfl, _, rfl, fp, _, _, _, rfl, rfl, SqT.of hp6, i1, wl, fm1, ws, ns, rfl, hT5.same e6, hG, SqL.of hm6', hA, fun t ht => ⟨_, rfl, ?_⟩⟩
    rw [ht.mpr hHo]
    refine iteF ?_
    refine ⟨_, rfl, so, rfl, ⟨_, e6.seq s1⟩, ?_⟩
    refine for_list (K := K) (a := so) (xs := ss.map V.ref) (fun i σ H' => Same H6 H' ∧ ∃ z, σ = [some (.ref a), some (.int ws.length), some (.ref wl), some (.ref hd), some (.ref fp), some (.ref so), none, z, none, none, none]) ⟨Same.refl H6, none, rfl⟩ (fun i σ H' _ h => h.1.seq (e6.seq s1)) ?_ ?_
    · rintro i x σ H7 hx ⟨e7, z, rfl⟩
      have e67 := e6.trans e7
      obtain ⟨p, hp, rfl⟩ := map_ref_get hx
      have hi : i < (allTwos ws).length := by rw [← s2]; exact (List.getElem?_eq_some_iff.mp hp).1
      obtain ⟨p', hp', hps⟩ := s3 i ((allTwos ws)[i].map ov) (by rw [List.getElem?_map, List.getElem?_eq_getElem hi]; rfl)
      rw [hp] at hp'
      cases hp'
      have hmem := List.getElem_mem hi
      have hOk := stage_ok ws ws.length (Nat.le_refl _) _ hmem
      have hmem : (allTwos ws)[i] ∈ allTwos ws := hmem
      generalize (allTwos ws)[i] = m at hps hmem hOk
      refine ⟨_, rfl, _, rfl, wl, p, ws, m, rfl, hT5.same e67, hG.hi, e67.seq hps, hOk, _, rfl, iteF ?_⟩
      refine ⟨_, rfl, _, rfl, wl, p, ws, m, rfl, hT5.same e67, hG, e67.seq hps, hOk, fun H8 r hr' hR => ?_⟩
      refine ⟨(by show 0 ≤ sizeLine; decide), fun e he => ?_⟩
      have s4 : Same H8 (upd H8 e (.lst [])) := same_new he _
      refine ⟨dPs (wildAll ws m), dPs [], (hR.prs.same s4).dp, .lst (SqL.of upd_same) .nil, dPs_shaped _, dPs_shaped _, _, rfl, ?_⟩
      rw [dPs_nil]
      have hw : (wildAll ws m).isEmpty = false := by
        cases hh : (wildAll ws m).isEmpty with
        | false => rfl
        | true =>
          have : m ∈ allCalm ws := List.mem_filter.mpr ⟨hmem, hh⟩
          rw [hac] at this
          cases this
      rw [hw]
      exact iteF ⟨(e7.trans hR.1).trans s4, _, rfl⟩
    · rintro σ H7 ⟨e7, z, rfl⟩
      have e67 := e6.trans e7
      refine ⟨_, rfl, fp, _, _, _, rfl, rfl, SqT.of (e7 _ _ hp6), i1, fm1, ns, ws.length, rfl, SqL.of (e7 _ _ hm6'), hA, hm6, fun H8 pr hpr hB8 => ?_⟩
      obtain ⟨_, ds, d1, d2, d3⟩ := id hB8
      rw [List.length_map] at d2
      have hrl := ringsUp_len ns ns.length
      have hrl : (ringsL ns).length ≤ ns.length := hrl
      have hnl := hA.len
      refine ⟨pr, rfl, ⟨_, SqL.of d1⟩, fun Do hDo => ?_⟩
      refine lc_list (K := K) (a := pr) (xs := ds.map V.ref) (fun i H' => ∃ acc : List V, H' = upd H8 Do (.lst acc) ∧ acc.length = (((ringsL ns).take i).filter oddR).length)
        ⟨[], rfl, by rw [List.take_zero]; rfl⟩ (fun i H' _ z => by obtain ⟨acc, z, _⟩ := z; rw [z]; exact (same_new hDo _).seq (SqL.of d1)) ?_ ?_
      · rintro i x H' hx ⟨acc, rfl, hacc⟩
        obtain ⟨b, hb, rfl⟩ := map_ref_get hx
        have hi : i < ds.length := (List.getElem?_eq_some_iff.mp hb).1
        obtain ⟨r, hr'⟩ : ∃ r, (ringsL ns)[i]? = some r := ⟨_, List.getElem?_eq_getElem (by rw [d2] at hi; exact hi)⟩
        obtain ⟨b', hb', hs, _⟩ := d3 i (r.map V.int) (by rw [List.getElem?_map, hr']; rfl)
        rw [hb] at hb'
        cases hb'
        have hs' := (same_new hDo (.lst acc)).seq (SqL.of (K := K) hs)
        have hfl : (((ringsL ns).take i).filter oddR).length ≤ i := Nat.le_trans (List.length_filter_le _ _) (by rw [List.length_take]; omega)
        rw [take_one hr', List.filter_append]
        have hone : [r].filter oddR = if oddR r = true then [r] else [] := by
          rw [List.filter_cons]
          split <;> rfl
        rw [hone]
        refine ⟨rfl, ?_⟩
        refine ⟨_, rfl, b, _, rfl, .inl hs', _, _, rfl, rfl, _, rfl, ?_⟩
        rw [List.length_map]
        by_cases c1 : ((r.length : Nat) : Int) > 1
        · rw [decide_eq_true c1]
          refine iteT ?_
          refine ⟨_, rfl, b, _, rfl, .inl hs', _, _, rfl, rfl, (by show (0 : Int) < 2; decide), rfl, _, rfl, ?_⟩
          rw [List.length_map, int_dec]
          by_cases c2 : ((r.length : Nat) : Int) % 2 = 1
          · have eo : oddR r = true := by unfold oddR; rw [decide_eq_true c1, decide_eq_true c2]; rfl
            rw [decide_eq_true c2, if_pos eo]
            refine ⟨_, rfl, acc, upd_same, by rw [hacc]; exact small1000 (by omega), _, by rw [upd_upd], ?_⟩
            rw [List.length_append, List.length_append, hacc]
            rfl
          · have eo : ¬ oddR r = true := by unfold oddR; rw [decide_eq_false c2, Bool.and_false]; exact Bool.false_ne_true
            rw [decide_eq_false c2, if_neg eo, List.append_nil]
            exact ⟨acc, rfl, hacc⟩
        · have eo : ¬ oddR r = true := by unfold oddR; rw [decide_eq_false c1, Bool.false_and]; exact Bool.false_ne_true
          rw [decide_eq_false c1, if_neg eo, List.append_nil]
          exact ⟨acc, rfl, hacc⟩
      rintro H11 ⟨acc, rfl, hacc⟩
      rw [List.take_of_length_le (by rw [List.length_map, d2]; exact Nat.le_refl _)] at hacc
      refine ⟨Do, _, rfl, .inl (SqL.of upd_same), _, _, rfl, rfl, ?_⟩
      have hev : (ringsL ns).filter oddR ≠ [] := fun z => by
        have ev := hA.odd_none.mp z
        obtain ⟨x, hx, la, p1, p2⟩ := hA.odd_at hOd
        have := ev x hx la
        omega
      have pos : 0 < acc.length := by
        rw [hacc]
        exact List.length_pos_iff.mpr hev
      show Q (.bl (decide (((acc.length : Nat) : Int) > 0))) _
      rw [decide_eq_true (by omega)]
      exact q _
end
end B2

namespace B2
open PySem L2
theorem all_mk {l : PySem.W.OpenLaw} {w : World} {K : PySem.W.Frag} {h : Heap} {mg : Str → Option Value} {fa : Addr} (X : K.In h) (G : h.Ns mainGlobals mg) (hfa : mg "law" = some (.ref fa))
    {f1 f2 f3 f4 f5 f6 f7 f8 f9 f10 f11 f12 f13 f14 f15 f16 f17 f18 f19 f20 f21 f22 f23 f24 f25 f26 f27 f28 f29 f30 f31 f32 : Addr} {od1 an1 od2 an2 od3 an3 od4 an4 od5 an5 od6 an6 od7 an7 od8 an8 od9 an9 od10 an10 od11 an11 od12 an12 od13 an13 od14 an14 od15 an15 od16 an16 od17 an17 od18 an18 od19 an19 od20 an20 od21 an21 od22 an22 od23 an23 od24 an24 od25 an25 od26 an26 od27 an27 od28 an28 od29 an29 od30 an30 od31 an31 od32 an32 : Option Addr} {sl1 sl2 sl3 sl4 sl5 sl6 sl7 sl8 sl9 sl10 sl11 sl12 sl13 sl14 sl15 sl16 sl17 sl18 sl19 sl20 sl21 sl22 sl23 sl24 sl25 sl26 sl27 sl28 sl29 sl30 sl31 sl32 : Array (Option Value)} {oc1 kV1 dc1 pm1 cd1 ct1 oc2 kV2 dc2 pm2 cd2 ct2 oc3 kV3 dc3 pm3 cd3 ct3 oc4 kV4 dc4 pm4 cd4 ct4 oc5 kV5 dc5 pm5 cd5 ct5 oc6 kV6 dc6 pm6 cd6 ct6 oc7 kV7 dc7 pm7 cd7 ct7 oc8 kV8 dc8 pm8 cd8 ct8 oc9 kV9 dc9 pm9 cd9 ct9 oc10 kV10 dc10 pm10 cd10 ct10 oc11 kV11 dc11 pm11 cd11 ct11 oc12 kV12 dc12 pm12 cd12 ct12 oc13 kV13 dc13 pm13 cd13 ct13 oc14 kV14 dc14 pm14 cd14 ct14 oc15 kV15 dc15 pm15 cd15 ct15 oc16 kV16 dc16 pm16 cd16 ct16 oc17 kV17 dc17 pm17 cd17 ct17 oc18 kV18 dc18 pm18 cd18 ct18 oc19 kV19 dc19 pm19 cd19 ct19 oc20 kV20 dc20 pm20 cd20 ct20 oc21 kV21 dc21 pm21 cd21 ct21 oc22 kV22 dc22 pm22 cd22 ct22 oc23 kV23 dc23 pm23 cd23 ct23 oc24 kV24 dc24 pm24 cd24 ct24 oc25 kV25 dc25 pm25 cd25 ct25 oc26 kV26 dc26 pm26 cd26 ct26 oc27 kV27 dc27 pm27 cd27 ct27 oc28 kV28 dc28 pm28 cd28 ct28 oc29 kV29 dc29 pm29 cd29 ct29 oc30 kV30 dc30 pm30 cd30 ct30 oc31 kV31 dc31 pm31 cd31 ct31 oc32 kV32 dc32 pm32 cd32 ct32 : Value}
    (a1 : PySem.W.nsIn K mainGlobals "is_guest" = some (some (.ref f1))) (l1 : K.lookup f1 = some ⟨oc1, od1, .func (PySem.W.fnOf "is_guest" "is_guest" (defArgs s_is_guest) (defBody s_is_guest) (defScope s_is_guest) .none kV1 dc1 pm1 an1 cd1 ct1), sl1⟩) (c1 : PySem.W.codeIn K cd1 "is_guest" = true) (k1 : PySem.W.keepIn K (.ref f1) = true)
    (a2 : PySem.W.nsIn K mainGlobals "need_row" = some (some (.ref f2))) (l2 : K.lookup f2 = some ⟨oc2, od2, .func (PySem.W.fnOf "need_row" "need_row" (defArgs s_need_row) (defBody s_need_row) (defScope s_need_row) .none kV2 dc2 pm2 an2 cd2 ct2), sl2⟩) (c2 : PySem.W.codeIn K cd2 "need_row" = true) (k2 : PySem.W.keepIn K (.ref f2) = true)
    (a3 : PySem.W.nsIn K mainGlobals "need_wishes" = some (some (.ref f3))) (l3 : K.lookup f3 = some ⟨oc3, od3, .func (PySem.W.fnOf "need_wishes" "need_wishes" (defArgs s_need_wishes) (defBody s_need_wishes) (defScope s_need_wishes) .none kV3 dc3 pm3 an3 cd3 ct3), sl3⟩) (c3 : PySem.W.codeIn K cd3 "need_wishes" = true) (k3 : PySem.W.keepIn K (.ref f3) = true)
    (a4 : PySem.W.nsIn K mainGlobals "in_both" = some (some (.ref f4))) (l4 : K.lookup f4 = some ⟨oc4, od4, .func (PySem.W.fnOf "in_both" "in_both" (defArgs s_in_both) (defBody s_in_both) (defScope s_in_both) .none kV4 dc4 pm4 an4 cd4 ct4), sl4⟩) (c4 : PySem.W.codeIn K cd4 "in_both" = true) (k4 : PySem.W.keepIn K (.ref f4) = true)
    (a5 : PySem.W.nsIn K mainGlobals "is_ahead" = some (some (.ref f5))) (l5 : K.lookup f5 = some ⟨oc5, od5, .func (PySem.W.fnOf "is_ahead" "is_ahead" (defArgs s_is_ahead) (defBody s_is_ahead) (defScope s_is_ahead) .none kV5 dc5 pm5 an5 cd5 ct5), sl5⟩) (c5 : PySem.W.codeIn K cd5 "is_ahead" = true) (k5 : PySem.W.keepIn K (.ref f5) = true)
    (a6 : PySem.W.nsIn K mainGlobals "restless_pairs" = some (some (.ref f6))) (l6 : K.lookup f6 = some ⟨oc6, od6, .func (PySem.W.fnOf "restless_pairs" "restless_pairs" (defArgs s_restless_pairs) (defBody s_restless_pairs) (defScope s_restless_pairs) .none kV6 dc6 pm6 an6 cd6 ct6), sl6⟩) (c6 : PySem.W.codeIn K cd6 "restless_pairs" = true) (k6 : PySem.W.keepIn K (.ref f6) = true)
    (a7 : PySem.W.nsIn K mainGlobals "joined" = some (some (.ref f7))) (l7 : K.lookup f7 = some ⟨oc7, od7, .func (PySem.W.fnOf "joined" "joined" (defArgs s_joined) (defBody s_joined) (defScope s_joined) .none kV7 dc7 pm7 an7 cd7 ct7), sl7⟩) (c7 : PySem.W.codeIn K cd7 "joined" = true) (k7 : PySem.W.keepIn K (.ref f7) = true)
    (a8 : PySem.W.nsIn K mainGlobals "settled" = some (some (.ref f8))) (l8 : K.lookup f8 = some ⟨oc8, od8, .func (PySem.W.fnOf "settled" "settled" (defArgs s_settled) (defBody s_settled) (defScope s_settled) .none kV8 dc8 pm8 an8 cd8 ct8), sl8⟩) (c8 : PySem.W.codeIn K cd8 "settled" = true) (k8 : PySem.W.keepIn K (.ref f8) = true)
    (a9 : PySem.W.nsIn K mainGlobals "all_twos" = some (some (.ref f9))) (l9 : K.lookup f9 = some ⟨oc9, od9, .func (PySem.W.fnOf "all_twos" "all_twos" (defArgs s_all_twos) (defBody s_all_twos) (defScope s_all_twos) .none kV9 dc9 pm9 an9 cd9 ct9), sl9⟩) (c9 : PySem.W.codeIn K cd9 "all_twos" = true) (k9 : PySem.W.keepIn K (.ref f9) = true)
    (a10 : PySem.W.nsIn K mainGlobals "all_calm" = some (some (.ref f10))) (l10 : K.lookup f10 = some ⟨oc10, od10, .func (PySem.W.fnOf "all_calm" "all_calm" (defArgs s_all_calm) (defBody s_all_calm) (defScope s_all_calm) .none kV10 dc10 pm10 an10 cd10 ct10), sl10⟩) (c10 : PySem.W.codeIn K cd10 "all_calm" = true) (k10 : PySem.W.keepIn K (.ref f10) = true)
    (a11 : PySem.W.nsIn K mainGlobals "need_parties" = some (some (.ref f11))) (l11 : K.lookup f11 = some ⟨oc11, od11, .func (PySem.W.fnOf "need_parties" "need_parties" (defArgs s_need_parties) (defBody s_need_parties) (defScope s_need_parties) .none kV11 dc11 pm11 an11 cd11 ct11), sl11⟩) (c11 : PySem.W.codeIn K cd11 "need_parties" = true) (k11 : PySem.W.keepIn K (.ref f11) = true)
    (a12 : PySem.W.nsIn K mainGlobals "ones_ahead" = some (some (.ref f12))) (l12 : K.lookup f12 = some ⟨oc12, od12, .func (PySem.W.fnOf "ones_ahead" "ones_ahead" (defArgs s_ones_ahead) (defBody s_ones_ahead) (defScope s_ones_ahead) .none kV12 dc12 pm12 an12 cd12 ct12), sl12⟩) (c12 : PySem.W.codeIn K cd12 "ones_ahead" = true) (k12 : PySem.W.keepIn K (.ref f12) = true)
    (a13 : PySem.W.nsIn K mainGlobals "suit_their_next" = some (some (.ref f13))) (l13 : K.lookup f13 = some ⟨oc13, od13, .func (PySem.W.fnOf "suit_their_next" "suit_their_next" (defArgs s_suit_their_next) (defBody s_suit_their_next) (defScope s_suit_their_next) .none kV13 dc13 pm13 an13 cd13 ct13), sl13⟩) (c13 : PySem.W.codeIn K cd13 "suit_their_next" = true) (k13 : PySem.W.keepIn K (.ref f13) = true)
    (a14 : PySem.W.nsIn K mainGlobals "look_onward" = some (some (.ref f14))) (l14 : K.lookup f14 = some ⟨oc14, od14, .func (PySem.W.fnOf "look_onward" "look_onward" (defArgs s_look_onward) (defBody s_look_onward) (defScope s_look_onward) .none kV14 dc14 pm14 an14 cd14 ct14), sl14⟩) (c14 : PySem.W.codeIn K cd14 "look_onward" = true) (k14 : PySem.W.keepIn K (.ref f14) = true)
    (a15 : PySem.W.nsIn K mainGlobals "parties_hold" = some (some (.ref f15))) (l15 : K.lookup f15 = some ⟨oc15, od15, .func (PySem.W.fnOf "parties_hold" "parties_hold" (defArgs s_parties_hold) (defBody s_parties_hold) (defScope s_parties_hold) .none kV15 dc15 pm15 an15 cd15 ct15), sl15⟩) (c15 : PySem.W.codeIn K cd15 "parties_hold" = true) (k15 : PySem.W.keepIn K (.ref f15) = true)
    (a16 : PySem.W.nsIn K mainGlobals "holds" = some (some (.ref f16))) (l16 : K.lookup f16 = some ⟨oc16, od16, .func (PySem.W.fnOf "holds" "holds" (defArgs s_holds) (defBody s_holds) (defScope s_holds) .none kV16 dc16 pm16 an16 cd16 ct16), sl16⟩) (c16 : PySem.W.codeIn K cd16 "holds" = true) (k16 : PySem.W.keepIn K (.ref f16) = true)
    (a17 : PySem.W.nsIn K mainGlobals "first_parties" = some (some (.ref f17))) (l17 : K.lookup f17 = some ⟨oc17, od17, .func (PySem.W.fnOf "first_parties" "first_parties" (defArgs s_first_parties) (defBody s_first_parties) (defScope s_first_parties) .none kV17 dc17 pm17 an17 cd17 ct17), sl17⟩) (c17 : PySem.W.codeIn K cd17 "first_parties" = true) (k17 : PySem.W.keepIn K (.ref f17) = true)
    (a18 : PySem.W.nsIn K mainGlobals "dealt" = some (some (.ref f18))) (l18 : K.lookup f18 = some ⟨oc18, od18, .func (PySem.W.fnOf "dealt" "dealt" (defArgs s_dealt) (defBody s_dealt) (defScope s_dealt) .none kV18 dc18 pm18 an18 cd18 ct18), sl18⟩) (c18 : PySem.W.codeIn K cd18 "dealt" = true) (k18 : PySem.W.keepIn K (.ref f18) = true)
    (a19 : PySem.W.nsIn K mainGlobals "_law_cell_at" = some (some (.ref f19))) (l19 : K.lookup f19 = some ⟨oc19, od19, .func (PySem.W.fnOf "_law_cell_at" "_law_cell_at" (defArgs s_cell_at) (defBody s_cell_at) (defScope s_cell_at) .none kV19 dc19 pm19 an19 cd19 ct19), sl19⟩) (c19 : PySem.W.codeIn K cd19 "_law_cell_at" = true) (k19 : PySem.W.keepIn K (.ref f19) = true)
    (a20 : PySem.W.nsIn K mainGlobals "_law_row_by" = some (some (.ref f20))) (l20 : K.lookup f20 = some ⟨oc20, od20, .func (PySem.W.fnOf "_law_row_by" "_law_row_by" (defArgs s_row_by) (defBody s_row_by) (defScope s_row_by) .none kV20 dc20 pm20 an20 cd20 ct20), sl20⟩) (c20 : PySem.W.codeIn K cd20 "_law_row_by" = true) (k20 : PySem.W.keepIn K (.ref f20) = true)
    (a21 : PySem.W.nsIn K mainGlobals "_law_wishes_by" = some (some (.ref f21))) (l21 : K.lookup f21 = some ⟨oc21, od21, .func (PySem.W.fnOf "_law_wishes_by" "_law_wishes_by" (defArgs s_wishes_by) (defBody s_wishes_by) (defScope s_wishes_by) .none kV21 dc21 pm21 an21 cd21 ct21), sl21⟩) (c21 : PySem.W.codeIn K cd21 "_law_wishes_by" = true) (k21 : PySem.W.keepIn K (.ref f21) = true)
    (a22 : PySem.W.nsIn K mainGlobals "_law_whole" = some (some (.ref f22))) (l22 : K.lookup f22 = some ⟨oc22, od22, .func (PySem.W.fnOf "_law_whole" "_law_whole" (defArgs s_whole) (defBody s_whole) (defScope s_whole) .none kV22 dc22 pm22 an22 cd22 ct22), sl22⟩) (c22 : PySem.W.codeIn K cd22 "_law_whole" = true) (k22 : PySem.W.keepIn K (.ref f22) = true)
    (a23 : PySem.W.nsIn K mainGlobals "_law_suits" = some (some (.ref f23))) (l23 : K.lookup f23 = some ⟨oc23, od23, .func (PySem.W.fnOf "_law_suits" "_law_suits" (defArgs s_lsuits) (defBody s_lsuits) (defScope s_lsuits) .none kV23 dc23 pm23 an23 cd23 ct23), sl23⟩) (c23 : PySem.W.codeIn K cd23 "_law_suits" = true) (k23 : PySem.W.keepIn K (.ref f23) = true)
    (a24 : PySem.W.nsIn K mainGlobals "_law_rather" = some (some (.ref f24))) (l24 : K.lookup f24 = some ⟨oc24, od24, .func (PySem.W.fnOf "_law_rather" "_law_rather" (defArgs s_lrather) (defBody s_lrather) (defScope s_lrather) .none kV24 dc24 pm24 an24 cd24 ct24), sl24⟩) (c24 : PySem.W.codeIn K cd24 "_law_rather" = true) (k24 : PySem.W.keepIn K (.ref f24) = true)
    (a25 : PySem.W.nsIn K mainGlobals "_law_restless" = some (some (.ref f25))) (l25 : K.lookup f25 = some ⟨oc25, od25, .func (PySem.W.fnOf "_law_restless" "_law_restless" (defArgs s_lrestless) (defBody s_lrestless) (defScope s_lrestless) .none kV25 dc25 pm25 an25 cd25 ct25), sl25⟩) (c25 : PySem.W.codeIn K cd25 "_law_restless" = true) (k25 : PySem.W.keepIn K (.ref f25) = true)
    (a26 : PySem.W.nsIn K mainGlobals "_law_mates" = some (some (.ref f26))) (l26 : K.lookup f26 = some ⟨oc26, od26, .func (PySem.W.fnOf "_law_mates" "_law_mates" (defArgs s_lmates) (defBody s_lmates) (defScope s_lmates) .none kV26 dc26 pm26 an26 cd26 ct26), sl26⟩) (c26 : PySem.W.codeIn K cd26 "_law_mates" = true) (k26 : PySem.W.keepIn K (.ref f26) = true)
    (a27 : PySem.W.nsIn K mainGlobals "_law_ahead" = some (some (.ref f27))) (l27 : K.lookup f27 = some ⟨oc27, od27, .func (PySem.W.fnOf "_law_ahead" "_law_ahead" (defArgs s_lahead) (defBody s_lahead) (defScope s_lahead) .none kV27 dc27 pm27 an27 cd27 ct27), sl27⟩) (c27 : PySem.W.codeIn K cd27 "_law_ahead" = true) (k27 : PySem.W.keepIn K (.ref f27) = true)
    (a28 : PySem.W.nsIn K mainGlobals "_law_holds" = some (some (.ref f28))) (l28 : K.lookup f28 = some ⟨oc28, od28, .func (PySem.W.fnOf "_law_holds" "_law_holds" (defArgs s_lholds) (defBody s_lholds) (defScope s_lholds) .none kV28 dc28 pm28 an28 cd28 ct28), sl28⟩) (c28 : PySem.W.codeIn K cd28 "_law_holds" = true) (k28 : PySem.W.keepIn K (.ref f28) = true)
    (a29 : PySem.W.nsIn K mainGlobals "_law_rings" = some (some (.ref f29))) (l29 : K.lookup f29 = some ⟨oc29, od29, .func (PySem.W.fnOf "_law_rings" "_law_rings" (defArgs s_lrings) (defBody s_lrings) (defScope s_lrings) .none kV29 dc29 pm29 an29 cd29 ct29), sl29⟩) (c29 : PySem.W.codeIn K cd29 "_law_rings" = true) (k29 : PySem.W.keepIn K (.ref f29) = true)
    (a30 : PySem.W.nsIn K mainGlobals "_law_after" = some (some (.ref f30))) (l30 : K.lookup f30 = some ⟨oc30, od30, .func (PySem.W.fnOf "_law_after" "_law_after" (defArgs s_lafter) (defBody s_lafter) (defScope s_lafter) .none kV30 dc30 pm30 an30 cd30 ct30), sl30⟩) (c30 : PySem.W.codeIn K cd30 "_law_after" = true) (k30 : PySem.W.keepIn K (.ref f30) = true)
    (a31 : PySem.W.nsIn K mainGlobals "_law_first" = some (some (.ref f31))) (l31 : K.lookup f31 = some ⟨oc31, od31, .func (PySem.W.fnOf "_law_first" "_law_first" (defArgs s_lfirst) (defBody s_lfirst) (defScope s_lfirst) .none kV31 dc31 pm31 an31 cd31 ct31), sl31⟩) (c31 : PySem.W.codeIn K cd31 "_law_first" = true) (k31 : PySem.W.keepIn K (.ref f31) = true)
    (a32 : PySem.W.nsIn K mainGlobals "law" = some (some (.ref f32))) (l32 : K.lookup f32 = some ⟨oc32, od32, .func (PySem.W.fnOf "law" "law" (defArgs s_law) (defBody s_law) (defScope s_law) .none kV32 dc32 pm32 an32 cd32 ct32), sl32⟩) (c32 : PySem.W.codeIn K cd32 "law" = true) (k32 : PySem.W.keepIn K (.ref f32) = true)
    (z_len : PySem.W.nsIn K mainGlobals "len" = some none)
    (z_rng : PySem.W.nsIn K mainGlobals "range" = some none)
    (z_isI : PySem.W.nsIn K mainGlobals "isinstance" = some none)
    (z_int : PySem.W.nsIn K mainGlobals "int" = some none)
    (z_bool : PySem.W.nsIn K mainGlobals "bool" = some none)
    (z_list : PySem.W.nsIn K mainGlobals "list" = some none)
    (z_set : PySem.W.nsIn K mainGlobals "set" = some none)
    (z_enm : PySem.W.nsIn K mainGlobals "enumerate" = some none)
    (z_tup : PySem.W.nsIn K mainGlobals "tuple" = some none)
    (z_min : PySem.W.nsIn K mainGlobals "min" = some none)
    (z_sum : PySem.W.nsIn K mainGlobals "sum" = some none)
    (z_all : PySem.W.nsIn K mainGlobals "all" = some none)
    {t_mg : Tok} (y_mg : PySem.W.nsIn K mainGlobals "MOST_GUESTS" = some (some (.int 6 t_mg)))
    {e_BadParties : Addr} (g_BadParties : PySem.W.nsIn K mainGlobals "BadParties" = some (some (.ref e_BadParties)))
    (yp : PySem.W.nsIn K mainGlobals "permutations" = some (some (.type "itertools.permutations")))
    (w1 : PySem.W.excIn K e_BadParties [.type "ValueError", .type "Exception", .type "BaseException", .type "object"] "ValueError.__new__" = true)
    (w2 : PySem.W.keepIn K (.ref e_BadParties) = true)
    (d_BadParties : PySem.W.hasDictIn K e_BadParties = true)
    (t_BadParties : PySem.W.typeIn K (.ref e_BadParties) = some (.type "type"))
    (b_BadParties : PySem.W.subIn K (.ref e_BadParties) (.type "BaseException") = some true)
    (s_BadParties : PySem.W.subIn K (.ref e_BadParties) (.ref e_BadParties) = some true)
    :
    ∃ fd : FuncData, (∀ (s : Shared) (v : Value), BindsTo s fd ⟨[v], []⟩ [("_law_script", v)]) ∧ ∀ base : Heap, K.In base → base.Ns mainGlobals mg → FnOk l.prog w K mg base CX0 7 fa fd ["_law_script"] (sp_law K) := by
  have e := hfa.symm.trans (PySem.W.mg_of X G a32)
  cases e
  have T : Own mg := ⟨PySem.W.mg_none_of X G z_len, PySem.W.mg_none_of X G z_rng, PySem.W.mg_none_of X G z_isI, PySem.W.mg_none_of X G z_int, PySem.W.mg_none_of X G z_bool, PySem.W.mg_none_of X G z_list, PySem.W.mg_none_of X G z_set, PySem.W.mg_none_of X G z_enm, PySem.W.mg_none_of X G z_tup, PySem.W.mg_none_of X G z_min, PySem.W.mg_none_of X G z_sum, PySem.W.mg_none_of X G z_all⟩
  have W : ErrC K mg "BadParties" e_BadParties := ⟨PySem.W.mg_of X G g_BadParties, w1, w2, b_BadParties, t_BadParties⟩
  have eP := exm_own ⟨d_BadParties, t_BadParties, b_BadParties⟩ s_BadParties
  have F1 := fun_mk (st := s_is_guest) l1 c1 k1
  have b1 := F1.binds (ps := ["number", "many"]) fun _ _ _ _ _ _ us hl => match us, hl with | [_, _], _ => rfl
  have F2 := fun_mk (st := s_need_row) l2 c2 k2
  have b2 := F2.binds (ps := ["row", "guest", "many"]) fun _ _ _ _ _ _ us hl => match us, hl with | [_, _, _], _ => rfl
  have F3 := fun_mk (st := s_need_wishes) l3 c3 k3
  have b3 := F3.binds (ps := ["wishes"]) fun _ _ _ _ _ _ us hl => match us, hl with | [_], _ => rfl
  have F4 := fun_mk (st := s_in_both) l4 c4 k4
  have b4 := F4.binds (ps := ["wishes", "one", "other"]) fun _ _ _ _ _ _ us hl => match us, hl with | [_, _, _], _ => rfl
  have F5 := fun_mk (st := s_is_ahead) l5 c5 k5
  have b5 := F5.binds (ps := ["wishes", "guest", "one", "other"]) fun _ _ _ _ _ _ us hl => match us, hl with | [_, _, _, _], _ => rfl
  have F6 := fun_mk (st := s_restless_pairs) l6 c6 k6
  have b6 := F6.binds (ps := ["wishes", "mates"]) fun _ _ _ _ _ _ us hl => match us, hl with | [_, _], _ => rfl
  have F7 := fun_mk (st := s_joined) l7 c7 k7
  have b7 := F7.binds (ps := ["mates", "one", "other"]) fun _ _ _ _ _ _ us hl => match us, hl with | [_, _, _], _ => rfl
  have F8 := fun_mk (st := s_settled) l8 c8 k8
  have b8 := F8.binds (ps := ["wishes", "mates", "guest"]) fun _ _ _ _ _ _ us hl => match us, hl with | [_, _, _], _ => rfl
  have F9 := fun_mk (st := s_all_twos) l9 c9 k9
  have b9 := F9.binds (ps := ["wishes"]) fun _ _ _ _ _ _ us hl => match us, hl with | [_], _ => rfl
  have F10 := fun_mk (st := s_all_calm) l10 c10 k10
  have b10 := F10.binds (ps := ["wishes"]) fun _ _ _ _ _ _ us hl => match us, hl with | [_], _ => rfl
  have F11 := fun_mk (st := s_need_parties) l11 c11 k11
  have b11 := F11.binds (ps := ["after"]) fun _ _ _ _ _ _ us hl => match us, hl with | [_], _ => rfl
  have F12 := fun_mk (st := s_ones_ahead) l12 c12 k12
  have b12 := F12.binds (ps := ["after"]) fun _ _ _ _ _ _ us hl => match us, hl with | [_], _ => rfl
  have F13 := fun_mk (st := s_suit_their_next) l13 c13 k13
  have b13 := F13.binds (ps := ["wishes", "after"]) fun _ _ _ _ _ _ us hl => match us, hl with | [_, _], _ => rfl
  have F14 := fun_mk (st := s_look_onward) l14 c14 k14
  have b14 := F14.binds (ps := ["wishes", "after", "before"]) fun _ _ _ _ _ _ us hl => match us, hl with | [_, _, _], _ => rfl
  have F15 := fun_mk (st := s_parties_hold) l15 c15 k15
  have b15 := F15.binds (ps := ["wishes", "after"]) fun _ _ _ _ _ _ us hl => match us, hl with | [_, _], _ => rfl
  have F16 := fun_mk (st := s_holds) l16 c16 k16
  have b16 := F16.binds (ps := ["wishes", "after"]) fun _ _ _ _ _ _ us hl => match us, hl with | [_, _], _ => rfl
  have F17 := fun_mk (st := s_first_parties) l17 c17 k17
  have b17 := F17.binds (ps := ["wishes"]) fun _ _ _ _ _ _ us hl => match us, hl with | [_], _ => rfl
  have F18 := fun_mk (st := s_dealt) l18 c18 k18
  have b18 := F18.binds (ps := ["wishes"]) fun _ _ _ _ _ _ us hl => match us, hl with | [_], _ => rfl
  have F19 := fun_mk (st := s_cell_at) l19 c19 k19
  have b19 := F19.binds (ps := ["_law_script", "_law_k"]) fun _ _ _ _ _ _ us hl => match us, hl with | [_, _], _ => rfl
  have F20 := fun_mk (st := s_row_by) l20 c20 k20
  have b20 := F20.binds (ps := ["_law_cell", "_law_guest", "_law_many", "_law_full"]) fun _ _ _ _ _ _ us hl => match us, hl with | [_, _, _, _], _ => rfl
  have F21 := fun_mk (st := s_wishes_by) l21 c21 k21
  have b21 := F21.binds (ps := ["_law_script", "_law_many"]) fun _ _ _ _ _ _ us hl => match us, hl with | [_, _], _ => rfl
  have F22 := fun_mk (st := s_whole) l22 c22 k22
  have b22 := F22.binds (ps := ["_law_found"]) fun _ _ _ _ _ _ us hl => match us, hl with | [_], _ => rfl
  have F23 := fun_mk (st := s_lsuits) l23 c23 k23
  have b23 := F23.binds (ps := ["_law_wishes", "_law_one", "_law_other"]) fun _ _ _ _ _ _ us hl => match us, hl with | [_, _, _], _ => rfl
  have F24 := fun_mk (st := s_lrather) l24 c24 k24
  have b24 := F24.binds (ps := ["_law_wishes", "_law_guest", "_law_one", "_law_other"]) fun _ _ _ _ _ _ us hl => match us, hl with | [_, _, _, _], _ => rfl
  have F25 := fun_mk (st := s_lrestless) l25 c25 k25
  have b25 := F25.binds (ps := ["_law_wishes", "_law_mates_here"]) fun _ _ _ _ _ _ us hl => match us, hl with | [_, _], _ => rfl
  have F26 := fun_mk (st := s_lmates) l26 c26 k26
  have b26 := F26.binds (ps := ["_law_wishes", "_law_mates_here"]) fun _ _ _ _ _ _ us hl => match us, hl with | [_, _], _ => rfl
  have F27 := fun_mk (st := s_lahead) l27 c27 k27
  have b27 := F27.binds (ps := ["_law_after_here", "_law_guest"]) fun _ _ _ _ _ _ us hl => match us, hl with | [_, _], _ => rfl
  have F28 := fun_mk (st := s_lholds) l28 c28 k28
  have b28 := F28.binds (ps := ["_law_wishes", "_law_after_here"]) fun _ _ _ _ _ _ us hl => match us, hl with | [_, _], _ => rfl
  have F29 := fun_mk (st := s_lrings) l29 c29 k29
  have b29 := F29.binds (ps := ["_law_after_here"]) fun _ _ _ _ _ _ us hl => match us, hl with | [_], _ => rfl
  have F30 := fun_mk (st := s_lafter) l30 c30 k30
  have b30 := F30.binds (ps := ["_law_found", "_law_many"]) fun _ _ _ _ _ _ us hl => match us, hl with | [_, _], _ => rfl
  have F31 := fun_mk (st := s_lfirst) l31 c31 k31
  have b31 := F31.binds (ps := ["_law_wishes", "_law_mates_here", "_law_some"]) fun _ _ _ _ _ _ us hl => match us, hl with | [_, _, _], _ => rfl
  have F32 := fun_mk (st := s_law) l32 c32 k32
  refine ⟨PySem.W.fnOf "law" "law" (defArgs s_law) (defBody s_law) (defScope s_law) .none kV32 dc32 pm32 an32 cd32 ct32, fun s v => .of_eq rfl, fun base _ _ => ?_⟩
  have C1 : Cal l.prog w K mg base 1 "is_guest" ["number", "many"] sp_is_guest := ⟨⟨_, _, ok_is_guest F1 T, PySem.W.mg_of X G a1, k1, b1⟩⟩
  have C2 : Cal l.prog w K mg base 2 "need_row" ["row", "guest", "many"] (sp_need_row K) := ⟨⟨_, _, ok_need_row F2 T C1, PySem.W.mg_of X G a2, k2, b2⟩⟩
  have C3 : Cal l.prog w K mg base 3 "need_wishes" ["wishes"] (sp_need_wishes K) := ⟨⟨_, _, ok_need_wishes F3 T ⟨_, PySem.W.mg_of X G y_mg⟩ C2, PySem.W.mg_of X G a3, k3, b3⟩⟩
  have C4 : Cal l.prog w K mg base 1 "in_both" ["wishes", "one", "other"] (sp_in_both K) := ⟨⟨_, _, ok_in_both F4, PySem.W.mg_of X G a4, k4, b4⟩⟩
  have C5 : Cal l.prog w K mg base 2 "is_ahead" ["wishes", "guest", "one", "other"] (sp_is_ahead K) := ⟨⟨_, _, ok_is_ahead F5 C4, PySem.W.mg_of X G a5, k5, b5⟩⟩
  have C6 : Cal l.prog w K mg base 3 "restless_pairs" ["wishes", "mates"] (sp_pairsG K) := ⟨⟨_, _, ok_restless_pairs F6 T C5, PySem.W.mg_of X G a6, k6, b6⟩⟩
  have C7 : Cal l.prog w K mg base 1 "joined" ["mates", "one", "other"] (sp_joined K) := ⟨⟨_, _, ok_joined F7 T, PySem.W.mg_of X G a7, k7, b7⟩⟩
  have C8 : Cal l.prog w K mg base 2 "settled" ["wishes", "mates", "guest"] (sp_settled K) := ⟨⟨_, _, ok_settled F8 T C4 C7, PySem.W.mg_of X G a8, k8, b8⟩⟩
  have C9 : Cal l.prog w K mg base 4 "all_twos" ["wishes"] (sp_all_twos K) := ⟨⟨_, _, ok_all_twos F9 T C3 C8, PySem.W.mg_of X G a9, k9, b9⟩⟩
  have C10 : Cal l.prog w K mg base 5 "all_calm" ["wishes"] (sp_all_calm K) := ⟨⟨_, _, ok_all_calm F10 C9 (cal_pairs C6), PySem.W.mg_of X G a10, k10, b10⟩⟩
  have C11 : Cal l.prog w K mg base 2 "need_parties" ["after"] (sp_need_parties K) := ⟨⟨_, _, ok_need_parties F11 T ⟨_, PySem.W.mg_of X G y_mg⟩ C1, PySem.W.mg_of X G a11, k11, b11⟩⟩
  have C12 : Cal l.prog w K mg base 1 "ones_ahead" ["after"] (sp_ones_ahead K) := ⟨⟨_, _, ok_ones_ahead F12 T, PySem.W.mg_of X G a12, k12, b12⟩⟩
  have C13 : Cal l.prog w K mg base 2 "suit_their_next" ["wishes", "after"] (sp_suit_their_next K) := ⟨⟨_, _, ok_suit_their_next F13 T C4, PySem.W.mg_of X G a13, k13, b13⟩⟩
  have C14 : Cal l.prog w K mg base 3 "look_onward" ["wishes", "after", "before"] (sp_look_onward K) := ⟨⟨_, _, ok_look_onward F14 T C5, PySem.W.mg_of X G a14, k14, b14⟩⟩
  have C15 : Cal l.prog w K mg base 4 "parties_hold" ["wishes", "after"] (sp_parties_hold K) := ⟨⟨_, _, ok_parties_hold F15 C13 C12 C14 C6, PySem.W.mg_of X G a15, k15, b15⟩⟩
  have C16 : Cal l.prog w K mg base 5 "holds" ["wishes", "after"] (sp_holds K) := ⟨⟨_, _, ok_holds F16 T C3 C11 C15, PySem.W.mg_of X G a16, k16, b16⟩⟩
  have C17 : Cal l.prog w K mg base 5 "first_parties" ["wishes"] (sp_first K) := ⟨⟨_, _, ok_first_parties F17 T (PySem.W.mg_of X G yp) C15, PySem.W.mg_of X G a17, k17, b17⟩⟩
  have C18 : Cal l.prog w K mg base 6 "dealt" ["wishes"] (sp_dealt K) := ⟨⟨_, _, ok_dealt F18 C10 C17, PySem.W.mg_of X G a18, k18, b18⟩⟩
  have C19 : Cal l.prog w K mg base 1 "_law_cell_at" ["_law_script", "_law_k"] (sp_cell_at K) := ⟨⟨_, _, ok_cell_at F19 T, PySem.W.mg_of X G a19, k19, b19⟩⟩
  have C20 : Cal l.prog w K mg base 1 "_law_row_by" ["_law_cell", "_law_guest", "_law_many", "_law_full"] sp_row_by := ⟨⟨_, _, ok_row_by F20 T, PySem.W.mg_of X G a20, k20, b20⟩⟩
  have C21 : Cal l.prog w K mg base 2 "_law_wishes_by" ["_law_script", "_law_many"] (sp_wishes_by K) := ⟨⟨_, _, ok_wishes_by F21 T C19 C20, PySem.W.mg_of X G a21, k21, b21⟩⟩
  have C22 : Cal l.prog w K mg base 1 "_law_whole" ["_law_found"] sp_whole := ⟨⟨_, _, ok_whole F22 T, PySem.W.mg_of X G a22, k22, b22⟩⟩
  have C23 : Cal l.prog w K mg base 1 "_law_suits" ["_law_wishes", "_law_one", "_law_other"] (sp_in_both K) := ⟨⟨_, _, ok_lsuits F23, PySem.W.mg_of X G a23, k23, b23⟩⟩
  have C24 : Cal l.prog w K mg base 2 "_law_rather" ["_law_wishes", "_law_guest", "_law_one", "_law_other"] (sp_lrather K) := ⟨⟨_, _, ok_lrather F24 C23, PySem.W.mg_of X G a24, k24, b24⟩⟩
  have C25 : Cal l.prog w K mg base 3 "_law_restless" ["_law_wishes", "_law_mates_here"] (sp_pairs K) := ⟨⟨_, _, ok_lrestless F25 T C24, PySem.W.mg_of X G a25, k25, b25⟩⟩
  have C26 : Cal l.prog w K mg base 2 "_law_mates" ["_law_wishes", "_law_mates_here"] (sp_lmates K) := ⟨⟨_, _, ok_lmates F26 T C22 C23, PySem.W.mg_of X G a26, k26, b26⟩⟩
  have C27 : Cal l.prog w K mg base 1 "_law_ahead" ["_law_after_here", "_law_guest"] (sp_lahead K) := ⟨⟨_, _, ok_lahead F27 T, PySem.W.mg_of X G a27, k27, b27⟩⟩
  have C28 : Cal l.prog w K mg base 3 "_law_holds" ["_law_wishes", "_law_after_here"] (sp_lholds K) := ⟨⟨_, _, ok_lholds F28 T C23 C24 C27, PySem.W.mg_of X G a28, k28, b28⟩⟩
  have C29 : Cal l.prog w K mg base 1 "_law_rings" ["_law_after_here"] (sp_lrings K) := ⟨⟨_, _, ok_lrings F29 T, PySem.W.mg_of X G a29, k29, b29⟩⟩
  have C30 : Cal l.prog w K mg base 2 "_law_after" ["_law_found", "_law_many"] (sp_lafter K) := ⟨⟨_, _, ok_lafter F30 T C22, PySem.W.mg_of X G a30, k30, b30⟩⟩
  have C31 : Cal l.prog w K mg base 4 "_law_first" ["_law_wishes", "_law_mates_here", "_law_some"] (sp_lfirst7 K) := ⟨⟨_, _, ok_lfirst7 F31 C25, PySem.W.mg_of X G a31, k31, b31⟩⟩
  exact ok_law F32 T C19 C21 C18 C9 C26 C25 C31 C16 C30 C28 C29
theorem walk {l : PySem.W.OpenLaw} {q : Program} {loose : List Str} {XP : (Str → Option Value) → Heap → Prop} {YP : World → Heap → Prop} {d : DefRec} {K : Params → PySem.W.Frag} (hn : l.most = some 63) (hdf : d.params.defaults = [])
    (hY : ∀ (w : World) (h : Heap), YP w h → (K w.params).In h)
    (F : ∀ (w : World) (mg : Str → Option Value) (fa : Addr) (h : Heap), (K w.params).In h → h.Ns mainGlobals mg → mg d.name = some (.ref fa) →
      ∃ fd : FuncData, (∀ (s : Shared) (u : Value), BindsTo s fd ⟨[u], []⟩ [("_law_script", u)]) ∧ ∀ base : Heap, (K w.params).In base → base.Ns mainGlobals mg → FnOk l.prog w (K w.params) mg base CX0 7 fa fd ["_law_script"] (sp_law (K w.params))) :
    PySem.W.WalkO q loose XP YP l.row.toRowW d [] (fun f vs => PySem.call f vs) :=
  L2.walk_of (n := 63) (k := 7) (x := "_law_script") (CX := fun _ => CX0) (sp := fun w => sp_law (K w.params)) hn (by decide) hdf ⟨rfl, by decide, by decide⟩ hY F (fun _ _ a ns hl _ hS => ⟨a, ns, rfl, hS, hl, fun _ => rfl⟩) fun _ _ _ _ _ z => z
end B2

open PySem PySem.W PyProof.Rows in
set_option maxRecDepth 100000 in
set_option maxHeartbeats 0 in
theorem PySem.Challenge.cw_bedtwos_k07_whole_either_or_holds : PySem.Challenge.rw_bedtwos_k07_whole_either_or.Holds := by
  w_on; o_law; k_head; (case hw => w_witness2)
  k_fill
  refine B2.walk (l := PySem.Challenge.rw_bedtwos_k07_whole_either_or) rfl rfl (fun w h Y => PySem.W.kIn_of Y) ?F
  case F =>
    intro w mg fa h KX G hmg
    refine' B2.all_mk KX G hmg ?a1 ?l1 ?c1 ?k1 ?a2 ?l2 ?c2 ?k2 ?a3 ?l3 ?c3 ?k3 ?a4 ?l4 ?c4 ?k4 ?a5 ?l5 ?c5 ?k5 ?a6 ?l6 ?c6 ?k6 ?a7 ?l7 ?c7 ?k7 ?a8 ?l8 ?c8 ?k8 ?a9 ?l9 ?c9 ?k9 ?a10 ?l10 ?c10 ?k10 ?a11 ?l11 ?c11 ?k11 ?a12 ?l12 ?c12 ?k12 ?a13 ?l13 ?c13 ?k13 ?a14 ?l14 ?c14 ?k14 ?a15 ?l15 ?c15 ?k15 ?a16 ?l16 ?c16 ?k16 ?a17 ?l17 ?c17 ?k17 ?a18 ?l18 ?c18 ?k18 ?a19 ?l19 ?c19 ?k19 ?a20 ?l20 ?c20 ?k20 ?a21 ?l21 ?c21 ?k21 ?a22 ?l22 ?c22 ?k22 ?a23 ?l23 ?c23 ?k23 ?a24 ?l24 ?c24 ?k24 ?a25 ?l25 ?c25 ?k25 ?a26 ?l26 ?c26 ?k26 ?a27 ?l27 ?c27 ?k27 ?a28 ?l28 ?c28 ?k28 ?a29 ?l29 ?c29 ?k29 ?a30 ?l30 ?c30 ?k30 ?a31 ?l31 ?c31 ?k31 ?a32 ?l32 ?c32 ?k32 ?z_len ?z_rng ?z_isI ?z_int ?z_bool ?z_list ?z_set ?z_enm ?z_tup ?z_min ?z_sum ?z_all ?y_mg ?g_BadParties ?yp ?w1 ?w2 ?d_BadParties ?t_BadParties ?b_BadParties ?s_BadParties
    (case a1 => k_is)
    (case l1 => k_is)
    (case c1 => k_is)
    (case k1 => k_is)
    (case a2 => k_is)
    (case l2 => k_is)
    (case c2 => k_is)
    (case k2 => k_is)
    (case a3 => k_is)
    (case l3 => k_is)
    (case c3 => k_is)
    (case k3 => k_is)
    (case a4 => k_is)
    (case l4 => k_is)
    (case c4 => k_is)
    (case k4 => k_is)
    (case a5 => k_is)
    (case l5 => k_is)
    (case c5 => k_is)
    (case k5 => k_is)
    (case a6 => k_is)
    (case l6 => k_is)
    (case c6 => k_is)
    (case k6 => k_is)
    (case a7 => k_is)
    (case l7 => k_is)
    (case c7 => k_is)
    (case k7 => k_is)
    (case a8 => k_is)
    (case l8 => k_is)
    (case c8 => k_is)
    (case k8 => k_is)
    (case a9 => k_is)
    (case l9 => k_is)
    (case c9 => k_is)
    (case k9 => k_is)
    (case a10 => k_is)
    (case l10 => k_is)
    (case c10 => k_is)
    (case k10 => k_is)
    (case a11 => k_is)
    (case l11 => k_is)
    (case c11 => k_is)
    (case k11 => k_is)
    (case a12 => k_is)
    (case l12 => k_is)
    (case c12 => k_is)
    (case k12 => k_is)
    (case a13 => k_is)
    (case l13 => k_is)
    (case c13 => k_is)
    (case k13 => k_is)
    (case a14 => k_is)
    (case l14 => k_is)
    (case c14 => k_is)
    (case k14 => k_is)
    (case a15 => k_is)
    (case l15 => k_is)
    (case c15 => k_is)
    (case k15 => k_is)
    (case a16 => k_is)
    (case l16 => k_is)
    (case c16 => k_is)
    (case k16 => k_is)
    (case a17 => k_is)
    (case l17 => k_is)
    (case c17 => k_is)
    (case k17 => k_is)
    (case a18 => k_is)
    (case l18 => k_is)
    (case c18 => k_is)
    (case k18 => k_is)
    (case a19 => k_is)
    (case l19 => k_is)
    (case c19 => k_is)
    (case k19 => k_is)
    (case a20 => k_is)
    (case l20 => k_is)
    (case c20 => k_is)
    (case k20 => k_is)
    (case a21 => k_is)
    (case l21 => k_is)
    (case c21 => k_is)
    (case k21 => k_is)
    (case a22 => k_is)
    (case l22 => k_is)
    (case c22 => k_is)
    (case k22 => k_is)
    (case a23 => k_is)
    (case l23 => k_is)
    (case c23 => k_is)
    (case k23 => k_is)
    (case a24 => k_is)
    (case l24 => k_is)
    (case c24 => k_is)
    (case k24 => k_is)
    (case a25 => k_is)
    (case l25 => k_is)
    (case c25 => k_is)
    (case k25 => k_is)
    (case a26 => k_is)
    (case l26 => k_is)
    (case c26 => k_is)
    (case k26 => k_is)
    (case a27 => k_is)
    (case l27 => k_is)
    (case c27 => k_is)
    (case k27 => k_is)
    (case a28 => k_is)
    (case l28 => k_is)
    (case c28 => k_is)
    (case k28 => k_is)
    (case a29 => k_is)
    (case l29 => k_is)
    (case c29 => k_is)
    (case k29 => k_is)
    (case a30 => k_is)
    (case l30 => k_is)
    (case c30 => k_is)
    (case k30 => k_is)
    (case a31 => k_is)
    (case l31 => k_is)
    (case c31 => k_is)
    (case k31 => k_is)
    (case a32 => k_is)
    (case l32 => k_is)
    (case c32 => k_is)
    (case k32 => k_is)
    (case z_len => k_is)
    (case z_rng => k_is)
    (case z_isI => k_is)
    (case z_int => k_is)
    (case z_bool => k_is)
    (case z_list => k_is)
    (case z_set => k_is)
    (case z_enm => k_is)
    (case z_tup => k_is)
    (case z_min => k_is)
    (case z_sum => k_is)
    (case z_all => k_is)
    (case y_mg => k_is)
    (case g_BadParties => k_is)
    (case yp => k_is)
    (case w1 => k_exc)
    (case w2 => k_is)
    (case d_BadParties => k_is)
    (case t_BadParties => k_is)
    (case b_BadParties => k_is)
    (case s_BadParties => k_is)
#print axioms PySem.Challenge.cw_bedtwos_k07_whole_either_or_holds
