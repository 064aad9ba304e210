import PyProof.Rows.All
import Wide.All
import OpenK.AllK
import Wide.FinOn
import HandS.ForMost
import HandS.IsInst
import HandS.Zip
import HandS.Walk
import HandS.Evl
import HandS.Style
import HandS.ForExc
import HandS.Small
import HandS.FStr
import HandS.ExcIs
import PySem.Challenge.RW_bedtwos_k02_wishes_refused
set_option Elab.async false
set_option maxRecDepth 100000
set_option maxHeartbeats 4000000
namespace B2
open PySem L2

/-! ### Data: tables of wishes, rows, what stands at an address -/

/-- a row of the guest g, one of n -/
structure GoodRow (n : Nat) (g : Int) (r : List Int) : Prop where
  nd : r.Nodup
  rg : ∀ x ∈ r, 0 ≤ x ∧ x < (n : Int) ∧ x ≠ g
  sm : r.length ≤ 6

structure Good (ws : List (List Int)) : Prop where
  lo : 1 ≤ ws.length
  hi : ws.length ≤ 6
  row : ∀ (g : Nat) (r : List Int), ws[g]? = some r → GoodRow ws.length (g : Int) r

/-- the table ws stands at a -/
def Tab (K : PySem.W.Frag) (H : Hp) (a : Addr) (ws : List (List Int)) : Prop :=
  ∃ as : List Addr, SqL K H a (as.map V.ref) ∧ as.length = ws.length ∧
    ∀ (i : Nat) (r : List Int), ws[i]? = some r → ∃ b, as[i]? = some b ∧ SqL K H b (r.map V.int)

theorem Tab.same {K : PySem.W.Frag} {H H' : Hp} {a : Addr} {ws : List (List Int)} (e : Same H H') (t : Tab K H a ws) : Tab K H' a ws := by
  obtain ⟨as, h1, h2, h3⟩ := t
  refine ⟨as, e.seq h1, h2, fun i r hr => ?_⟩
  obtain ⟨b, hb, hs⟩ := h3 i r hr
  exact ⟨b, hb, e.seq hs⟩

theorem same_new {H : Hp} {p : Addr} (h : H p = none) (o : HO) : Same H (upd H p o) := fun b u q => by
  rw [upd_ne (ne_of_none q h)]; exact q

/-- what was there at the start stays, though the new object at p is changed -/
theorem same_put {H H1 : Hp} {p : Addr} (e : Same H H1) (h : H p = none) (o : HO) : Same H (upd H1 p o) := fun b u q => by
  rw [upd_ne (ne_of_none q h)]; exact e b u q

def rowOf (ws : List (List Int)) (i : Int) : List Int := ws.getD i.toNat []

theorem rowOf_get {ws : List (List Int)} {i : Int} (h0 : 0 ≤ i) (h1 : i < (ws.length : Int)) :
    ws[i.toNat]? = some (rowOf ws i) ∧ i = ((i.toNat : Nat) : Int) := by
  have h : i.toNat < ws.length := by omega
  refine ⟨?_, by omega⟩
  unfold rowOf
  rw [List.getD_eq_getElem?_getD, List.getElem?_eq_getElem h]
  rfl

theorem rowOf_good {ws : List (List Int)} (g : Good ws) {i : Int} (h0 : 0 ≤ i) (h1 : i < (ws.length : Int)) : GoodRow ws.length i (rowOf ws i) := by
  have h := rowOf_get h0 h1
  have q := g.row _ _ h.1
  rw [← h.2] at q
  exact q

/-- wishes[i], as the list rules ask it -/
theorem Tab.at {K : PySem.W.Frag} {H : Hp} {a : Addr} {ws : List (List Int)} (t : Tab K H a ws) :
    ∃ as : List Addr, SqL K H a (as.map V.ref) ∧ as.length = ws.length ∧
    ∀ i : Int, 0 ≤ i → i < (ws.length : Int) → ∃ b, atI (as.map V.ref) i = some (.ref b) ∧ SqL K H b ((rowOf ws i).map V.int) := by
  obtain ⟨as, h1, h2, h3⟩ := t
  refine ⟨as, h1, h2, fun i i0 i1 => ?_⟩
  obtain ⟨q1, q2⟩ := rowOf_get i0 i1
  obtain ⟨b, hb, hs⟩ := h3 _ _ q1
  refine ⟨b, ?_, hs⟩
  have : atI (as.map V.ref) ((i.toNat : Nat) : Int) = some (.ref b) := atI_nat (by rw [List.getElem?_map, hb]; rfl)
  rw [← q2] at this
  exact this

theorem inV_int (j : Int) : ∀ r : List Int, inV (.int j) (r.map V.int) = decide (j ∈ r)
  | [] => by simp [inV]
  | x :: r => by
    have ih := inV_int j r
    unfold inV at ih ⊢
    rw [List.map_cons, List.any_cons, ih]
    show ((x == j) || decide (j ∈ r)) = decide (j ∈ x :: r)
    by_cases h : x = j
    · simp [h]
    · have h' : ¬ j = x := fun q => h q.symm
      simp [h, h']

theorem flat_ints (r : List Int) : (r.map V.int).all flatV = true := by
  rw [List.all_eq_true]
  intro x hx
  rw [List.mem_map] at hx
  obtain ⟨i, _, rfl⟩ := hx
  rfl

/-- two guests suit each other -/
def suitsB (ws : List (List Int)) (i j : Int) : Bool := decide (j ∈ rowOf ws i) && decide (i ∈ rowOf ws j)

theorem suitsB_comm (ws : List (List Int)) (i j : Int) : suitsB ws i j = suitsB ws j i := Bool.and_comm _ _

def ov : Option Int → V
  | none => .non
  | some i => .int i

theorem ov_inj {a b : Option Int} (h : ov a = ov b) : a = b := by
  cases a <;> cases b <;> first | rfl | (cases h; rfl) | (cases h)

theorem ov_dec (a b : Option Int) : decide (ov a = ov b) = decide (a = b) := by
  by_cases h : a = b
  · rw [h]; simp
  · have h' : ¬ ov a = ov b := fun q => h (ov_inj q)
    rw [decide_eq_false h, decide_eq_false h']

theorem ov_non (a : Option Int) : decide (ov a = .non) = a.isNone := by
  cases a <;> rfl

/-- a guest or none, of n -/
def OkO (n : Nat) : Option Int → Prop
  | none => True
  | some i => 0 ≤ i ∧ i < (n : Int)

/-- whether g would rather have one than other -/
def aheadB (ws : List (List Int)) (g : Int) : Option Int → Option Int → Bool
  | none, _ => false
  | some a, none => suitsB ws g a
  | some a, some b => if a = b then false else
      if suitsB ws g a = true then (if suitsB ws g b = true then decide ((rowOf ws g).idxOf a < (rowOf ws g).idxOf b) else true) else false

/-- as the law goes through the list -/
def scanB (s : Int → Bool) (a : Int) (o : Option Int) : List Int → Bool
  | [] => false
  | t :: r => if (decide (some t = o) && s t) = true then false else if t = a then true else scanB s a o r

theorem scanB_none (s : Int → Bool) (a : Int) : ∀ r : List Int, a ∈ r → scanB s a none r = true
  | [], h => by cases h
  | t :: r, h => by
    unfold scanB
    have e : (decide (some t = (none : Option Int)) && s t) = false := by
      rw [decide_eq_false (by intro q; cases q), Bool.false_and]
    rw [e]
    by_cases q : t = a
    · rw [if_neg (by decide), if_pos q]
    · rw [if_neg (by decide), if_neg q]
      rcases List.mem_cons.mp h with h | h
      · exact absurd h.symm q
      · exact scanB_none s a r h

theorem scanB_no (s : Int → Bool) (a b : Int) (hs : s b = false) : ∀ r : List Int, a ∈ r → scanB s a (some b) r = true
  | [], h => by cases h
  | t :: r, h => by
    unfold scanB
    have e : (decide (some t = some b) && s t) = false := by
      by_cases q : t = b
      · rw [q, hs, Bool.and_false]
      · rw [decide_eq_false (by intro z; exact q (Option.some.inj z)), Bool.false_and]
    rw [e]
    by_cases q : t = a
    · rw [if_neg (by decide), if_pos q]
    · rw [if_neg (by decide), if_neg q]
      rcases List.mem_cons.mp h with h | h
      · exact absurd h.symm q
      · exact scanB_no s a b hs r h

theorem scanB_yes (s : Int → Bool) (a b : Int) (hs : s b = true) (hab : a ≠ b) : ∀ r : List Int, a ∈ r → scanB s a (some b) r = decide (r.idxOf a < r.idxOf b)
  | [], h => by cases h
  | t :: r, h => by
    unfold scanB
    by_cases q : t = b
    · have e : (decide (some t = some b) && s t) = true := by rw [q, hs]; simp
      rw [if_pos e, q, List.idxOf_cons, List.idxOf_cons]
      have e1 : (b == a) = false := by
        apply beq_eq_false_iff_ne.mpr
        exact fun z => hab z.symm
      simp [e1]
    · have e : (decide (some t = some b) && s t) = false := by
        rw [decide_eq_false (by intro z; exact q (Option.some.inj z)), Bool.false_and]
      rw [e, if_neg (by decide)]
      have e2 : (t == b) = false := beq_eq_false_iff_ne.mpr q
      by_cases q1 : t = a
      · rw [if_pos q1, List.idxOf_cons, List.idxOf_cons]
        have e1 : (t == a) = true := by rw [q1]; exact beq_self_eq_true a
        rw [e1, e2]
        simp
      · rw [if_neg q1]
        have e1 : (t == a) = false := beq_eq_false_iff_ne.mpr q1
        have ha : a ∈ r := by
          rcases List.mem_cons.mp h with h | h
          · exact absurd h.symm q1
          · exact h
        rw [scanB_yes s a b hs hab r ha, List.idxOf_cons, List.idxOf_cons, e1, e2]
        simp

def ratherB (ws : List (List Int)) (g : Int) : Option Int → Option Int → Bool
  | none, _ => false
  | some a, o => if suitsB ws g a = true then scanB (suitsB ws g) a o (rowOf ws g) else false

theorem suitsB_mem {ws : List (List Int)} {g a : Int} (h : suitsB ws g a = true) : a ∈ rowOf ws g ∧ g ∈ rowOf ws a := by
  unfold suitsB at h
  rw [Bool.and_eq_true] at h
  exact ⟨of_decide_eq_true h.1, of_decide_eq_true h.2⟩

theorem scanB_same (s : Int → Bool) (a : Int) (hs : s a = true) : ∀ r : List Int, scanB s a (some a) r = false
  | [] => rfl
  | t :: r => by
    unfold scanB
    by_cases q : t = a
    · rw [if_pos (by rw [q, hs]; simp)]
    · rw [if_neg (by rw [decide_eq_false (by intro z; exact q (Option.some.inj z)), Bool.false_and]; decide), if_neg q]
      exact scanB_same s a hs r

theorem rather_is (ws : List (List Int)) (g : Int) : ∀ a o : Option Int, ratherB ws g a o = aheadB ws g a o
  | none, _ => rfl
  | some a, none => by
    show (if suitsB ws g a = true then scanB (suitsB ws g) a none (rowOf ws g) else false) = suitsB ws g a
    by_cases h : suitsB ws g a = true
    · rw [if_pos h, scanB_none _ _ _ (suitsB_mem h).1, h]
    · rw [if_neg h]
      exact (Bool.eq_false_iff.mpr h).symm
  | some a, some b => by
    show (if suitsB ws g a = true then scanB (suitsB ws g) a (some b) (rowOf ws g) else false) = (if a = b then false else
      if suitsB ws g a = true then (if suitsB ws g b = true then decide ((rowOf ws g).idxOf a < (rowOf ws g).idxOf b) else true) else false)
    by_cases h : suitsB ws g a = true
    · rw [if_pos h, if_pos h]
      by_cases q : a = b
      · rw [if_pos q, ← q, scanB_same _ _ h]
      · rw [if_neg q]
        by_cases h2 : suitsB ws g b = true
        · rw [if_pos h2, scanB_yes _ _ _ h2 q _ (suitsB_mem h).1]
        · rw [if_neg h2, scanB_no _ _ _ (Bool.eq_false_iff.mpr h2) _ (suitsB_mem h).1]
    · rw [if_neg h, if_neg h]
      by_cases q : a = b
      · rw [if_pos q]
      · rw [if_neg q]

/-- the first place of x in a list of ints, as list.index asks it -/
theorem index_at (x : Int) : ∀ r : List Int, x ∈ r →
    (r.map V.int)[r.idxOf x]? = some (.int x) ∧ ∀ (m : Nat) (z : V), m < r.idxOf x → (r.map V.int)[m]? = some z → eqV z (.int x) = false
  | [], h => by cases h
  | t :: r, h => by
    by_cases q : t = x
    · rw [List.idxOf_cons]
      have e1 : (t == x) = true := by rw [q]; exact beq_self_eq_true x
      rw [e1]
      refine ⟨by rw [q]; rfl, fun m z hm => ?_⟩
      simp at hm
    · have e1 : (t == x) = false := beq_eq_false_iff_ne.mpr q
      have ha : x ∈ r := by
        rcases List.mem_cons.mp h with h | h
        · exact absurd h.symm q
        · exact h
      obtain ⟨i1, i2⟩ := index_at x r ha
      rw [List.idxOf_cons, e1]
      refine ⟨?_, fun m z hm hz => ?_⟩
      · show (V.int t :: r.map V.int)[r.idxOf x + 1]? = _
        rw [List.getElem?_cons_succ]
        exact i1
      · cases m with
        | zero =>
          rw [List.map_cons, List.getElem?_cons_zero] at hz
          cases hz
          exact e1
        | succ m =>
          rw [List.map_cons, List.getElem?_cons_succ] at hz
          have hm' : m + 1 < r.idxOf x + 1 := hm
          exact i2 m z (by omega) hz
end B2

namespace B2
open PySem L2

/-! ### Data of nested lists -/
theorem canLayAll_of : ∀ ds : List PyData, (∀ d ∈ ds, d.canLay0 = true) → PyData.canLayAll0 ds = true
  | [], _ => by simp [PyData.canLayAll0]
  | d :: ds, h => by
    have h1 := h d (List.mem_cons_self ..)
    have h2 := canLayAll_of ds (fun e he => h e (List.mem_cons_of_mem _ he))
    simp [PyData.canLayAll0, h1, h2]
theorem depthAll_of (k : Nat) : ∀ ds : List PyData, (∀ d ∈ ds, d.depth ≤ k) → PyData.depthAll ds ≤ k
  | [], _ => by simp [PyData.depthAll]
  | d :: ds, h => by
    have h1 := h d (List.mem_cons_self ..)
    have h2 := depthAll_of k ds (fun e he => h e (List.mem_cons_of_mem _ he))
    simp only [PyData.depthAll]
    omega

def dV : V → PyData
  | .bl b => .bool b
  | .int i => .int i
  | _ => .none
/-- None, truths and numbers -/
def plainV : V → Bool
  | .non => true
  | .bl _ => true
  | .int _ => true
  | _ => false
theorem dV_dp {K : PySem.W.Frag} {H : Hp} : ∀ v : V, plainV v = true → Dp K H v (dV v)
  | .non, _ => .non
  | .bl b, _ => .bl b
  | .int i, _ => .int i
  | .str _, h | .byt _, h | .flt _, h | .ref _, h | .ty _, h => by cases h
theorem dV_lay : ∀ v : V, (dV v).canLay0 = true ∧ (dV v).depth ≤ 1
  | .non | .bl _ | .int _ | .str _ | .byt _ | .flt _ | .ref _ | .ty _ => by simp [dV, PyData.canLay0, PyData.depth]
theorem dpAll_plain {K : PySem.W.Frag} {H : Hp} : ∀ vs : List V, (∀ v ∈ vs, plainV v = true) → DpAll K H vs (vs.map dV)
  | [], _ => .nil
  | v :: vs, h => .cons (dV_dp v (h v (List.mem_cons_self ..))) (dpAll_plain vs fun u hu => h u (List.mem_cons_of_mem _ hu))
/-- what a list of plain things, a list of such lists is as data -/
def dL (vs : List V) : PyData := .list (vs.map dV)
def dLL (vss : List (List V)) : PyData := .list (vss.map dL)
theorem dL_lay (vs : List V) : (dL vs).canLay0 = true ∧ (dL vs).depth ≤ 2 := by
  have h1 := canLayAll_of (vs.map dV) (fun d hd => by
    obtain ⟨v, _, rfl⟩ := List.mem_map.mp hd
    exact (dV_lay v).1)
  have h2 := depthAll_of 1 (vs.map dV) (fun d hd => by
    obtain ⟨v, _, rfl⟩ := List.mem_map.mp hd
    exact (dV_lay v).2)
  unfold dL
  simp only [PyData.canLay0, PyData.depth]
  exact ⟨h1, by omega⟩
theorem dLL_lay (vss : List (List V)) : (dLL vss).canLay0 = true ∧ (dLL vss).depth ≤ 3 := by
  have h1 := canLayAll_of (vss.map dL) (fun d hd => by
    obtain ⟨v, _, rfl⟩ := List.mem_map.mp hd
    exact (dL_lay v).1)
  have h2 := depthAll_of 2 (vss.map dL) (fun d hd => by
    obtain ⟨v, _, rfl⟩ := List.mem_map.mp hd
    exact (dL_lay v).2)
  unfold dLL
  simp only [PyData.canLay0, PyData.depth]
  exact ⟨h1, by omega⟩
theorem shaped_of {d : PyData} (h : d.canLay0 = true) (k : d.depth ≤ 64) : SeqAt.shaped d = true := by
  unfold SeqAt.shaped
  rw [h, decide_eq_true k]
  rfl
theorem dL_shaped (vs : List V) : SeqAt.shaped (dL vs) = true := shaped_of (dL_lay vs).1 (Nat.le_trans (dL_lay vs).2 (by decide))
theorem dLL_shaped (vss : List (List V)) : SeqAt.shaped (dLL vss) = true := shaped_of (dLL_lay vss).1 (Nat.le_trans (dLL_lay vss).2 (by decide))
theorem dL_refl (vs : List V) : (dL vs).eqv (dL vs) = true := SeqAt.eqv_refl _ (dL_lay vs).1
theorem dLL_refl (vss : List (List V)) : (dLL vss).eqv (dLL vss) = true := SeqAt.eqv_refl _ (dLL_lay vss).1

/-! ### Lists of lists in the heap -/
/-- at a a list of lists, whose items are the values vss -/
def TabV (K : PySem.W.Frag) (H : Hp) (a : Addr) (vss : List (List V)) : Prop :=
  ∃ as : List Addr, SqL K H a (as.map V.ref) ∧ as.length = vss.length ∧
    ∀ (i : Nat) (r : List V), vss[i]? = some r → ∃ b, as[i]? = some b ∧ SqL K H b r

theorem TabV.same {K : PySem.W.Frag} {H H' : Hp} {a : Addr} {vss : List (List V)} (e : Same H H') (t : TabV K H a vss) : TabV K H' a vss := by
  obtain ⟨as, h1, h2, h3⟩ := t
  refine ⟨as, e.seq h1, h2, fun i r hr => ?_⟩
  obtain ⟨b, hb, hs⟩ := h3 i r hr
  exact ⟨b, hb, e.seq hs⟩

theorem Tab.v {K : PySem.W.Frag} {H : Hp} {a : Addr} {ws : List (List Int)} (t : Tab K H a ws) : TabV K H a (ws.map fun r => r.map V.int) := by
  obtain ⟨as, h1, h2, h3⟩ := t
  refine ⟨as, h1, by rw [List.length_map]; exact h2, fun i r hr => ?_⟩
  rw [List.getElem?_map] at hr
  cases e : ws[i]? with
  | none => rw [e] at hr; cases hr
  | some q =>
    rw [e] at hr
    cases hr
    exact h3 i q e

theorem TabV.t {K : PySem.W.Frag} {H : Hp} {a : Addr} {ws : List (List Int)} (t : TabV K H a (ws.map fun r => r.map V.int)) : Tab K H a ws := by
  obtain ⟨as, h1, h2, h3⟩ := t
  refine ⟨as, h1, by rw [h2, List.length_map], fun i r hr => ?_⟩
  exact h3 i _ (by rw [List.getElem?_map, hr]; rfl)

theorem dpAll_refs {K : PySem.W.Frag} {H : Hp} : ∀ (as : List Addr) (vss : List (List V)), as.length = vss.length →
    (∀ (i : Nat) (r : List V), vss[i]? = some r → ∃ b, as[i]? = some b ∧ SqL K H b r) → (∀ r ∈ vss, ∀ v ∈ r, plainV v = true) →
    DpAll K H (as.map V.ref) (vss.map dL)
  | [], [], _, _, _ => .nil
  | [], _ :: _, h, _, _ => by cases h
  | _ :: _, [], h, _, _ => by cases h
  | a :: as, r :: vss, h, g, p => by
    obtain ⟨b, hb, hs⟩ := g 0 r rfl
    cases hb
    refine .cons (.lst hs (dpAll_plain r (p r (List.mem_cons_self ..)))) (dpAll_refs as vss (Nat.succ.inj h) (fun i q hq => ?_) fun q hq => p q (List.mem_cons_of_mem _ hq))
    exact g (i + 1) q hq

theorem TabV.dp {K : PySem.W.Frag} {H : Hp} {a : Addr} {vss : List (List V)} (t : TabV K H a vss) (p : ∀ r ∈ vss, ∀ v ∈ r, plainV v = true) : Dp K H (.ref a) (dLL vss) := by
  obtain ⟨as, h1, h2, h3⟩ := t
  exact .lst h1 (dpAll_refs as vss h2 h3 p)

theorem plain_ints (ws : List (List Int)) : ∀ r ∈ (ws.map fun r => r.map V.int), ∀ v ∈ r, plainV v = true := by
  intro r hr v hv
  obtain ⟨q, _, rfl⟩ := List.mem_map.mp hr
  obtain ⟨i, _, rfl⟩ := List.mem_map.mp hv
  rfl

theorem Tab.dp {K : PySem.W.Frag} {H : Hp} {a : Addr} {ws : List (List Int)} (t : Tab K H a ws) : Dp K H (.ref a) (dLL (ws.map fun r => r.map V.int)) := t.v.dp (plain_ints ws)

/-- a list of new objects (f r for the items r) that is being built at D: all that stood in H stands -/
def BuiltF {α : Type} (f : α → HO) (H : Hp) (D : Addr) (vss : List α) (H' : Hp) : Prop :=
  Same H H' ∧ ∃ as : List Addr, H' D = some (.lst (as.map V.ref)) ∧ as.length = vss.length ∧
    ∀ (i : Nat) (r : α), vss[i]? = some r → ∃ b, as[i]? = some b ∧ H' b = some (f r) ∧ b ≠ D ∧ H b = none

abbrev Built (H : Hp) (D : Addr) (vss : List (List V)) (H' : Hp) : Prop := BuiltF HO.lst H D vss H'

theorem built_start {α : Type} {f : α → HO} {H : Hp} {D : Addr} (h : H D = none) : BuiltF f H D [] (upd H D (.lst [])) :=
  ⟨same_new h _, [], upd_same, rfl, fun i r hr => by cases hr⟩

theorem built_step {α : Type} {f : α → HO} {H H1 H2 : Hp} {D p : Addr} {vss : List α} {r : α} (hD : H D = none) (b : BuiltF f H D vss H1) (e : Same H1 H2) (hp : H1 p = none) (hp2 : H2 p = some (f r)) :
    ∃ acc, H2 D = some (.lst acc) ∧ acc.length = vss.length ∧ BuiltF f H D (vss ++ [r]) (upd H2 D (.lst (acc ++ [.ref p]))) := by
  obtain ⟨s, as, h1, h2, h3⟩ := b
  have npD : p ≠ D := (ne_of_none h1 hp).symm
  refine ⟨_, e _ _ h1, by rw [List.length_map]; exact h2, same_put (s.trans e) hD _, as ++ [p], ?_, ?_, fun i q hq => ?_⟩
  · rw [upd_same, List.map_append]
    rfl
  · rw [List.length_append, List.length_append, h2]
    rfl
  · rw [List.getElem?_append] at hq
    rw [List.getElem?_append]
    by_cases c : i < vss.length
    · rw [if_pos c] at hq
      rw [if_pos (by rw [h2]; exact c)]
      obtain ⟨b, b1, b2, b3, b4⟩ := h3 i q hq
      exact ⟨b, b1, by rw [upd_ne b3]; exact e _ _ b2, b3, b4⟩
    · rw [if_neg c] at hq
      rw [if_neg (by rw [h2]; exact c)]
      have i0 : i - vss.length = 0 := by
        have := (List.getElem?_eq_some_iff.mp hq).1
        simp at this
        omega
      rw [i0] at hq
      cases hq
      rw [h2, i0]
      exact ⟨p, rfl, by rw [upd_ne npD]; exact hp2, npD, s.free hp⟩

theorem BuiltF.on {α : Type} {f : α → HO} {H H1 H2 : Hp} {D : Addr} {vss : List α} (B : BuiltF f H D vss H1) (e : Same H1 H2) : BuiltF f H D vss H2 := by
  obtain ⟨s, as, h1, h2, h3⟩ := B
  refine ⟨s.trans e, as, e _ _ h1, h2, fun i r hr => ?_⟩
  obtain ⟨b, b1, b2, b3, b4⟩ := h3 i r hr
  exact ⟨b, b1, e _ _ b2, b3, b4⟩

theorem Built.tab {K : PySem.W.Frag} {H H' : Hp} {D : Addr} {vss : List (List V)} (b : Built H D vss H') : TabV K H' D vss := by
  obtain ⟨s, as, h1, h2, h3⟩ := b
  refine ⟨as, SqL.of h1, h2, fun i r hr => ?_⟩
  obtain ⟨b, b1, b2, _⟩ := h3 i r hr
  exact ⟨b, b1, SqL.of b2⟩

theorem map_int_get {r : List Int} {i : Nat} {x : V} (h : (r.map V.int)[i]? = some x) : ∃ y, r[i]? = some y ∧ x = .int y := by
  rw [List.getElem?_map] at h
  cases e : r[i]? with
  | none => rw [e] at h; cases h
  | some y =>
    rw [e] at h
    exact ⟨y, rfl, (Option.some.inj h).symm⟩

theorem map_ref_get {r : List Addr} {i : Nat} {x : V} (h : (r.map V.ref)[i]? = some x) : ∃ y, r[i]? = some y ∧ x = .ref y := by
  rw [List.getElem?_map] at h
  cases e : r[i]? with
  | none => rw [e] at h; cases h
  | some y =>
    rw [e] at h
    exact ⟨y, rfl, (Option.some.inj h).symm⟩

theorem take_one {α : Type} {xs : List α} {i : Nat} {x : α} (h : xs[i]? = some x) : xs.take (i + 1) = xs.take i ++ [x] := by
  rw [List.take_add_one, h]
  rfl

theorem seqIx {i : Int} {n : Nat} (h0 : 0 ≤ i) (h1 : i < (n : Int)) : seqIndex? i n = some i.toNat := by
  have e1 : ¬ (i < 0) := by omega
  unfold seqIndex?
  simp only [if_neg e1]
  rw [decide_eq_true h0, decide_eq_true h1]
  rfl

theorem map_erase {α β : Type} (f : α → β) : ∀ (l : List α) (k : Nat), (l.map f).eraseIdx k = (l.eraseIdx k).map f
  | [], _ => rfl
  | _ :: _, 0 => rfl
  | a :: l, k + 1 => by
    show f a :: (l.map f).eraseIdx k = f a :: (l.eraseIdx k).map f
    rw [map_erase f l k]

theorem le_line {n : Nat} (h : n ≤ 1000) : n ≤ sizeLine := Nat.le_of_lt (small1000 h)

theorem cut_take (r : List Int) (k : Int) : ∃ m, cutV (r.map V.int) none (some k) = (r.take m).map V.int := by
  refine ⟨HT.sIx (r.map V.int).length (r.map V.int).length (some k) - 0, ?_⟩
  unfold cutV
  have e0 : HT.sIx (r.map V.int).length 0 none = 0 := rfl
  rw [e0, List.drop_zero, List.map_take]
/-! ### Rules within a comprehension's block, whose K is the def's -/
def rLof (K : PySem.W.Frag) : List V → Hp → VK → Prop := fun xs H Q => ∃ p ys, xs = [.ref p] ∧ (SqL K H p ys ∨ SqT K H p ys) ∧ ∀ l, H l = none → Q (.ref l) (upd H l (.lst ys))
theorem call_lof {X : Cx} {K : PySem.W.Frag} (h : X.K = K) : CallR X (.type "list") (rLof K) := by
  subst h
  exact call_list_of

theorem ix_lst {X : Cx} {K : PySem.W.Frag} (h : X.K = K) : IxR X (rIxL K) := by
  subst h
  exact ix_list
theorem in_lst {X : Cx} {K : PySem.W.Frag} (h : X.K = K) : OpR X (compareOp .In) (rIn K false) := by
  subst h
  exact op_in_seq
def rLenOf (K : PySem.W.Frag) : List V → Hp → VK → Prop := fun xs H Q => ∃ p ys, xs = [.ref p] ∧ (SqL K H p ys ∨ SqT K H p ys) ∧ Q (.int ys.length) H
theorem len_lst {X : Cx} {K : PySem.W.Frag} (h : X.K = K) : CallR X (.builtin "len") (rLenOf K) := by
  subst h
  exact call_len_seq

theorem suitsB_self {ws : List (List Int)} (hG : Good ws) {g : Int} (h0 : 0 ≤ g) (h1 : g < (ws.length : Int)) : suitsB ws g g = false := by
  have : ¬ g ∈ rowOf ws g := fun h => ((rowOf_good hG h0 h1).rg g h).2.2 rfl
  unfold suitsB
  rw [decide_eq_false this]
  rfl

end B2

namespace B2
open PySem L2 PyProof.Rows

/-! ### len(set(xs)) of any numbers -/
def metN (us : List Int) : List Int := firstMet (fun i => us.getD i 0) us.length
theorem met_full (us : List Int) : ∀ i, i ≤ us.length → (firstMet (fun i => us.getD i 0) i).length = i → (us.take i).Nodup ∧ firstMet (fun i => us.getD i 0) i = us.take i
  | 0, _, _ => ⟨List.nodup_nil, rfl⟩
  | i + 1, hi, hl => by
    have hg : us[i]? = some (us.getD i 0) := by
      rw [List.getD_eq_getElem?_getD, List.getElem?_eq_getElem (show i < us.length from hi)]
      rfl
    have hle := firstMet_length_le (fun i => us.getD i 0) i
    rw [firstMet_succ] at hl ⊢
    unfold step_dedup at hl ⊢
    by_cases c : (firstMet (fun i => us.getD i 0) i).any (fun x => x == us.getD i 0) = true
    · rw [if_pos c] at hl
      omega
    · rw [if_neg c] at hl ⊢
      rw [List.length_append, List.length_singleton] at hl
      obtain ⟨h1, h2⟩ := met_full us i (by omega) (by omega)
      rw [h2] at c ⊢
      refine ⟨?_, (take_one hg).symm⟩
      rw [take_one hg, List.nodup_append]
      refine ⟨h1, by simp, fun x hx y hy e => ?_⟩
      rw [List.mem_singleton] at hy
      exact c (List.any_eq_true.mpr ⟨x, hx, by rw [e, hy]; exact beq_self_eq_true _⟩)
theorem met_less {us : List Int} (h : ¬ us.Nodup) : (metN us).length < us.length := by
  have h1 := firstMet_length_le (fun i => us.getD i 0) us.length
  refine Classical.byContradiction fun z => h ?_
  have h2 := (met_full us us.length (Nat.le_refl _) (by unfold metN at z; omega)).1
  rw [List.take_length] at h2
  exact h2
theorem met_same {us : List Int} (h : us.Nodup) : (metN us).length = us.length := by
  unfold metN
  rw [RZ.firstMet_nodup h _ (Nat.le_refl _), List.take_length]
def tSetLen (K : PySem.W.Frag) (ta : TE) : TE := fun σ H Q => ta σ H fun x H1 => ∃ (p : Addr) (us : List Int), x = .ref p ∧ SqL K H1 p (us.map V.int) ∧ us.length ≤ 4000 ∧ Q (.int ((metN us).length : Nat)) H1
theorem pe_setLen {X : Cx} {e : Expr} {te : TE} {p1 p2 p3 p4 : Pos} (gl : Gl X "len") (ml : X.mg "len" = none) (gs : Gl X "set") (ms : X.mg "set" = none) (he : PE X e te) (calm : X.calm = true := by rfl)
    (plain : starEach [e] X.env = (false, eval e X.env) :: starEach [] X.env := by rfl) : PE X (.Call (.Name "len" p1) [.Call (.Name "set" p2) [e] [] p3] [] p4) (tSetLen X.K te) := by
  constructor
  intro pins s σ H Q inv hyp
  refine Call_ (ld_blt inv gl ml boot_len (callWith_builtin1 (args_cons ?_ rfl) rfl rfl))
  refine Call_ (ld_blt inv gs ms boot_set (callWith_type1 (args_cons ?_ plain) plain rfl))
  refine thn (he.run pins s σ H _ inv hyp) fun v s1 ⟨x, H1, inv1, rx, hx⟩ => args_nil ?_
  obtain ⟨p, us, ex, hS, small, fin⟩ := hx
  subst ex
  cases rx
  obtain ⟨vs, rv, stands, _⟩ := inv1.list hS
  have size : vs.toArray.size = us.length := by rw [List.size_toArray, ← rv.length, List.length_map]
  refine call_set_list (inv1.ok.hd calm) stands.isList (by simpa using RZ.intsAre_vals rv) (by rw [size]; unfold scanBound; omega) fun h2 tk set2 keep => args_nil ?_
  rw [size] at set2
  obtain ⟨o, es, ep, t, get, exact', dat, _, _, _, fits, count⟩ := set2
  have inv2 : Inv X pins σ H1 { s1 with heap := h2, toks := tk } := inv1.kept fun b o e => keep b o (Heap.lt_size e) e
  have few := firstMet_length_le (fun i => us.getD i 0) us.length
  have count' : es.size = (metN us).length := count
  have few' : (metN us).length ≤ us.length := few
  refine call_len_set get exact' dat fits (by rw [count'] <;> omega) ⟨.int (metN us).length, H1, inv2.tok _, ⟨_, by rw [count']⟩, fin⟩

/-! ### Texts that are put together for an error: which text does not matter -/
def Sm (t : TE) (σ : L2.St) (H : Hp) : Prop := ∀ Q : VK, (∀ y : Str, y.length ≤ 1000 → Q (.str y) H) → t σ H Q
theorem sm_str {c : Str} {σ : L2.St} {H : Hp} (h : c.length ≤ 1000) : Sm (tC (.str c)) σ H := fun Q q => q c h
theorem small_text {g : Int} (h0 : 0 ≤ g) (h7 : g ≤ 7) : (Str.ofString (toString g)).length ≤ 1000 := by
  have : g = 0 ∨ g = 1 ∨ g = 2 ∨ g = 3 ∨ g = 4 ∨ g = 5 ∨ g = 6 ∨ g = 7 := by omega
  rcases this with h | h | h | h | h | h | h | h <;> (subst h; decide +kernel)
theorem small_log {g : Int} (h0 : 0 ≤ g) (h7 : g ≤ 7) : g.natAbs.log2 < 1920 := by
  have : g = 0 ∨ g = 1 ∨ g = 2 ∨ g = 3 ∨ g = 4 ∨ g = 5 ∨ g = 6 ∨ g = 7 := by omega
  rcases this with h | h | h | h | h | h | h | h <;> (subst h; decide +kernel)
theorem sm_fmt {te : TE} {σ : L2.St} {H : Hp} {g : Int} (h : ∀ Q : VK, Q (.int g) H → te σ H Q) (h0 : 0 ≤ g) (h7 : g ≤ 7) : Sm (tFmt te) σ H := fun Q q =>
  h _ (.inr ⟨g, rfl, small_log h0 h7, q _ (small_text h0 h7)⟩)
theorem js_small {σ : L2.St} {H : Hp} : ∀ (ts : List TE) (acc : Str) (Q : Str → Hp → Prop), (∀ t ∈ ts, Sm t σ H) → acc.length + 1000 * ts.length ≤ 1000000 → (∀ out, Q out H) → tJs ts acc σ H Q
  | [], acc, Q, _, _, q => q acc
  | t :: ts, acc, Q, h, hl, q => by
    rw [List.length_cons] at hl
    show t σ H fun x H1 => ∃ y : Str, x = .str y ∧ (acc ++ y).length ≤ sizeLine ∧ tJs ts (acc ++ y) σ H1 Q
    refine h t (List.mem_cons_self ..) _ fun y hy => ⟨y, rfl, ?_, js_small ts (acc ++ y) Q (fun u hu => h u (List.mem_cons_of_mem _ hu)) ?_ q⟩
    · rw [Str.length_append]
      exact Nat.le_of_lt (by unfold sizeLine; omega)
    · rw [Str.length_append]; omega

/-! ### Own errors -/
structure ErrC (K : PySem.W.Frag) (mg : Str → Option Value) (x : Str) (C : Addr) : Prop where
  g : mg x = some (.ref C)
  ex : PySem.W.excIn K C [.type "ValueError", .type "Exception", .type "BaseException", .type "object"] "ValueError.__new__" = true
  k : PySem.W.keepIn K (.ref C) = true
  b : PySem.W.subIn K (.ref C) (.type "BaseException") = some true
  t : PySem.W.typeIn K (.ref C) = some (.type "type")

/-- what a caller wants of a def that may raise -/
structure CalX (P : Program) (w : World) (K : PySem.W.Frag) (mg : Str → Option Value) (base : Heap) (k : Nat) (x : Str) (ps : List Str) (sp : Sp) : Prop where
  ex : ∃ (g : Addr) (gd : FuncData), FnOk P w K mg base (L2.CX P w) k g gd ps sp ∧ mg x = some (.ref g) ∧ PySem.W.keepIn K (.ref g) = true ∧ Binds K gd ps []

/-- isinstance of the error that a suite holds -/
def rIsEG (K : PySem.W.Frag) (cls : Value) (d : Option Addr) (a : Addr) : List V → Hp → VK → Prop := fun xs H Q => ∃ D, cls = .ref D ∧ d = none ∧ ExcC K D ∧ rIsE K D a xs H Q
theorem call_isEG {X : Cx} {K : PySem.W.Frag} (hK : X.K = K) {a : Addr} {oe : Obj} {cls : Value} {d : Option Addr} {pn : List (Addr × Obj)} (hz : Zc cls d oe) (hf : ∃ vs, oe.data = .fields vs) :
    CallR (X.suite a ((a, oe) :: pn)) (.builtin "isinstance") (rIsEG K cls d a) := by
  subst hK
  rintro pins s σ H xs us Q I r ⟨D, e1, e2, C, h⟩
  subst e1 e2
  exact call_isE C hz hf pins s σ H xs us Q I r h
/-- .. against a tuple of classes that was just laid -/
def rIsET (K : PySem.W.Frag) (cls : Value) (d : Option Addr) (a : Addr) : List V → Hp → VK → Prop := fun xs H Q => ∃ D, cls = .ref D ∧ d = none ∧ ExcC K D ∧
  ∃ (tp : Addr) (cs : List V) (ws : List Value) (b : Bool), xs = [.ref a, .ref tp] ∧ H tp = some (.tup cs) ∧ Paired ClsV cs ws ∧ PySem.W.kitAny K (.ref D) ws = some b ∧ Q (.bl b) H
theorem call_isET {X : Cx} {K : PySem.W.Frag} (hK : X.K = K) {a : Addr} {oe : Obj} {cls : Value} {d : Option Addr} {pn : List (Addr × Obj)} (hz : Zc cls d oe) (hf : ∃ vs, oe.data = .fields vs) :
    CallR (X.suite a ((a, oe) :: pn)) (.builtin "isinstance") (rIsET K cls d a) := by
  subst hK
  rintro pins s σ H xs us Q I r ⟨D, e1, e2, C, tp, cs, ws, b, e3, hT, pr, hk, q⟩
  subst e1 e2 e3
  obtain ⟨u1, u2, e4, r1, r2⟩ := vals2 r
  subst e4
  cases r1
  cases (show u2 = Value.ref tp from r2)
  obtain ⟨here, _⟩ := I.pin (a, oe) (List.mem_append.mpr (.inl List.mem_cons_self))
  obtain ⟨vs, dat⟩ := hf
  have inst : PySem.W.InstAt s.heap a oe D none := by
    obtain ⟨oc, od, oda, osl⟩ := oe
    obtain ⟨z1, z2⟩ := hz
    dsimp only at z1 z2 dat
    subst z1 z2 dat
    exact ⟨here, rfl, rfl, trivial⟩
  obtain ⟨_, its, rv, o, g1, g2, n, g3⟩ := (show ObjOk X.prog X.w H s.heap tp (.tup cs) from I.hok tp _ hT)
  have e5 := ClsV.all pr rv
  subst e5
  obtain ⟨oc, od, dt, sl⟩ := o
  simp only at g2 g3
  subst g2 g3
  exact PySem.W.kia_tup (PySem.W.handS_kitx_exc C.hg C.hk C.hs C.hd C.ha C.hn C.ht C.hm) I.kIn inst g1 hk (fun z => nomatch z) fun tk => ⟨.bl b, H, I.kept (t' := tk) fun _ _ z => z, rfl, q⟩

/-- an own class: what isinstance and except say of it -/
structure ClsK (K : PySem.W.Frag) (C : Addr) : Prop where
  d : PySem.W.hasDictIn K C = true
  t : PySem.W.typeIn K (.ref C) = some (.type "type")
  b : PySem.W.subIn K (.ref C) (.type "BaseException") = some true
theorem kit_own {K : PySem.W.Frag} {C D : Addr} {b : Bool} (c : ClsK K C) (s : PySem.W.subIn K (.ref D) (.ref C) = some b) (self : PySem.W.subIn K (.ref D) (.ref D) = some true) : PySem.W.kitOne K (.ref D) (.ref C) = some b := by
  unfold PySem.W.kitOne
  by_cases e : ((Value.ref D : Value) == .ref C) = true
  · rw [if_pos e]
    have e2 : D = C := Value.ref.inj (beq_iff_eq.mp e)
    subst e2
    rw [self] at s
    exact s
  · rw [if_neg e]
    obtain ⟨cd, hc, _⟩ := PySem.W.any_some c.d
    have e2 : ((PySem.W.clsIn K C).isSome && PySem.W.typeIn K (.ref C) == some (.type "type")) = true := by rw [hc, c.t]; rfl
    show (if ((PySem.W.clsIn K C).isSome && PySem.W.typeIn K (.ref C) == some (.type "type")) = true then PySem.W.subIn K (.ref D) (.ref C) else none) = some b
    rw [if_pos e2]
    exact s
theorem kit_val {K : PySem.W.Frag} {D : Addr} (s : PySem.W.subIn K (.ref D) (.type "ValueError") = some true) : PySem.W.kitOne K (.ref D) (.type "ValueError") = some true := by
  unfold PySem.W.kitOne
  have e : ((Value.ref D : Value) == .type "ValueError") = false := by
    apply beq_eq_false_iff_ne.mpr
    intro z
    cases z
  rw [e, if_neg Bool.false_ne_true]
  show (if PySem.W.kitMeta "ValueError" = true then PySem.W.subIn K (.ref D) (.type "ValueError") else none) = some true
  rw [if_pos (by decide +kernel)]
  exact s
theorem exm_own {K : PySem.W.Frag} {C : Addr} {cls : Value} {b : Bool} (c : ClsK K C) (s : PySem.W.subIn K cls (.ref C) = some b) : PySem.W.exmOne K cls (.ref C) = some b := PySem.W.exm_ref c.b c.d c.t s
theorem any_no {K : PySem.W.Frag} {t c : Value} {r : List Value} {b : Bool} (h : PySem.W.kitOne K t c = some false) (h2 : PySem.W.kitAny K t r = some b) : PySem.W.kitAny K t (c :: r) = some b := by
  unfold PySem.W.kitAny
  rw [h]
  exact h2
end B2

namespace B2
open PySem L2
def top (i : Nat) : Stmt := PySem.Challenge.pw_bedtwos_k02_wishes_refused.main.body.getD i (.Pass ⟨0, 0, 0, 0⟩)
abbrev s_is_guest : Stmt := top 11
abbrev s_need_row : Stmt := top 12
abbrev s_need_wishes : Stmt := top 13
abbrev s_suits : Stmt := top 17
abbrev s_rather : Stmt := top 18
abbrev s_restless : Stmt := top 22
abbrev s_calm : Stmt := top 23
abbrev s_all_twos : Stmt := top 26
abbrev s_all_calm : Stmt := top 27
abbrev s_holds : Stmt := top 34
abbrev s_dealt : Stmt := top 37
abbrev s_shown : Stmt := top 42
abbrev s_cell_at : Stmt := top 44
abbrev s_row_by : Stmt := top 45
abbrev s_wishes_by : Stmt := top 46
abbrev s_spoilt : Stmt := top 49
abbrev s_asked : Stmt := top 47
abbrev s_refused : Stmt := top 48
abbrev s_law : Stmt := top 50
abbrev s_inn_init : Stmt := inClass (top 39) 0
/-- the names of the machine's own -/
structure Own (mg : Str → Option Value) : Prop where
  len : mg "len" = none
  rng : mg "range" = none
  isI : mg "isinstance" = none
  int : mg "int" = none
  bool : mg "bool" = none
  list : mg "list" = none
  set : mg "set" = none
  enm : mg "enumerate" = none
  tup : mg "tuple" = none
end B2

namespace B2
open PySem L2

/-- what a caller wants of a def: it stands under its name, it keeps its promise -/
structure Cal (P : Program) (w : World) (K : PySem.W.Frag) (mg : Str → Option Value) (base : Heap) (k : Nat) (x : Str) (ps : List Str) (sp : Sp) : Prop where
  ex : ∃ (g : Addr) (gd : FuncData), FnOk P w K mg base CX0 k g gd ps sp ∧ mg x = some (.ref g) ∧ PySem.W.keepIn K (.ref g) = true ∧ Binds K gd ps []

theorem kit_ii {K : PySem.W.Frag} : PySem.W.kitOne K (.type "int") (.type "int") = some true := kit_ty (by decide +kernel)
theorem kit_ib {K : PySem.W.Frag} : PySem.W.kitOne K (.type "int") (.type "bool") = some false := kit_ty (by decide +kernel)
theorem kit_bb {K : PySem.W.Frag} : PySem.W.kitOne K (.type "bool") (.type "bool") = some true := kit_ty (by decide +kernel)
theorem kit_ll {K : PySem.W.Frag} : PySem.W.kitOne K (.type "list") (.type "list") = some true := kit_ty (by decide +kernel)
theorem ty_list {K : PySem.W.Frag} {H : Hp} {a : Addr} {xs : List V} (h : SqL K H a xs) : TyX K H (.ref a) (.type "list") := by
  rcases h with h | ⟨o, its, n, h, hc, _⟩
  · rcases h with h | ⟨o, h⟩
    · exact .base (.lst h)
    · exact .base (.frz h)
  · exact .kList h hc
end B2

namespace B2
open PySem L2

/-- no whole number: another kind, or a truth -/
def NotInt (K : PySem.W.Frag) (H : Hp) (x : V) : Prop := ∃ t, TyX K H x t ∧ (PySem.W.kitOne K t (.type "int") = some false ∨ (PySem.W.kitOne K t (.type "int") = some true ∧ PySem.W.kitOne K t (.type "bool") = some true))
def NotList (K : PySem.W.Frag) (H : Hp) (x : V) : Prop := ∃ t, TyX K H x t ∧ PySem.W.kitOne K t (.type "list") = some false
/-- no wish of guest g, one of n -/
def BadWish (K : PySem.W.Frag) (H : Hp) (n : Nat) (g : Int) (x : V) : Prop := NotInt K H x ∨ ∃ y : Int, x = V.int y ∧ ¬ (0 ≤ y ∧ y < (n : Int) ∧ y ≠ g)
/-- what can't be the list of guest g, one of n -/
def RowBad (K : PySem.W.Frag) (H : Hp) (n : Nat) (g : Int) (v : V) : Prop :=
  NotList K H v ∨
  (∃ (b : Addr) (xs : List V) (j : Nat) (x : V), v = V.ref b ∧ SqL K H b xs ∧ xs[j]? = some x ∧ (∀ i, i < j → ∃ y : Int, xs[i]? = some (V.int y) ∧ 0 ≤ y ∧ y < (n : Int) ∧ y ≠ g) ∧ BadWish K H n g x) ∨
  (∃ (b : Addr) (ns : List Int), v = V.ref b ∧ SqL K H b (ns.map V.int) ∧ (∀ y ∈ ns, 0 ≤ y ∧ y < (n : Int) ∧ y ≠ g) ∧ ¬ ns.Nodup ∧ ns.length ≤ 64)
/-- what is no table of wishes -/
def TabBad (K : PySem.W.Frag) (H : Hp) (v : V) : Prop :=
  NotList K H v ∨
  (∃ (a : Addr) (xs : List V), v = V.ref a ∧ SqL K H a xs ∧ (xs.length = 0 ∨ xs.length = 7)) ∨
  (∃ (a : Addr) (xs : List V) (g : Nat) (x : V), v = V.ref a ∧ SqL K H a xs ∧ 1 ≤ xs.length ∧ xs.length ≤ 6 ∧ xs[g]? = some x ∧
    (∀ i, i < g → ∃ (b : Addr) (r : List Int), xs[i]? = some (V.ref b) ∧ SqL K H b (r.map V.int) ∧ GoodRow xs.length (i : Int) r) ∧ RowBad K H xs.length (g : Int) x)

theorem tyOf_same {K : PySem.W.Frag} {H H' : Hp} {x : V} {t : Value} (e : Same H H') (h : TyOf K H x t) : TyOf K H' x t := by
  cases h with
  | non => exact .non
  | bl b => exact .bl b
  | int i => exact .int i
  | str s => exact .str s
  | flt f => exact .flt f
  | lst h => exact .lst (e _ _ h)
  | frz h => exact .frz (e _ _ h)
  | tup h => exact .tup (e _ _ h)
  | dK h => exact .dK (e _ _ h)
  | dT h => exact .dT (e _ _ h)
  | ins h a b c d f => exact .ins (e _ _ h) a b c d f
theorem tyX_same {K : PySem.W.Frag} {H H' : Hp} {x : V} {t : Value} (e : Same H H') (h : TyX K H x t) : TyX K H' x t := by
  cases h with
  | base h => exact .base (tyOf_same e h)
  | byt b => exact .byt b
  | set h => exact .set (e _ _ h)
  | kList h c => exact .kList h c
  | kTuple h c => exact .kTuple h c
  | kDict h c => exact .kDict h c
  | fTuple h => exact .fTuple (e _ _ h)
  | fDict h => exact .fDict (e _ _ h)
theorem NotInt.same {K : PySem.W.Frag} {H H' : Hp} {x : V} (h : NotInt K H x) (e : Same H H') : NotInt K H' x := by
  obtain ⟨t, ty, r⟩ := h
  exact ⟨t, tyX_same e ty, r⟩
theorem NotList.same {K : PySem.W.Frag} {H H' : Hp} {x : V} (h : NotList K H x) (e : Same H H') : NotList K H' x := by
  obtain ⟨t, ty, r⟩ := h
  exact ⟨t, tyX_same e ty, r⟩
theorem RowBad.same {K : PySem.W.Frag} {H H' : Hp} {n : Nat} {g : Int} {v : V} (h : RowBad K H n g v) (e : Same H H') : RowBad K H' n g v := by
  rcases h with h | ⟨b, xs, j, x, e1, hS, hj, hb, hbad⟩ | ⟨b, ns, e1, hS, r⟩
  · exact .inl (h.same e)
  · refine .inr (.inl ⟨b, xs, j, x, e1, e.seq hS, hj, hb, ?_⟩)
    rcases hbad with z | z
    · exact .inl (z.same e)
    · exact .inr z
  · exact .inr (.inr ⟨b, ns, e1, e.seq hS, r⟩)

section
variable {P : Program} {w : World} {K : PySem.W.Frag} {mg : Str → Option Value} {base : Heap}

/-! ### is_guest -/
theorem sc_is_guest : FnScope ["number", "many"] ["number", "many"] (defScope s_is_guest) := ⟨rfl, rfl, rfl, by decide +kernel, rfl, by decide +kernel, by decide +kernel⟩
def sp_is_guestX (K : PySem.W.Frag) : Sp := fun vs H Q _ => ∃ (x : V) (n : Int), vs = [x, .int n] ∧ ((∃ i : Int, x = V.int i ∧ Q (.bl (decide (0 ≤ i ∧ i < n))) H) ∨ (NotInt K H x ∧ Q (.bl false) H))
theorem ok_is_guestX {f : Addr} {fd : FuncData} (F : Fun K "is_guest" "is_guest" s_is_guest f fd) (T : Own mg) : FnOk P w K mg base CX0 1 f fd ["number", "many"] (sp_is_guestX K) := by
  refine F.ok sc_is_guest (fun vs H Q E h => ?_) (fun cdv A outer s H vs Q E hr h => ?_)
  · obtain ⟨i, n, rfl, _⟩ := h
    rfl
  obtain ⟨x, n, rfl, q⟩ := h
  refine ⟨_, pss_cons (ps_if (PW.pt (pw_or (pt_not (pt_val (pe_callB call_isi (by rfl) T.isI (by decide +kernel) (pa_cons (pv 0) (pa_cons (pe_bltn (v := .ty "int") (by rfl) T.int (by decide +kernel) rfl) pa_nil)))))
      (pw_or1 (pt_val (pe_callB call_isi (by rfl) T.isI (by decide +kernel) (pa_cons (pv 0) (pa_cons (pe_bltn (v := .ty "bool") (by rfl) T.bool (by decide +kernel) rfl) pa_nil))))))) (pss_one (ps_ret pe_bl)) pss_nil)
    (pss_one (ps_ret (pe_chain op_le op_lt pe_int (pv 0) (pv 1)))), ?_⟩
  rcases q with ⟨i, rfl, q⟩ | ⟨⟨t, ty, h | ⟨h1, h2⟩⟩, q⟩
  · refine ⟨_, rfl, _, _, _, _, _, rfl, .ty _, .base (.int i), kit_ii, _, rfl, iteF ⟨_, rfl, _, _, _, _, _, rfl, .ty _, .base (.int i), kit_ib, _, rfl, iteF ⟨_, rfl, _, _, rfl, rfl, _, rfl, ?_⟩⟩⟩
    refine ite2 (fun c => ?_) (fun c => ?_)
    · have c' : (0 : Int) ≤ i := of_decide_eq_true c
      refine ⟨_, rfl, _, _, rfl, rfl, ?_⟩
      have e : decide (i < n) = decide (0 ≤ i ∧ i < n) := by
        by_cases h : i < n
        · rw [decide_eq_true h, decide_eq_true ⟨c', h⟩]
        · rw [decide_eq_false h, decide_eq_false (fun z => h z.2)]
      show Q (.bl (decide (i < n))) H
      rw [e]; exact q
    · have c' : ¬ (0 : Int) ≤ i := of_decide_eq_false (Bool.eq_false_iff.mpr c)
      have e : decide (0 ≤ i ∧ i < n) = false := decide_eq_false (fun z => c' z.1)
      rw [e] at q; exact q
  · exact ⟨_, rfl, _, _, _, _, _, rfl, .ty _, ty, h, _, rfl, iteT q⟩
  · exact ⟨_, rfl, _, _, _, _, _, rfl, .ty _, ty, h1, _, rfl, iteF ⟨_, rfl, _, _, _, _, _, rfl, .ty _, ty, h2, _, rfl, iteT q⟩⟩

/-! ### need_row -/
theorem sc_need_row : FnScope ["row", "guest", "many", "wish"] ["row", "guest", "many"] (defScope s_need_row) := ⟨rfl, rfl, rfl, by decide +kernel, rfl, by decide +kernel, by decide +kernel⟩
def sp_need_rowX (K : PySem.W.Frag) (C : Addr) : Sp := fun vs H Q E => ∃ (v : V) (g : Int) (n : Nat), vs = [v, .int g, .int n] ∧ 0 ≤ g ∧ g ≤ 7 ∧
  ((∃ (b : Addr) (r : List Int), v = V.ref b ∧ SqL K H b (r.map V.int) ∧ GoodRow n g r ∧ Q .non H) ∨ (RowBad K H n g v ∧ E (.ref C) none H))
theorem ok_need_rowX {C : Addr} {f : Addr} {fd : FuncData} (F : Fun K "need_row" "need_row" s_need_row f fd) (T : Own mg) (W : ErrC K mg "BadWishes" C) (C1 : Cal P w K mg base 1 "is_guest" ["number", "many"] (sp_is_guestX K)) :
    FnOk P w K mg base (L2.CX P w) 2 f fd ["row", "guest", "many"] (sp_need_rowX K C) := by
  obtain ⟨g1, gd1, G1, m1, k1, b1⟩ := C1
  refine F.okX sc_need_row (fun vs H Q E h => ?_) (fun cdv A outer s H vs Q E hr h => ?_)
  · obtain ⟨v, g, n, rfl, _⟩ := h
    rfl
  obtain ⟨v, g, n, rfl, g0, g7, q⟩ := h
  refine ⟨_, pss_cons (ps_if (pt_not (pt_val (pe_callB call_isi (by rfl) T.isI (by decide +kernel) (pa_cons (pv 0) (pa_cons (pe_bltn (v := .ty "list") (by rfl) T.list (by decide +kernel) rfl) pa_nil)))))
      (pss_one (ps_raise rfl (takes_of rfl rfl rfl rfl) (pmk_ownA PySem.F.excBase_ValueError W.ex W.g W.k (raises_own W.b W.t) (by rfl) (pa_cons (pe_joined (.cons pe_str (.cons (pe_fmt (pv 1)) (.cons pe_str .nil)))) pa_nil)))) pss_nil)
    (pss_cons (ps_for (passes_of rfl) rfl (pi_list (pv 0)) (pg_name (i := 3) sc_need_row.nd rfl (Or.inl rfl))
      (pss_one (ps_if (PW.pt (pw_or (pt_not (pt_val (pe_call G1 hr (by rfl) m1 k1 b1 .nil pass0 (pa_cons (pv 3) (pa_cons (pv 2) pa_nil)))))
        (pw_or1 (pt_cmpR op_eq (pv 3) (pv 1) (nomark _)))))
        (pss_one (ps_raise rfl (takes_of rfl rfl rfl rfl) (pmk_ownA PySem.F.excBase_ValueError W.ex W.g W.k (raises_own W.b W.t) (by rfl) (pa_cons (pe_joined (.cons pe_str (.cons (pe_fmt (pv 1)) (.cons pe_str .nil)))) pa_nil)))) pss_nil)))
    (pss_one (ps_if (pt_cmpR op_lt (pe_setLen (by rfl) T.len (by rfl) T.set (pv 0)) (pe_callB call_len_seq (by rfl) T.len PySem.boot_len (pa_cons (pv 0) pa_nil)) (nomark _))
      (pss_one (ps_raise rfl (takes_of rfl rfl rfl rfl) (pmk_ownA PySem.F.excBase_ValueError W.ex W.g W.k (raises_own W.b W.t) (by rfl) (pa_cons (pe_joined (.cons pe_str (.cons (pe_fmt (pv 1)) (.cons pe_str .nil)))) pa_nil)))) pss_nil))), ?_⟩
  -- an error's text
  have txt : ∀ (σ : St) (c1 c2 : Str) (Q2 : Str → Hp → Prop), σ[1]? = some (some (.int g)) → c1.length ≤ 1000 → c2.length ≤ 1000 → (∀ out, Q2 out H) → tJs [tC (.str c1), tFmt (tVar 1), tC (.str c2)] Str.empty σ H Q2 := fun σ c1 c2 Q2 h1 l1 l2 q2 =>
    js_small _ _ _ (fun t ht => by
      rcases List.mem_cons.mp ht with e | ht
      · rw [e]; exact sm_str l1
      rcases List.mem_cons.mp ht with e | ht
      · rw [e]; exact sm_fmt (g := g) (fun Q q => ⟨_, h1, q⟩) g0 g7
      rw [List.mem_singleton] at ht
      rw [ht]; exact sm_str l2) (by rw [show Str.empty.length = 0 from rfl]; show 0 + 1000 * 3 ≤ 1000000; decide) q2
  rcases q with ⟨b, r, rfl, hS, hG, q⟩ | ⟨hB, q⟩
  · refine ⟨_, rfl, _, _, _, _, _, rfl, .ty _, ty_list hS, kit_ll, _, rfl, iteF ?_⟩
    refine ⟨_, rfl, b, rfl, ⟨_, hS⟩, for_list (K := K) (a := b) (xs := r.map V.int) (fun i σ H' => H' = H ∧ ∃ z, σ = [some (.ref b), some (.int g), some (.int n), z])
      ⟨rfl, none, rfl⟩ (fun i σ H' _ h => by rw [h.1]; exact hS) ?_ ?_⟩
    · rintro i x σ H' hx ⟨rfl, z, rfl⟩
      obtain ⟨y, hy, rfl⟩ := map_int_get hx
      obtain ⟨y0, y1, y2⟩ := hG.rg y (List.mem_of_getElem? hy)
      refine ⟨_, rfl, _, rfl, _, n, rfl, .inl ⟨y, rfl, _, rfl, ?_⟩⟩
      rw [decide_eq_true (And.intro y0 y1)]
      refine iteF ⟨_, rfl, _, rfl, rfl, _, rfl, ?_⟩
      rw [decide_eq_false (fun z => y2 (by cases z; rfl))]
      exact iteF ⟨rfl, _, rfl⟩
    · rintro σ H' ⟨rfl, z, rfl⟩
      have hl := hG.sm
      refine ⟨_, rfl, b, r, rfl, hS, by omega, _, rfl, b, _, rfl, .inl hS, _, _, rfl, rfl, _, rfl, ?_⟩
      rw [met_same hG.nd, List.length_map, decide_eq_false (show ¬ ((r.length : Nat) : Int) < ((r.length : Nat) : Int) by omega)]
      exact iteF q
  · rcases hB with ⟨t, ty, hk⟩ | ⟨b, xs, j, x, rfl, hS, hj, hbef, hbad⟩ | ⟨b, ns, rfl, hS, hv, hnd, hl⟩
    · refine ⟨_, rfl, _, _, _, _, _, rfl, .ty _, ty, hk, _, rfl, iteT ?_⟩
      exact txt _ _ _ _ rfl (by decide +kernel) (by decide +kernel) fun out => ⟨(by show 1 ≤ sizeLine; decide), q⟩
    · refine ⟨_, rfl, _, _, _, _, _, rfl, .ty _, ty_list hS, kit_ll, _, rfl, iteF ?_⟩
      refine ⟨_, rfl, b, rfl, ⟨_, hS⟩, for_list (K := K) (a := b) (xs := xs) (fun i σ H' => H' = H ∧ i ≤ j ∧ ∃ z, σ = [some (.ref b), some (.int g), some (.int n), z])
        ⟨rfl, Nat.zero_le _, none, rfl⟩ (fun i σ H' _ h => by rw [h.1]; exact hS) ?_ ?_⟩
      · rintro i u σ H' hu ⟨rfl, hij, z, rfl⟩
        by_cases c : i = j
        · subst c
          rw [hj] at hu
          cases hu
          rcases hbad with hN | ⟨y, rfl, hy⟩
          · refine ⟨_, rfl, _, rfl, _, n, rfl, .inr ⟨hN, _, rfl, iteT ?_⟩⟩
            exact txt _ _ _ _ rfl (by decide +kernel) (by decide +kernel) fun out => ⟨(by show 1 ≤ sizeLine; decide), q⟩
          · refine ⟨_, rfl, _, rfl, _, n, rfl, .inl ⟨y, rfl, _, rfl, ?_⟩⟩
            by_cases c2 : 0 ≤ y ∧ y < (n : Int)
            · rw [decide_eq_true c2]
              refine iteF ⟨_, rfl, _, rfl, rfl, _, rfl, ?_⟩
              have e : y = g := Classical.byContradiction fun z => hy ⟨c2.1, c2.2, z⟩
              rw [decide_eq_true (show V.int y = V.int g by rw [e])]
              exact iteT (txt _ _ _ _ rfl (by decide +kernel) (by decide +kernel) fun out => ⟨(by show 1 ≤ sizeLine; decide), q⟩)
            · rw [decide_eq_false c2]
              exact iteT (txt _ _ _ _ rfl (by decide +kernel) (by decide +kernel) fun out => ⟨(by show 1 ≤ sizeLine; decide), q⟩)
        · obtain ⟨y, hy, y0, y1, y2⟩ := hbef i (by omega)
          rw [hu] at hy
          cases hy
          refine ⟨_, rfl, _, rfl, _, n, rfl, .inl ⟨y, rfl, _, rfl, ?_⟩⟩
          rw [decide_eq_true (And.intro y0 y1)]
          refine iteF ⟨_, rfl, _, rfl, rfl, _, rfl, ?_⟩
          rw [decide_eq_false (fun z => y2 (by cases z; rfl))]
          exact iteF ⟨rfl, by omega, _, rfl⟩
      · rintro σ H' ⟨_, hij, _⟩
        have := (List.getElem?_eq_some_iff.mp hj).1
        omega
    · refine ⟨_, rfl, _, _, _, _, _, rfl, .ty _, ty_list hS, kit_ll, _, rfl, iteF ?_⟩
      refine ⟨_, rfl, b, rfl, ⟨_, hS⟩, for_list (K := K) (a := b) (xs := ns.map V.int) (fun i σ H' => H' = H ∧ ∃ z, σ = [some (.ref b), some (.int g), some (.int n), z])
        ⟨rfl, none, rfl⟩ (fun i σ H' _ h => by rw [h.1]; exact hS) ?_ ?_⟩
      · rintro i x σ H' hx ⟨rfl, z, rfl⟩
        obtain ⟨y, hy, rfl⟩ := map_int_get hx
        obtain ⟨y0, y1, y2⟩ := hv y (List.mem_of_getElem? hy)
        refine ⟨_, rfl, _, rfl, _, n, rfl, .inl ⟨y, rfl, _, rfl, ?_⟩⟩
        rw [decide_eq_true (And.intro y0 y1)]
        refine iteF ⟨_, rfl, _, rfl, rfl, _, rfl, ?_⟩
        rw [decide_eq_false (fun z => y2 (by cases z; rfl))]
        exact iteF ⟨rfl, _, rfl⟩
      · rintro σ H' ⟨rfl, z, rfl⟩
        refine ⟨_, rfl, b, ns, rfl, hS, by omega, _, rfl, b, _, rfl, .inl hS, _, _, rfl, rfl, _, rfl, ?_⟩
        have hlt := met_less hnd
        rw [List.length_map, decide_eq_true (show (((metN ns).length : Nat) : Int) < ((ns.length : Nat) : Int) by omega)]
        refine iteT ?_
        exact txt _ _ _ _ rfl (by decide +kernel) (by decide +kernel) fun out => ⟨(by show 1 ≤ sizeLine; decide), q⟩

/-! ### need_wishes -/
theorem sc_need_wishes : FnScope ["wishes", "many", "guest", "row"] ["wishes"] (defScope s_need_wishes) := ⟨rfl, rfl, rfl, by decide +kernel, rfl, by decide +kernel, by decide +kernel⟩
def sp_need_wishesX (K : PySem.W.Frag) (C : Addr) : Sp := fun vs H Q E => ∃ (v : V), vs = [v] ∧
  ((∃ a ws, v = V.ref a ∧ Tab K H a ws ∧ Good ws ∧ ∀ H', Same H H' → Q .non H') ∨ (TabBad K H v ∧ ∀ H', Same H H' → E (.ref C) none H'))
theorem ok_need_wishesX {C : Addr} {f : Addr} {fd : FuncData} (F : Fun K "need_wishes" "need_wishes" s_need_wishes f fd) (T : Own mg) (M : ∃ t, mg "MOST_GUESTS" = some (.int 6 t)) (W : ErrC K mg "BadWishes" C) (C1 : CalX P w K mg base 2 "need_row" ["row", "guest", "many"] (sp_need_rowX K C)) :
    FnOk P w K mg base (L2.CX P w) 3 f fd ["wishes"] (sp_need_wishesX K C) := by
  obtain ⟨g1, gd1, G1, m1, k1, b1⟩ := C1
  obtain ⟨t, mM⟩ := M
  refine F.okX sc_need_wishes (fun vs H Q E h => ?_) (fun cdv A outer s H vs Q E hr h => ?_)
  · obtain ⟨v, rfl, _⟩ := h
    rfl
  obtain ⟨v, rfl, q⟩ := h
  refine ⟨_, pss_cons (ps_if (pt_not (pt_val (pe_callB call_isi (by rfl) T.isI (by decide +kernel) (pa_cons (pv 0) (pa_cons (pe_bltn (v := .ty "list") (by rfl) T.list (by decide +kernel) rfl) pa_nil)))))
      (pss_one (ps_raise rfl (takes_of rfl rfl rfl rfl) (pmk_own PySem.F.excBase_ValueError W.ex W.g W.k (raises_own W.b W.t) (by rfl)))) pss_nil)
    (pss_cons (ps_set (i := 1) sc_need_wishes.nd rfl (Or.inl rfl) (pe_callB call_len_seq (by rfl) T.len PySem.boot_len (pa_cons (pv 0) pa_nil)))
    (pss_cons (ps_if (pt_not (pt_chain op_le op_le pe_int (pv 1) (pe_glob (v := .int 6) rfl mM ⟨_, rfl⟩)))
      (pss_one (ps_raise rfl (takes_of rfl rfl rfl rfl) (pmk_ownA PySem.F.excBase_ValueError W.ex W.g W.k (raises_own W.b W.t) (by rfl)
        (pa_cons (pe_joined (.cons pe_str (.cons (pe_fmt (pe_glob (v := .int 6) rfl mM ⟨_, rfl⟩)) (.cons pe_str (.cons (pe_fmt (pv 1)) .nil))))) pa_nil)))) pss_nil)
    (pss_one (ps_for (passes_of rfl) rfl (pi_enum (by rfl) T.enm (pa_cons (pv 0) pa_nil))
      (pg_tup (by rfl) (pgs_cons (pg_name (i := 2) sc_need_wishes.nd rfl (Or.inl rfl)) (pgs_cons (pg_name (i := 3) sc_need_wishes.nd rfl (Or.inl rfl)) pgs_nil)))
      (pss_one (ps_expr (pe_call G1 hr (by rfl) m1 k1 b1 .nil (passes_call (takes_of rfl rfl rfl rfl) fun _ _ _ _ h => h) (pa_cons (pv 3) (pa_cons (pv 2) (pa_cons (pv 1) pa_nil)))))))))), ?_⟩
  -- the rows one by one, until one is bad
  rcases q with ⟨a, ws, rfl, hT, hG, q⟩ | ⟨⟨t, ty, hk⟩ | ⟨a, xs, rfl, hS, hl⟩ | ⟨a, xs, g, x, rfl, hS, l1, l6, hg, hbef, hbad⟩, q⟩
  · obtain ⟨as, h1, h2, h3⟩ := id hT
    have hl : (as.map V.ref).length = ws.length := by rw [List.length_map]; exact h2
    have lo := hG.lo
    have hi := hG.hi
    refine ⟨_, rfl, _, _, _, _, _, rfl, .ty _, ty_list h1, kit_ll, _, rfl, iteF ?_⟩
    refine ⟨_, rfl, a, _, rfl, .inl h1, ?_⟩
    rw [hl]
    refine ⟨_, rfl, _, _, rfl, rfl, _, rfl, ?_⟩
    rw [decide_eq_true (show (1 : Int) ≤ ((ws.length : Nat) : Int) by omega)]
    refine iteT ⟨_, _, rfl, rfl, _, rfl, ?_⟩
    rw [decide_eq_true (show ((ws.length : Nat) : Int) ≤ 6 by omega)]
    refine iteF ?_
    refine ⟨_, rfl, a, _, rfl, h1, for_it walk_enum (fun i σ H' => Same H H' ∧ ∃ y z, σ = [some (.ref a), some (.int ws.length), y, z])
      ⟨Same.refl H, none, none, rfl⟩ (fun i σ H' _ h => h.1.seq h1) ?_ ?_⟩
    · rintro i x σ H' H2 hi' ⟨hs, y, z, rfl⟩ ⟨t, x1, x2, rfl, ht, rfl, ex1, ex2⟩
      rw [hl] at hi'
      cases ex1
      obtain ⟨b, hb, hsb⟩ := h3 i ws[i] (List.getElem?_eq_getElem hi')
      change (as.map V.ref)[i]? = some x2 at ex2
      rw [List.getElem?_map, hb] at ex2
      cases ex2
      have hs2 := hs.trans (same_new ht (.tup [V.int (i : Nat), V.ref b]))
      refine ⟨t, _, rfl, SqT.of upd_same, rfl, _, _, rfl, _, _, rfl, rfl, ?_⟩
      exact ⟨_, rfl, _, rfl, _, rfl, _, (i : Int), ws.length, rfl, by omega, by omega, .inl ⟨b, ws[i], rfl, hs2.seq hsb, hG.row i _ (List.getElem?_eq_getElem hi'), hs2, _, _, rfl⟩⟩
    · rintro σ H' ⟨hs, y, z, rfl⟩
      exact q H' hs
  · exact ⟨_, rfl, _, _, _, _, _, rfl, .ty _, ty, hk, _, rfl, iteT (q H (Same.refl H))⟩
  · refine ⟨_, rfl, _, _, _, _, _, rfl, .ty _, ty_list hS, kit_ll, _, rfl, iteF ?_⟩
    refine ⟨_, rfl, a, _, rfl, .inl hS, ?_⟩
    have txt : tJs [tC (.str ("there are from one to " : Str)), tFmt (tC (.int 6)), tC (.str (" guests, not " : Str)), tFmt (tVar 1)] Str.empty [some (V.ref a), some (.int (xs.length : Nat)), none, none] H (fun out H1 => ([V.str out] : List V).length ≤ sizeLine ∧ E (.ref C) none H1) :=
      js_small _ _ _ (fun t ht => by
        rcases List.mem_cons.mp ht with e | ht
        · rw [e]; exact sm_str (by decide +kernel)
        rcases List.mem_cons.mp ht with e | ht
        · rw [e]; exact sm_fmt (g := 6) (fun Q q => q) (by decide) (by decide)
        rcases List.mem_cons.mp ht with e | ht
        · rw [e]; exact sm_str (by decide +kernel)
        rw [List.mem_singleton] at ht
        rw [ht]
        exact sm_fmt (g := ((xs.length : Nat) : Int)) (fun Q q => ⟨_, rfl, q⟩) (by omega) (by omega)) (by rw [show Str.empty.length = 0 from rfl]; show 0 + 1000 * 4 ≤ 1000000; decide) fun out => ⟨(by show 1 ≤ sizeLine; decide), q H (Same.refl H)⟩
    refine ⟨_, rfl, _, _, rfl, rfl, _, rfl, ?_⟩
    rcases hl with hl | hl
    · rw [decide_eq_false (show ¬ (1 : Int) ≤ ((xs.length : Nat) : Int) by omega)]
      exact ⟨_, rfl, txt⟩
    · rw [decide_eq_true (show (1 : Int) ≤ ((xs.length : Nat) : Int) by omega)]
      refine iteT ⟨_, _, rfl, rfl, _, rfl, ?_⟩
      rw [decide_eq_false (show ¬ ((xs.length : Nat) : Int) ≤ 6 by omega)]
      exact txt
  · refine ⟨_, rfl, _, _, _, _, _, rfl, .ty _, ty_list hS, kit_ll, _, rfl, iteF ?_⟩
    refine ⟨_, rfl, a, _, rfl, .inl hS, ?_⟩
    refine ⟨_, rfl, _, _, rfl, rfl, _, rfl, ?_⟩
    rw [decide_eq_true (show (1 : Int) ≤ ((xs.length : Nat) : Int) by omega)]
    refine iteT ⟨_, _, rfl, rfl, _, rfl, ?_⟩
    rw [decide_eq_true (show ((xs.length : Nat) : Int) ≤ 6 by omega)]
    refine iteF ?_
    refine ⟨_, rfl, a, _, rfl, hS, for_it walk_enum (fun i σ H' => Same H H' ∧ i ≤ g ∧ ∃ y z, σ = [some (.ref a), some (.int xs.length), y, z])
      ⟨Same.refl H, Nat.zero_le _, none, none, rfl⟩ (fun i σ H' _ h => h.1.seq hS) ?_ ?_⟩
    · rintro i u σ H' H2 hi' ⟨hs, hig, y, z, rfl⟩ ⟨t, x1, x2, rfl, ht, rfl, ex1, ex2⟩
      cases ex1
      change xs[i]? = some x2 at ex2
      have hs2 := hs.trans (same_new ht (.tup [V.int (i : Nat), x2]))
      refine ⟨t, _, rfl, SqT.of upd_same, rfl, _, _, rfl, _, _, rfl, rfl, ?_⟩
      by_cases c : i = g
      · subst c
        rw [hg] at ex2
        cases ex2
        exact ⟨_, rfl, _, rfl, _, rfl, _, (i : Int), xs.length, rfl, by omega, by omega, .inr ⟨hbad.same hs2, q _ hs2⟩⟩
      · obtain ⟨b, r, hb, hsb, hgr⟩ := hbef i (by omega)
        rw [hb] at ex2
        cases ex2
        exact ⟨_, rfl, _, rfl, _, rfl, _, (i : Int), xs.length, rfl, by omega, by omega, .inl ⟨b, r, rfl, hs2.seq hsb, hgr, hs2, by omega, _, _, rfl⟩⟩
    · rintro σ H' ⟨hs, hig, _⟩
      have := (List.getElem?_eq_some_iff.mp hg).1
      omega

/-! ### Whoever asks need_wishes first refuses as it does -/
theorem pe_no {X : Cx} {e : Expr} : PE X e (fun _ _ _ => False) := ⟨fun _ _ _ _ _ _ h => h.elim⟩
theorem pt_no {X : Cx} {e : Expr} : PT X e (fun _ _ _ => False) := ⟨fun _ _ _ _ _ _ h => h.elim⟩
def sp_bad (K : PySem.W.Frag) (C : Addr) (n : Nat) : Sp := fun vs H _ E => vs.length = n ∧ ∃ v r, vs = v :: r ∧ TabBad K H v ∧ ∀ H', Same H H' → E (.ref C) none H'

theorem pss_no {X : Cx} {st : List Stmt} : PSs X st (fun _ _ _ => False) := ⟨fun _ _ _ _ _ _ h => h.elim⟩
end
end B2

namespace B2
open PySem L2
section
variable {P : Program} {w : World} {K : PySem.W.Frag} {mg : Str → Option Value} {base : Heap}

/-! ### Whoever asks need_wishes first refuses bad wishes as it does -/
theorem sc_suits : FnScope ["wishes", "one", "other"] ["wishes", "one", "other"] (defScope s_suits) := ⟨rfl, rfl, rfl, by decide +kernel, rfl, by decide +kernel, by decide +kernel⟩
theorem ok_suitsB {C : Addr} {f : Addr} {fd : FuncData} (F : Fun K "suits" "suits" s_suits f fd) (C1 : CalX P w K mg base 3 "need_wishes" ["wishes"] (sp_need_wishesX K C)) : FnOk P w K mg base (L2.CX P w) 4 f fd ["wishes", "one", "other"] (sp_bad K C 3) := by
  obtain ⟨g1, gd1, G1, m1, k1, b1⟩ := C1
  refine F.okX sc_suits (fun vs H Q E h => h.1) (fun cdv A outer s H vs Q E hr h => ?_)
  obtain ⟨hl, v, r, rfl, hB, q⟩ := h
  exact ⟨_, pss_cons (ps_expr (pe_call G1 hr (by rfl) m1 k1 b1 .nil (passes_call (takes_of rfl rfl rfl rfl) fun _ _ _ _ h => h) (pa_cons (pv 0) pa_nil))) pss_no, v, rfl, v, rfl, .inr ⟨hB, q⟩⟩
theorem sc_rather : FnScope ["wishes", "guest", "one", "other", "choice"] ["wishes", "guest", "one", "other"] (defScope s_rather) := ⟨rfl, rfl, rfl, by decide +kernel, rfl, by decide +kernel, by decide +kernel⟩
theorem ok_ratherB {C : Addr} {f : Addr} {fd : FuncData} (F : Fun K "rather" "rather" s_rather f fd) (C1 : CalX P w K mg base 3 "need_wishes" ["wishes"] (sp_need_wishesX K C)) : FnOk P w K mg base (L2.CX P w) 4 f fd ["wishes", "guest", "one", "other"] (sp_bad K C 4) := by
  obtain ⟨g1, gd1, G1, m1, k1, b1⟩ := C1
  refine F.okX sc_rather (fun vs H Q E h => h.1) (fun cdv A outer s H vs Q E hr h => ?_)
  obtain ⟨hl, v, r, rfl, hB, q⟩ := h
  exact ⟨_, pss_cons (ps_expr (pe_call G1 hr (by rfl) m1 k1 b1 .nil (passes_call (takes_of rfl rfl rfl rfl) fun _ _ _ _ h => h) (pa_cons (pv 0) pa_nil))) pss_no, v, rfl, v, rfl, .inr ⟨hB, q⟩⟩
theorem sc_restless : FnScope ["wishes", "mates"] ["wishes", "mates"] (defScope s_restless) := ⟨rfl, rfl, rfl, by decide +kernel, rfl, by decide +kernel, by decide +kernel⟩
theorem ok_restlessB {C : Addr} {f : Addr} {fd : FuncData} (F : Fun K "restless" "restless" s_restless f fd) (C1 : CalX P w K mg base 3 "need_wishes" ["wishes"] (sp_need_wishesX K C)) : FnOk P w K mg base (L2.CX P w) 4 f fd ["wishes", "mates"] (sp_bad K C 2) := by
  obtain ⟨g1, gd1, G1, m1, k1, b1⟩ := C1
  refine F.okX sc_restless (fun vs H Q E h => h.1) (fun cdv A outer s H vs Q E hr h => ?_)
  obtain ⟨hl, v, r, rfl, hB, q⟩ := h
  exact ⟨_, pss_cons (ps_expr (pe_call G1 hr (by rfl) m1 k1 b1 .nil (passes_call (takes_of rfl rfl rfl rfl) fun _ _ _ _ h => h) (pa_cons (pv 0) pa_nil))) pss_no, v, rfl, v, rfl, .inr ⟨hB, q⟩⟩
theorem sc_calm : FnScope ["wishes", "mates"] ["wishes", "mates"] (defScope s_calm) := ⟨rfl, rfl, rfl, by decide +kernel, rfl, by decide +kernel, by decide +kernel⟩
theorem ok_calmB {C : Addr} {f : Addr} {fd : FuncData} (F : Fun K "calm" "calm" s_calm f fd) (C1 : CalX P w K mg base 4 "restless" ["wishes", "mates"] (sp_bad K C 2)) : FnOk P w K mg base (L2.CX P w) 5 f fd ["wishes", "mates"] (sp_bad K C 2) := by
  obtain ⟨g1, gd1, G1, m1, k1, b1⟩ := C1
  refine F.okX sc_calm (fun vs H Q E h => h.1) (fun cdv A outer s H vs Q E hr h => ?_)
  obtain ⟨hl, v, r, rfl, hB, q⟩ := h
  match r, hl with
  | [m], _ =>
    exact ⟨_, pss_one (ps_ret (pe_cmpR (op_eqD hr.units) (pe_call G1 hr (by rfl) m1 k1 b1 .nil (passes_call (takes_of rfl rfl rfl rfl) fun _ _ _ _ h => h) (pa_cons (pv 0) (pa_cons (pv 1) pa_nil))) pe_no (nomark _))),
      v, rfl, m, rfl, rfl, v, [m], rfl, hB, q⟩
theorem sc_all_twos : FnScope ["wishes", "found", "guest", "mates", "further"] ["wishes"] (defScope s_all_twos) := ⟨rfl, rfl, rfl, by decide +kernel, rfl, by decide +kernel, by decide +kernel⟩
theorem ok_all_twosB {C : Addr} {f : Addr} {fd : FuncData} (F : Fun K "all_twos" "all_twos" s_all_twos f fd) (C1 : CalX P w K mg base 3 "need_wishes" ["wishes"] (sp_need_wishesX K C)) : FnOk P w K mg base (L2.CX P w) 4 f fd ["wishes"] (sp_bad K C 1) := by
  obtain ⟨g1, gd1, G1, m1, k1, b1⟩ := C1
  refine F.okX sc_all_twos (fun vs H Q E h => h.1) (fun cdv A outer s H vs Q E hr h => ?_)
  obtain ⟨hl, v, r, rfl, hB, q⟩ := h
  exact ⟨_, pss_cons (ps_expr (pe_call G1 hr (by rfl) m1 k1 b1 .nil (passes_call (takes_of rfl rfl rfl rfl) fun _ _ _ _ h => h) (pa_cons (pv 0) pa_nil))) pss_no, v, rfl, v, rfl, .inr ⟨hB, q⟩⟩
theorem sc_all_calm : FnScope ["wishes", "mates"] ["wishes"] (defScope s_all_calm) := ⟨rfl, rfl, rfl, by decide +kernel, rfl, by decide +kernel, by decide +kernel⟩
theorem ok_all_calmB {C : Addr} {f : Addr} {fd : FuncData} (F : Fun K "all_calm" "all_calm" s_all_calm f fd) (C1 : CalX P w K mg base 4 "all_twos" ["wishes"] (sp_bad K C 1)) : FnOk P w K mg base (L2.CX P w) 5 f fd ["wishes"] (sp_bad K C 1) := by
  obtain ⟨g1, gd1, G1, m1, k1, b1⟩ := C1
  refine F.okX sc_all_calm (fun vs H Q E h => h.1) (fun cdv A outer s H vs Q E hr h => ?_)
  obtain ⟨hl, v, r, rfl, hB, q⟩ := h
  match r, hl with
  | [], _ =>
    exact ⟨_, pss_one (ps_ret (pe_lc (own := [("mates", 1)]) (g := gName 1) rfl sc_all_calm.nd (pi_list (pe_call G1 hr (by rfl) m1 k1 b1 .nil (passes_call (takes_of rfl rfl rfl rfl) fun _ _ _ _ h => h) (pa_cons (pv 0) pa_nil)))
      (blkOk_by (N := ["wishes", "mates"]) (sc := defScope s_all_calm) (by decide +kernel))
      (fun _ _ _ _ _ => pg_name (i := 1) sc_all_calm.nd rfl (Or.inl rfl)) (fun _ _ _ _ _ => pts_one pt_no) (fun _ _ _ _ _ => pe_no))),
      v, rfl, rfl, v, [], rfl, hB, q⟩
end
end B2

namespace B2
open PySem L2
section
variable {P : Program} {w : World} {K : PySem.W.Frag} {mg : Str → Option Value} {base : Heap}

/-! ### _law_cell_at -/
theorem sc_cell_at : FnScope ["_law_script", "_law_k"] ["_law_script", "_law_k"] (defScope s_cell_at) := ⟨rfl, rfl, rfl, by decide +kernel, rfl, by decide +kernel, by decide +kernel⟩
def sp_cell_at (K : PySem.W.Frag) : Sp := fun vs H Q _ => ∃ (a : Addr) (ns : List Int) (k : Int), vs = [.ref a, .int k] ∧ SqL K H a (ns.map V.int) ∧ 0 ≤ k ∧ ∀ c : Int, Q (.int c) H
theorem ok_cell_at {f : Addr} {fd : FuncData} (F : Fun K "_law_cell_at" "_law_cell_at" s_cell_at f fd) (T : Own mg) : FnOk P w K mg base CX0 1 f fd ["_law_script", "_law_k"] (sp_cell_at K) := by
  refine F.ok sc_cell_at (fun vs H Q E h => ?_) (fun cdv A outer s H vs Q E hr h => ?_)
  · obtain ⟨a, ns, k, rfl, _⟩ := h
    rfl
  obtain ⟨a, ns, k, rfl, hS, k0, q⟩ := h
  refine ⟨_, pss_cons (ps_if (pt_cmpR op_lt (pv 1) (pe_callB call_len_seq (by rfl) T.len PySem.boot_len (pa_cons (pv 0) pa_nil)) (nomark _))
      (pss_one (ps_ret (pe_ix ix_list (pv 0) (pv 1) (fun _ _ => rfl)))) pss_nil)
    (pss_one (ps_ret pe_int)), ?_⟩
  refine ⟨_, rfl, _, rfl, a, _, rfl, .inl hS, _, _, rfl, rfl, _, rfl, ?_⟩
  refine ite2 (fun c => ?_) (fun c => ?_)
  · have c' : k < (((ns.map V.int).length : Nat) : Int) := of_decide_eq_true c
    rw [List.length_map] at c'
    have hk : k.toNat < ns.length := by omega
    have e : k = ((k.toNat : Nat) : Int) := by omega
    have z : atI (ns.map V.int) ((k.toNat : Nat) : Int) = some (.int ns[k.toNat]) := atI_nat (by rw [List.getElem?_map, List.getElem?_eq_getElem hk]; rfl)
    rw [← e] at z
    exact ⟨_, rfl, _, rfl, a, _, _, _, rfl, rfl, hS, z, q _⟩
  · exact q 0

/-! ### _law_row_by -/
theorem sc_row_by : FnScope ["_law_cell", "_law_guest", "_law_many", "_law_full", "_law_left", "_law_row", "_law_one"] ["_law_cell", "_law_guest", "_law_many", "_law_full"] (defScope s_row_by) := ⟨rfl, rfl, rfl, by decide +kernel, rfl, by decide +kernel, by decide +kernel⟩
def sp_row_by : Sp := fun vs H Q _ => ∃ (c g : Int) (n : Nat) (full : Bool), vs = [.int c, .int g, .int n, .bl full] ∧ n ≤ 6 ∧
  ∀ (H' : Hp) (p : Addr) (r : List Int), Same H H' → H p = none → H' p = some (.lst (r.map V.int)) → GoodRow n g r → Q (.ref p) H'

/-- what is left to be drawn, and what is drawn -/
structure Draw (H : Hp) (n : Nat) (g : Int) (D R : Addr) (H' : Hp) (left row : List Int) : Prop where
  same : Same H H'
  hD : H D = none
  hR : H R = none
  ne : D ≠ R
  atD : H' D = some (.lst (left.map V.int))
  atR : H' R = some (.lst (row.map V.int))
  nd : (row ++ left).Nodup
  rg : ∀ x ∈ row ++ left, 0 ≤ x ∧ x < (n : Int) ∧ x ≠ g
  sm : (row ++ left).length ≤ 6

theorem Draw.good {H H' : Hp} {n : Nat} {g : Int} {D R : Addr} {left row : List Int} (d : Draw H n g D R H' left row) : GoodRow n g row :=
  ⟨(List.nodup_append.mp d.nd).1, fun x hx => d.rg x (List.mem_append_left _ hx), by have := d.sm; rw [List.length_append] at this; omega⟩

theorem GoodRow.take {n : Nat} {g : Int} {r : List Int} (h : GoodRow n g r) (m : Nat) : GoodRow n g (r.take m) :=
  ⟨h.nd.sublist (List.take_sublist m r), fun x hx => h.rg x (List.mem_of_mem_take hx), Nat.le_trans (List.length_take_le' m r) h.sm⟩

theorem erase_perm {α : Type} : ∀ (l : List α) (k : Nat) (y : α), l[k]? = some y → (y :: l.eraseIdx k).Perm l
  | [], _, _, h => by cases h
  | a :: l, 0, y, h => by cases h; exact List.Perm.refl _
  | a :: l, k + 1, y, h => by
    have ih := erase_perm l k y h
    exact (List.Perm.swap a y _).trans (List.Perm.cons a ih)

theorem Draw.step {H H' : Hp} {n : Nat} {g : Int} {D R : Addr} {left row : List Int} (d : Draw H n g D R H' left row) {k : Nat} {y : Int} (hy : left[k]? = some y) :
    Draw H n g D R (upd (upd H' D (.lst ((left.eraseIdx k).map V.int))) R (.lst ((row ++ [y]).map V.int))) (left.eraseIdx k) (row ++ [y]) := by
  have p : (y :: left.eraseIdx k).Perm left := erase_perm left k y hy
  have p2 : (row ++ [y] ++ left.eraseIdx k).Perm (row ++ left) := by
    rw [List.append_assoc]
    exact List.Perm.append_left row p
  exact ⟨same_put (same_put d.same d.hD _) d.hR _, d.hD, d.hR, d.ne, by rw [upd_ne d.ne, upd_same], upd_same, p2.nodup_iff.mpr d.nd, fun x hx => d.rg x (p2.mem_iff.mp hx), by rw [p2.length_eq]; exact d.sm⟩

theorem ok_row_by {f : Addr} {fd : FuncData} (F : Fun K "_law_row_by" "_law_row_by" s_row_by f fd) (T : Own mg) : FnOk P w K mg base CX0 1 f fd ["_law_cell", "_law_guest", "_law_many", "_law_full"] sp_row_by := by
  refine F.ok sc_row_by (fun vs H Q E h => ?_) (fun cdv A outer s H vs Q E hr h => ?_)
  · obtain ⟨c, g, n, full, rfl, _⟩ := h
    rfl
  obtain ⟨c, g, n, full, rfl, hn, q⟩ := h
  refine ⟨_, pss_cons (ps_setLc (i := 4) (own := [("_law_one", 6)]) (g := gName 6) rfl sc_row_by.nd rfl rfl (sw_true rfl rfl rfl (by decide +kernel)) (pi_range1 rfl T.rng (pa_cons (pv 2) pa_nil))
      (blkOk_by (N := ["_law_cell", "_law_guest", "_law_many", "_law_full", "_law_left", "_law_row", "_law_one"]) (sc := defScope s_row_by) (by decide +kernel))
      (fun _ _ _ _ _ => pg_name (i := 6) sc_row_by.nd rfl (Or.inl rfl)) (fun _ _ _ _ _ => pts_one (pt_cmpR op_ne (pv 6) (pv 1) (nomark _))) (fun _ _ _ _ _ => pv 6))
    (pss_cons (ps_set (i := 5) sc_row_by.nd rfl (Or.inl rfl) (pe_lst pa_nil))
    (pss_cons (ps_while PassesOwn.never (pt_cmpR op_gt (pe_callB call_len_seq (by rfl) T.len PySem.boot_len (pa_cons (pv 4) pa_nil)) pe_int (nomark _))
      (pss_cons (ps_expr (pe_bm PySem.F.plainAttrs_list PySem.F.slot_list_append PySem.F.type_list_append mt_append (pv 5)
          (pa_cons (pe_bm PySem.F.plainAttrs_list PySem.F.slot_list_pop PySem.F.type_list_pop mt_popAt (pv 4)
            (pa_cons (pe_op op_mod (pv 0) (pe_callB call_len_seq (by rfl) T.len PySem.boot_len (pa_cons (pv 4) pa_nil))) pa_nil)) pa_nil)))
      (pss_one (ps_set (i := 0) sc_row_by.nd rfl (Or.inl rfl) (pe_op op_fdiv (pv 0) (pe_op op_add (pe_callB call_len_seq (by rfl) T.len PySem.boot_len (pa_cons (pv 4) pa_nil)) pe_int))))))
    (pss_cons (ps_if (pt_val (pv 3)) (pss_one (ps_ret (pv 5))) pss_nil)
    (pss_one (ps_ret (pe_slice sl_list (pv 5) po_none (po_some (pe_op op_mod (pv 0) (pe_op op_add (pe_callB call_len_seq (by rfl) T.len PySem.boot_len (pa_cons (pv 5) pa_nil)) pe_int))))))))), ?_⟩
  refine ⟨_, rfl, (n : Int), rfl, (by omega), (by omega), fun D hD => ?_⟩
  refine lc_range (lo := 0) (n := (n : Int).toNat) (fun i H' => ∃ acc : List Int, H' = upd H D (.lst (acc.map V.int)) ∧ acc.Nodup ∧ acc.length ≤ i ∧ ∀ x ∈ acc, 0 ≤ x ∧ x < (i : Int) ∧ x ≠ g)
    ⟨[], rfl, List.nodup_nil, Nat.le_refl _, fun x hx => by cases hx⟩ ?_ ?_
  · rintro i H' hi ⟨acc, rfl, nd, hl, hx⟩
    refine ⟨rfl, _, rfl, _, rfl, rfl, _, rfl, ?_⟩
    refine ite2 (fun c => ?_) (fun c => ?_)
    · have hg : (0 + (i : Int)) ≠ g := fun z => by
        rw [decide_eq_true (by rw [z])] at c
        cases c
      refine ⟨_, rfl, acc.map V.int, upd_same, by rw [List.length_map]; exact Nat.lt_of_le_of_lt hl (small1000 (by omega)), acc ++ [0 + (i : Int)], ?_, ?_, ?_, ?_⟩
      · rw [upd_upd, List.map_append]; rfl
      · rw [List.nodup_append]
        refine ⟨nd, by simp, fun x hx1 y hy => ?_⟩
        rw [List.mem_singleton] at hy
        have := hx x hx1
        rw [hy]
        omega
      · rw [List.length_append, List.length_singleton]; omega
      · intro x hx1
        rcases List.mem_append.mp hx1 with h | h
        · have := hx x h
          exact ⟨this.1, by omega, this.2.2⟩
        · rw [List.mem_singleton] at h
          rw [h]
          exact ⟨by omega, by omega, hg⟩
    · exact ⟨acc, rfl, nd, by omega, fun x h => by
        have := hx x h
        exact ⟨this.1, by omega, this.2.2⟩⟩
  · rintro H' ⟨acc, rfl, nd, hl, hx⟩
    refine ⟨(by show 0 ≤ sizeLine; decide), fun R hR => ?_⟩
    have hDR : D ≠ R := ne_of_none (upd_same (H := H) (a := D)) hR
    have hR0 : H R = none := (same_new hD _).free hR
    refine while_by (fun σ H' => ∃ (c : Int) (left row : List Int) (z : Option V), σ = [some (.int c), some (.int g), some (.int n), some (.bl full), some (.ref D), some (.ref R), z] ∧ Draw H n g D R H' left row)
      (fun σ H' => match H' D with | some (.lst xs) => xs.length | _ => 0)
      ⟨c, acc, [], none, rfl, same_put (same_new hD _) hR0 _, hD, hR0, hDR, by rw [upd_ne hDR, upd_same], upd_same, nd, ?_, ?_⟩ ?_ ?_
    · intro x h
      have := hx x h
      exact ⟨this.1, by omega, this.2.2⟩
    · show acc.length ≤ 6
      omega
    · rintro σ H' ⟨c, left, row, z, rfl, d⟩
      refine ⟨_, rfl, D, _, rfl, .inl (SqL.of d.atD), _, _, rfl, rfl, _, rfl, ?_⟩
      rw [List.length_map]
      refine ite2 (fun c1 => ?_) (fun c1 => ?_)
      · have hl0 : ((left.length : Nat) : Int) > 0 := of_decide_eq_true c1
        have hk : (c % (left.length : Int)).toNat < left.length := by
          have h1 := Int.emod_lt_of_pos c hl0
          omega
        have h1 := Int.emod_lt_of_pos c hl0
        have h0 := Int.emod_nonneg c (show (left.length : Int) ≠ 0 by omega)
        have hlen := d.sm
        rw [List.length_append] at hlen
        have hget : left[(c % (left.length : Int)).toNat]? = some left[(c % (left.length : Int)).toNat] := List.getElem?_eq_getElem hk
        have d2 := d.step hget
        have nRD : R ≠ D := d.ne.symm
        refine ⟨_, rfl, .inl ⟨rfl, _, SqL.of d.atR⟩, ?_⟩
        refine ⟨_, rfl, .inl ⟨rfl, _, SqL.of d.atD⟩, ?_⟩
        refine ⟨_, rfl, _, rfl, D, _, rfl, .inl (SqL.of d.atD), c, (left.length : Int), rfl, by rw [List.length_map], hl0, ?_⟩
        refine ⟨D, _, _, (c % (left.length : Int)).toNat, _, rfl, rfl, d.atD, (by omega), (by omega), ?_, (by rw [List.getElem?_map, hget]; rfl), ?_⟩
        · rw [List.length_map]
          exact seqIx h0 h1
        refine ⟨R, _, _, rfl, rfl, by rw [upd_ne nRD]; exact d.atR, ?_, ?_⟩
        · rw [List.length_map]
          exact small1000 (by omega)
        have eH : upd (upd H' D (.lst ((left.map V.int).eraseIdx (c % (left.length : Int)).toNat))) R (.lst (row.map V.int ++ [V.int left[(c % (left.length : Int)).toNat]])) =
            upd (upd H' D (.lst ((left.eraseIdx (c % (left.length : Int)).toNat).map V.int))) R (.lst ((row ++ [left[(c % (left.length : Int)).toNat]]).map V.int)) := by
          rw [map_erase, List.map_append]; rfl
        rw [eH]
        have hel : (left.eraseIdx (c % (left.length : Int)).toNat).length = left.length - 1 := by rw [List.length_eraseIdx, if_pos hk]
        refine ⟨_, rfl, _, rfl, D, _, rfl, .inl (SqL.of d2.atD), _, _, rfl, rfl, _, _, rfl, rfl, ?_, ?_⟩
        · rw [List.length_map, hel]
          exact ⟨by omega, by omega⟩
        · refine ⟨⟨_, _, _, _, rfl, d2⟩, ?_⟩
          rw [d2.atD, d.atD]
          show (List.map V.int _).length < (List.map V.int _).length
          rw [List.length_map, List.length_map, hel]
          omega
      · have hl0 : left = [] := by
          have : ¬ ((left.length : Nat) : Int) > 0 := of_decide_eq_false (Bool.eq_false_iff.mpr c1)
          cases left with
          | nil => rfl
          | cons a l => simp at this
        subst hl0
        have hG := d.good
        refine ⟨_, rfl, _, rfl, ?_⟩
        refine ite2 (fun c2 => ?_) (fun c2 => ?_)
        · exact ⟨_, rfl, q H' R row d.same d.hR d.atR hG⟩
        · obtain ⟨m, hm⟩ := cut_take row (c % ((((row.map V.int).length : Nat) : Int) + 1))
          refine ⟨_, rfl, _, rfl, _, rfl, R, _, rfl, .inl (SqL.of d.atR), _, _, rfl, rfl, _, _, rfl, rfl, (by show (0 : Int) < (((row.map V.int).length : Nat) : Int) + 1; omega), _, rfl, R, _, rfl, SqL.of d.atR, fun p hp => ?_⟩
          rw [hm]
          exact q _ p (row.take m) (d.same.trans (same_new hp _)) (d.same.free hp) upd_same (hG.take m)
    · rintro σ H' Q1 Q2 hq ⟨v, hv, p, ys, e1, h, i, j, e2, e3, k, e4, hq1⟩
      exact ⟨v, hv, p, ys, e1, h, i, j, e2, e3, k, e4, hq _ _ hq1⟩

/-! ### _law_wishes_by -/
theorem sc_wishes_by : FnScope ["_law_script", "_law_many", "_law_full", "_law_k"] ["_law_script", "_law_many"] (defScope s_wishes_by) := ⟨rfl, rfl, rfl, by decide +kernel, rfl, by decide +kernel, by decide +kernel⟩
def sp_wishes_by (K : PySem.W.Frag) : Sp := fun vs H Q _ => ∃ (a : Addr) (ns : List Int) (n : Nat), vs = [.ref a, .int n] ∧ SqL K H a (ns.map V.int) ∧ 1 ≤ n ∧ n ≤ 6 ∧
  ∀ (H' : Hp) (p : Addr) (ws : List (List Int)), H p = none → Built H p (ws.map fun r => r.map V.int) H' → Good ws → ws.length = n → Q (.ref p) H'
theorem ok_wishes_by {f : Addr} {fd : FuncData} (F : Fun K "_law_wishes_by" "_law_wishes_by" s_wishes_by f fd) (T : Own mg) (C1 : Cal P w K mg base 1 "_law_cell_at" ["_law_script", "_law_k"] (sp_cell_at K))
    (C2 : Cal P w K mg base 1 "_law_row_by" ["_law_cell", "_law_guest", "_law_many", "_law_full"] sp_row_by) : FnOk P w K mg base CX0 2 f fd ["_law_script", "_law_many"] (sp_wishes_by K) := by
  obtain ⟨g1, gd1, G1, m1, k1, b1⟩ := C1
  obtain ⟨g2, gd2, G2, m2, k2, b2⟩ := C2
  refine F.ok sc_wishes_by (fun vs H Q E h => ?_) (fun cdv A outer s H vs Q E hr h => ?_)
  · obtain ⟨a, ns, n, rfl, _⟩ := h
    rfl
  obtain ⟨a, ns, n, rfl, hS, n1, n6, q⟩ := h
  refine ⟨_, pss_cons (ps_set (i := 2) sc_wishes_by.nd rfl (Or.inr rfl) (pe_cmpR op_gt (pe_op op_mod (pe_call G1 hr (by rfl) m1 k1 b1 .nil pass0 (pa_cons (pv 0) (pa_cons pe_int pa_nil))) pe_int) pe_int (nomark _)))
    (pss_one (ps_ret (pe_lc (own := [("_law_k", 3)]) (g := gName 3) (tt := tYes) rfl sc_wishes_by.nd (pi_range1 rfl T.rng (pa_cons (pv 1) pa_nil))
      (blkOk_by (N := ["_law_script", "_law_many", "_law_full", "_law_k"]) (sc := defScope s_wishes_by) (by decide +kernel))
      (fun _ _ _ _ _ => pg_name (i := 3) sc_wishes_by.nd rfl (Or.inl rfl)) (fun _ _ _ _ _ => pts_nil)
      (fun _ _ _ _ _ => pe_call G2 hr (by rfl) m2 k2 b2 .nil pass0 (pa_cons (pe_call G1 hr (by rfl) m1 k1 b1 .nil pass0 (pa_cons (pv 0) (pa_cons (pe_op op_add pe_int (pv 3)) pa_nil))) (pa_cons (pv 3) (pa_cons (pv 1) (pa_cons (pv 2) pa_nil)))))))), ?_⟩
  refine ⟨_, rfl, a, ns, 1, rfl, hS, by decide, fun c => ?_⟩
  refine ⟨_, _, rfl, rfl, (by show (0 : Int) < 3; decide), _, _, rfl, rfl, ?_⟩
  refine ⟨_, rfl, (n : Int), rfl, by omega, by omega, fun D hD => ?_⟩
  refine lc_range (lo := 0) (n := (n : Int).toNat) (fun i H' => ∃ ws : List (List Int), Built H D (ws.map fun r => r.map V.int) H' ∧ ws.length = i ∧ ∀ (g : Nat) (r : List Int), ws[g]? = some r → GoodRow n (g : Int) r)
    ⟨[], built_start hD, rfl, fun g r h => by cases h⟩ ?_ ?_
  · rintro i H1 hi ⟨ws, hB, hl, hG⟩
    refine ⟨rfl, ?_⟩
    refine ⟨_, rfl, _, rfl, _, _, rfl, rfl, a, ns, _, rfl, hB.1.seq hS, (by omega), fun c2 => ?_⟩
    refine ⟨_, rfl, _, rfl, _, rfl, c2, (i : Int), n, _, (by rw [Int.zero_add]; rfl), n6, fun H2 p r e hp hp2 hr2 => ?_⟩
    obtain ⟨acc, h1, h2, h3⟩ := built_step hD hB e hp hp2
    refine ⟨acc, h1, ?_, ws ++ [r], ?_, ?_, ?_⟩
    · rw [h2, List.length_map, hl]
      exact small1000 (by omega)
    · rw [List.map_append]; exact h3
    · rw [List.length_append, hl]; rfl
    · intro g r' h
      rw [List.getElem?_append] at h
      by_cases c : g < ws.length
      · rw [if_pos c] at h
        exact hG g r' h
      · rw [if_neg c] at h
        have i0 : g - ws.length = 0 := by
          have := (List.getElem?_eq_some_iff.mp h).1
          simp at this
          omega
        rw [i0] at h
        cases h
        have : g = i := by omega
        rw [this]
        exact hr2
  · rintro H1 ⟨ws, hB, hl, hG⟩
    have hln : ws.length = n := by omega
    exact q H1 D ws hD hB ⟨by omega, by omega, fun g r h => by rw [hln]; exact hG g r h⟩ hln
end
end B2

namespace B2
open PySem L2

theorem ifT {c : Bool} {A B : Prop} (h : c = true) (x : A) : if c = true then A else B := by rw [if_pos h]; exact x
theorem ifF {c : Bool} {A B : Prop} (h : c = false) (x : B) : if c = true then A else B := by rw [h, if_neg Bool.false_ne_true]; exact x

theorem kit_bi {K : PySem.W.Frag} : PySem.W.kitOne K (.type "bool") (.type "int") = some true := kit_ty (by decide +kernel)
theorem kit_si {K : PySem.W.Frag} : PySem.W.kitOne K (.type "str") (.type "int") = some false := kit_ty (by decide +kernel)
theorem kit_ni {K : PySem.W.Frag} : PySem.W.kitOne K (.type "NoneType") (.type "int") = some false := kit_ty (by decide +kernel)
theorem kit_li {K : PySem.W.Frag} : PySem.W.kitOne K (.type "list") (.type "int") = some false := kit_ty (by decide +kernel)
theorem kit_di {K : PySem.W.Frag} : PySem.W.kitOne K (.type "dict") (.type "int") = some false := kit_ty (by decide +kernel)
theorem kit_tl {K : PySem.W.Frag} : PySem.W.kitOne K (.type "tuple") (.type "list") = some false := kit_ty (by decide +kernel)
theorem kit_sl {K : PySem.W.Frag} : PySem.W.kitOne K (.type "str") (.type "list") = some false := kit_ty (by decide +kernel)
theorem kit_nl {K : PySem.W.Frag} : PySem.W.kitOne K (.type "NoneType") (.type "list") = some false := kit_ty (by decide +kernel)
theorem kit_il {K : PySem.W.Frag} : PySem.W.kitOne K (.type "int") (.type "list") = some false := kit_ty (by decide +kernel)

theorem cut_to (r : List Int) {k : Int} (h0 : 0 ≤ k) : cutV (r.map V.int) none (some k) = (r.take k.toNat).map V.int := by
  unfold cutV
  have e0 : HT.sIx (r.map V.int).length 0 none = 0 := rfl
  have e1 : HT.sIx (r.map V.int).length (r.map V.int).length (some k) = min k.toNat r.length := by
    show (if k < 0 then (k + ((r.map V.int).length : Int)).toNat else min k.toNat (r.map V.int).length) = _
    rw [if_neg (by omega), List.length_map]
  rw [e0, e1, List.drop_zero, Nat.sub_zero, ← List.map_take, List.take_eq_take_iff.mpr]
  omega
theorem cut_from (r : List Int) {k : Int} (h0 : 0 ≤ k) : cutV (r.map V.int) (some k) none = (r.drop k.toNat).map V.int := by
  unfold cutV
  have e1 : HT.sIx (r.map V.int).length (r.map V.int).length none = (r.map V.int).length := rfl
  have e0 : HT.sIx (r.map V.int).length 0 (some k) = min k.toNat r.length := by
    show (if k < 0 then (k + ((r.map V.int).length : Int)).toNat else min k.toNat (r.map V.int).length) = _
    rw [if_neg (by omega), List.length_map]
  rw [e0, e1, ← List.map_drop, List.length_map]
  by_cases c : k.toNat ≤ r.length
  · rw [Nat.min_eq_left c, List.take_of_length_le (by rw [List.length_map, List.length_drop]; exact Nat.le_refl _)]
  · rw [Nat.min_eq_right (by omega), Nat.sub_self, List.take_zero, List.drop_eq_nil_of_le (by omega)]
    rfl

/-- one thing in a list of numbers -/
def withX (r : List Int) (k : Nat) (x : V) : List V := (r.take k).map V.int ++ [x] ++ (r.drop k).map V.int
theorem with_at {r : List Int} {k : Nat} (hk : k ≤ r.length) (x : V) : (withX r k x)[k]? = some x := by
  unfold withX
  have e : ((r.take k).map V.int).length = k := by rw [List.length_map, List.length_take]; omega
  rw [List.append_assoc, List.getElem?_append_right (by omega), e, Nat.sub_self]
  rfl
theorem with_before {r : List Int} {k i : Nat} (hk : k ≤ r.length) (x : V) (hi : i < k) : ∃ y, y ∈ r ∧ (withX r k x)[i]? = some (V.int y) := by
  unfold withX
  have e : ((r.take k).map V.int).length = k := by rw [List.length_map, List.length_take]; omega
  have h : i < r.length := by omega
  refine ⟨r[i], List.getElem_mem h, ?_⟩
  rw [List.append_assoc, List.getElem?_append_left (by omega), List.getElem?_map, List.getElem?_take, if_pos hi, List.getElem?_eq_getElem h]
  rfl
theorem with_ints {r : List Int} {k : Nat} (y : Int) : withX r k (.int y) = (r.take k ++ [y] ++ r.drop k).map V.int := by
  unfold withX
  rw [List.map_append, List.map_append]
  rfl
theorem with_dup {r : List Int} {k : Nat} {y : Int} (h : y ∈ r) : ¬ (r.take k ++ [y] ++ r.drop k).Nodup := fun nd => by
  have p : (r.take k ++ [y] ++ r.drop k).Perm (y :: r) := by
    have e : (y :: r).Perm (y :: (r.take k ++ r.drop k)) := by rw [List.take_append_drop]
    refine List.Perm.trans ?_ e.symm
    rw [List.append_assoc]
    exact List.perm_middle
  exact (List.nodup_cons.mp (p.nodup_iff.mp nd)).1 h

/-- a bad thing makes a bad list -/
theorem bad_with {K : PySem.W.Frag} {H : Hp} {n : Nat} {g : Int} {b : Addr} {r : List Int} {k : Nat} {x : V} (hk : k ≤ r.length) (hr : ∀ y ∈ r, 0 ≤ y ∧ y < (n : Int) ∧ y ≠ g) (hS : SqL K H b (withX r k x)) (hx : BadWish K H n g x) : RowBad K H n g (.ref b) :=
  .inr (.inl ⟨b, _, k, x, rfl, hS, with_at hk x, fun i hi => by
    obtain ⟨y, hy, e⟩ := with_before hk x hi
    have := hr y hy
    exact ⟨y, e, this.1, this.2.1, this.2.2⟩, hx⟩)

/-- a bad list in a table of good ones makes a bad table -/
theorem bad_tab {K : PySem.W.Frag} {H : Hp} {a : Addr} {xs : List V} {ws : List (List Int)} {g : Nat} {x : V} (hG : Good ws) (hg : g < ws.length) (hl : xs.length = ws.length) (hS : SqL K H a (xs.set g x))
    (hr : ∀ i, i < g → ∃ (b : Addr) (r : List Int), xs[i]? = some (V.ref b) ∧ SqL K H b (r.map V.int) ∧ ws[i]? = some r) (hB : RowBad K H ws.length (g : Int) x) : TabBad K H (.ref a) := by
  have hi := hG.hi
  have hlo := hG.lo
  refine .inr (.inr ⟨a, xs.set g x, g, x, rfl, hS, by rw [List.length_set]; omega, by rw [List.length_set]; omega, ?_, fun i hi => ?_, ?_⟩)
  · rw [List.getElem?_set, if_pos rfl, if_pos (by omega)]
  · obtain ⟨b, r, e1, e2, e3⟩ := hr i hi
    refine ⟨b, r, ?_, e2, ?_⟩
    · rw [List.getElem?_set, if_neg (by omega)]; exact e1
    · rw [List.length_set, hl]
      exact hG.row i r e3
  · rw [List.length_set, hl]
    exact hB
end B2

namespace B2
open PySem L2
section
variable {P : Program} {w : World} {K : PySem.W.Frag} {mg : Str → Option Value} {base : Heap}

theorem sc_spoilt : FnScope ["_law_wishes", "_law_kind", "_law_guest", "_law_place", "_law_many", "_law_row", "_law_thing", "_law_at", "_law_k"] ["_law_wishes", "_law_kind", "_law_guest", "_law_place"] (defScope s_spoilt) := ⟨rfl, rfl, rfl, by decide +kernel, rfl, by decide +kernel, by decide +kernel⟩
def sp_spoilt (K : PySem.W.Frag) : Sp := fun vs H Q _ => ∃ (H0 : Hp) (a : Addr) (ws : List (List Int)) (k g pl : Int), vs = [.ref a, .int k, .int g, .int pl] ∧ H0 a = none ∧ Built H0 a (ws.map fun r => r.map V.int) H ∧ Good ws ∧ 0 ≤ g ∧ g < (ws.length : Int) ∧ 0 ≤ k ∧ k ≤ 17 ∧
  ∀ (H' : Hp) (v : V), Same H0 H' → TabBad K H' v → Q v H'

theorem ixN_of' {n : Nat} {i : Int} (h0 : 0 ≤ i) (h1 : i < (n : Int)) : ixN n i = some i.toNat := by
  unfold ixN
  rw [if_pos h0, if_pos h1]

/-- a bad thing laid in place of a good list -/
theorem laid {H0 H H2 : Hp} {a : Addr} {as : List Addr} {ws : List (List Int)} {g : Int} (h0 : H0 a = none) (s0 : Same H0 H) (h1 : H a = some (.lst (as.map V.ref))) (h2 : as.length = ws.length)
    (h3 : ∀ (i : Nat) (r : List Int), ws[i]? = some r → ∃ b, as[i]? = some b ∧ H b = some (.lst (r.map V.int)) ∧ b ≠ a) (hG : Good ws) (g0 : 0 ≤ g) (g1 : g < (ws.length : Int)) (e : Same H H2) (x : V)
    (hx : RowBad K (upd H2 a (.lst ((as.map V.ref).set g.toNat x))) ws.length g x) : Same H0 (upd H2 a (.lst ((as.map V.ref).set g.toNat x))) ∧ TabBad K (upd H2 a (.lst ((as.map V.ref).set g.toNat x))) (.ref a) := by
  refine ⟨same_put (s0.trans e) h0 _, ?_⟩
  refine bad_tab (ws := ws) (g := g.toNat) hG (by omega) (by rw [List.length_map]; exact h2) (SqL.of upd_same) (fun i hi => ?_) ?_
  · have hi' : i < ws.length := by omega
    obtain ⟨b, b1, b2, b3⟩ := h3 i ws[i] (List.getElem?_eq_getElem hi')
    exact ⟨b, ws[i], by rw [List.getElem?_map, b1]; rfl, SqL.of (by rw [upd_ne b3]; exact e _ _ b2), List.getElem?_eq_getElem hi'⟩
  · have e2 : ((g.toNat : Nat) : Int) = g := by omega
    rw [e2]
    exact hx

theorem thing_at {n : Nat} {g : Int} {r : List Int} {z : Int} (hz : (r = [] ∧ z = (n : Int)) ∨ z ∈ r) : ∀ k : Int, 0 ≤ k → k < 7 →
    ∃ x, atI [V.int g, V.int z, V.int (-1), V.int (n : Int), V.bl true, V.str ("0" : Str), V.non] k = some x ∧ (k = 4 → x = .bl true) ∧ (k ≠ 4 → (∀ K H, BadWish K H n g x) ∨ (x = .int z ∧ z ∈ r)) := by
  intro k h0 h7
  have hk : k = 0 ∨ k = 1 ∨ k = 2 ∨ k = 3 ∨ k = 4 ∨ k = 5 ∨ k = 6 := by omega
  rcases hk with h | h | h | h | h | h | h <;> subst h
  · exact ⟨_, atI_nat (j := 0) rfl, by omega, fun _ => .inl fun K H => .inr ⟨g, rfl, by omega⟩⟩
  · refine ⟨_, atI_nat (j := 1) rfl, by omega, fun _ => ?_⟩
    rcases hz with ⟨_, e⟩ | e
    · exact .inl fun K H => .inr ⟨z, rfl, by omega⟩
    · exact .inr ⟨rfl, e⟩
  · exact ⟨_, atI_nat (j := 2) rfl, by omega, fun _ => .inl fun K H => .inr ⟨-1, rfl, by omega⟩⟩
  · exact ⟨_, atI_nat (j := 3) rfl, by omega, fun _ => .inl fun K H => .inr ⟨(n : Int), rfl, by omega⟩⟩
  · exact ⟨_, atI_nat (j := 4) rfl, fun _ => rfl, fun z => absurd rfl z⟩
  · exact ⟨_, atI_nat (j := 5) rfl, by omega, fun _ => .inl fun K H => .inl ⟨_, .base (.str _), .inl kit_si⟩⟩
  · exact ⟨_, atI_nat (j := 6) rfl, by omega, fun _ => .inl fun K H => .inl ⟨_, .base .non, .inl kit_ni⟩⟩

theorem ok_spoilt {f : Addr} {fd : FuncData} (F : Fun K "_law_spoilt" "_law_spoilt" s_spoilt f fd) (T : Own mg) : FnOk P w K mg base CX0 1 f fd ["_law_wishes", "_law_kind", "_law_guest", "_law_place"] (sp_spoilt K) := by
  refine F.ok sc_spoilt (fun vs H Q E h => ?_) (fun cdv A outer s H vs Q E hr h => ?_)
  · obtain ⟨H0, a, ws, k, g, pl, rfl, _⟩ := h
    rfl
  obtain ⟨H0, a, ws, k, g, pl, rfl, h0, hB, hG, g0, g1, k0, k17, q⟩ := h
  refine ⟨_, pss_cons (ps_set (i := 4) sc_spoilt.nd rfl (Or.inl rfl) (pe_callB call_len_seq (by rfl) T.len PySem.boot_len (pa_cons (pv 0) pa_nil)))
    (pss_cons (ps_set (i := 5) sc_spoilt.nd rfl (Or.inl rfl) (pe_ix ix_list (pv 0) (pv 2) (fun _ _ => rfl)))
    (Evl.pss_cut (ps_if (pt_cmpR op_lt (pv 1) pe_int (nomark _))
      (pss_cons (ps_set (i := 6) sc_spoilt.nd rfl (Or.inl rfl) (pe_ix ix_list (pe_lst (pa_cons (pv 2) (pa_cons (pe_ix ix_list (pe_op op_cat (pv 5) (pe_lst (pa_cons (pv 4) pa_nil))) pe_int (fun _ _ => rfl)) (pa_cons (pe_un un_neg pe_int) (pa_cons (pv 4) (pa_cons pe_bl (pa_cons pe_str (pa_cons pe_non pa_nil)))))))) (pv 1) (fun _ _ => rfl)))
      (Evl.pss_cut (ps_if (PW.pt (pw_and (pt_cmpR op_eq (pv 1) pe_int (nomark _)) (pw_and1 (pt_cmpR op_eq (pe_op op_mod (pv 3) pe_int) pe_int (nomark _)))))
        (pss_one (ps_set (i := 6) sc_spoilt.nd rfl (Or.inl rfl) pe_bl)) pss_nil)
      (pss_cons (ps_set (i := 7) sc_spoilt.nd rfl (Or.inl rfl) (pe_op op_mod (pv 3) (pe_op op_add (pe_callB call_len_seq (by rfl) T.len PySem.boot_len (pa_cons (pv 5) pa_nil)) pe_int)))
      (Evl.pss_cut (ps_if (PW.pt (pw_and (pt_cmpR op_eq (pv 1) pe_int (nomark _)) (pw_and1 (pt_cmpR op_in_seq (pe_callTy (T := "int") call_int1 (by rfl) T.int (by decide +kernel) (pa_cons (pv 6) pa_nil)) (pv 5) (by rfl)))))
        (pss_cons (ps_set (i := 7) sc_spoilt.nd rfl (Or.inl rfl) (pe_bm PySem.F.plainAttrs_list PySem.F.slot_list_index PySem.F.type_list_index mt_index (pv 5) (pa_cons (pe_callTy (T := "int") call_int1 (by rfl) T.int (by decide +kernel) (pa_cons (pv 6) pa_nil)) pa_nil)))
        (pss_one (ps_set (i := 5) sc_spoilt.nd rfl (Or.inl rfl) (pe_op op_cat (pe_slice sl_list (pv 5) po_none (po_some (pv 7))) (pe_slice sl_list (pv 5) (po_some (pe_op op_add (pv 7) pe_int)) po_none))))) pss_nil)
      (pss_one (ps_asg (pe_op op_cat (pe_op op_cat (pe_slice sl_list (pv 5) po_none (po_some (pv 7))) (pe_lst (pa_cons (pv 6) pa_nil))) (pe_slice sl_list (pv 5) (po_some (pv 7)) po_none)) (pg_sub (pv 0) (pv 2) set_list))))))) pss_nil)
    (pss_cons (ps_if (pt_cmpR op_gt (pv 1) pe_int (nomark _))
      (pss_cons (ps_set (i := 7) sc_spoilt.nd rfl (Or.inl rfl) (pe_op op_mod (pv 3) (pe_op op_add (pe_callB call_len_seq (by rfl) T.len PySem.boot_len (pa_cons (pv 5) pa_nil)) pe_int)))
      (pss_cons (ps_asg (pe_op op_cat (pe_op op_cat (pe_slice sl_list (pv 5) po_none (po_some (pv 7)))
          (pe_lst (pa_cons (pe_ix ix_list (pe_lst (pa_cons (pe_lst (pa_cons pe_int pa_nil)) (pa_cons pe_dnewK pa_nil))) (pe_op op_sub (pv 1) pe_int) (fun _ _ => rfl)) pa_nil))) (pe_slice sl_list (pv 5) (po_some (pv 7)) po_none)) (pg_sub (pv 0) (pv 2) set_list))
      (pss_one (ps_ret (pv 0))))) pss_nil)
    (Evl.pss_cut (ps_if (pt_chain op_le op_lt pe_int (pv 1) pe_int)
      (pss_one (ps_asg (pe_ix ix_list (pe_lst (pa_cons (pe_callTy (T := "tuple") call_tuple_of (by rfl) T.tup (by decide +kernel) (pa_cons (pv 5) pa_nil)) (pa_cons pe_str (pa_cons pe_non pa_nil)))) (pe_op op_sub (pv 1) pe_int) (fun _ _ => rfl)) (pg_sub (pv 0) (pv 2) set_list))) pss_nil)
    (Evl.pss_cut (ps_if (pt_cmpR op_eq (pv 1) pe_int (nomark _)) (pss_one (ps_asg pe_int (pg_sub (pv 0) (pv 2) set_list))) pss_nil)
    (pss_cons (ps_if (pt_cmpR op_gt (pv 1) pe_int (nomark _)) (pss_one (ps_ret (pe_ix ix_list (pe_lst (pa_cons pe_non (pa_cons pe_int pa_nil))) (pe_op op_sub (pv 1) pe_int) (fun _ _ => rfl)))) pss_nil)
    (pss_cons (ps_if (pt_cmpR op_eq (pv 1) pe_int (nomark _)) (pss_one (ps_ret (pe_lst pa_nil))) pss_nil)
    (pss_cons (ps_if (pt_cmpR op_eq (pv 1) pe_int (nomark _)) (pss_one (ps_ret (pe_lc (own := [("_law_k", 8)]) (g := gName 8) (tt := tYes) rfl sc_spoilt.nd (pi_range1 rfl T.rng (pa_cons pe_int pa_nil))
      (blkOk_by (N := ["_law_wishes", "_law_kind", "_law_guest", "_law_place", "_law_many", "_law_row", "_law_thing", "_law_at", "_law_k"]) (sc := defScope s_spoilt) (by decide +kernel))
      (fun _ _ _ _ _ => pg_name (i := 8) sc_spoilt.nd rfl (Or.inl rfl)) (fun _ _ _ _ _ => pts_nil) (fun _ _ _ _ _ => pe_lst pa_nil)))) pss_nil)
    (pss_cons (ps_if (pt_cmpR op_eq (pv 1) pe_int (nomark _)) (pss_one (ps_ret (pe_callTy (T := "tuple") call_tuple_of (by rfl) T.tup (by decide +kernel) (pa_cons (pv 0) pa_nil)))) pss_nil)
    (pss_one (ps_ret (pv 0)))))))))))), ?_⟩
  obtain ⟨s0, as, h1, h2, h3'⟩ := id hB
  rw [List.length_map] at h2
  have h3 : ∀ (i : Nat) (r : List Int), ws[i]? = some r → ∃ b, as[i]? = some b ∧ H b = some (.lst (r.map V.int)) ∧ b ≠ a := fun i r hr => by
    obtain ⟨b, b1, b2, b3, _⟩ := h3' i (r.map V.int) (by rw [List.getElem?_map, hr]; rfl)
    exact ⟨b, b1, b2, b3⟩
  have n6 := hG.hi
  obtain ⟨rg1, rg2⟩ := rowOf_get g0 g1
  have hGr := rowOf_good hG g0 g1
  obtain ⟨bg, bg1, bg2, bg3⟩ := h3 _ _ rg1
  generalize hr : rowOf ws g = r at bg2 hGr
  have hat : atI (as.map V.ref) g = some (.ref bg) := by
    have : atI (as.map V.ref) ((g.toNat : Nat) : Int) = some (.ref bg) := atI_nat (by rw [List.getElem?_map, bg1]; rfl)
    rw [← rg2] at this
    exact this
  have hrl := hGr.sm
  refine ⟨_, rfl, a, _, rfl, .inl (SqL.of h1), ?_⟩
  have el : (as.map V.ref).length = ws.length := by rw [List.length_map]; exact h2
  rw [el]
  refine ⟨_, rfl, _, rfl, a, _, _, _, rfl, rfl, SqL.of h1, hat, ?_⟩
  refine ⟨fun σ H' => (k < 7 ∧ (∃ (x y z : Option V), σ = [some (.ref a), some (.int k), some (.int g), some (.int pl), some (.int ws.length), x, y, z, none]) ∧ Same H0 H' ∧ TabBad K H' (.ref a)) ∨
    (¬ k < 7 ∧ H' = H ∧ σ = [some (.ref a), some (.int k), some (.int g), some (.int pl), some (.int ws.length), some (.ref bg), none, none, none]), ?_, ?_⟩
  · refine ⟨_, rfl, _, _, rfl, rfl, _, rfl, ?_⟩
    refine ite2 (fun c => ?_) (fun c => ?_)
    · have c7 : k < 7 := of_decide_eq_true c
      obtain ⟨z, hz, hz0⟩ : ∃ z, ((r = [] ∧ z = (ws.length : Int)) ∨ z ∈ r) ∧ atI (r.map V.int ++ [V.int (ws.length : Nat)]) (0 : Int) = some (.int z) := by
        cases r with
        | nil => exact ⟨_, .inl ⟨rfl, rfl⟩, atI_nat (j := 0) rfl⟩
        | cons u r => exact ⟨u, .inr (List.mem_cons_self ..), atI_nat (j := 0) rfl⟩
      obtain ⟨x, hx1, hx2, hx3⟩ := thing_at (n := ws.length) (g := g) hz k k0 c7
      refine ⟨_, rfl, _, rfl, _, rfl, (by show 1 ≤ sizeLine; decide), fun p1 hp1 => ?_⟩
      have e1 := same_new hp1 (.lst [V.int (ws.length : Nat)])
      refine ⟨bg, p1, _, _, rfl, rfl, e1 _ _ bg2, upd_same, ?_, fun p2 hp2 => ?_⟩
      · rw [List.length_map]
        exact le_line (by show r.length + 1 ≤ 1000; omega)
      have e2 := e1.trans (same_new hp2 (.lst (r.map V.int ++ [V.int (ws.length : Nat)])))
      refine ⟨p2, _, _, _, rfl, rfl, SqL.of upd_same, hz0, 1, rfl, _, rfl, (by show 7 ≤ sizeLine; decide), fun p3 hp3 => ?_⟩
      have e3 := e2.trans (same_new hp3 (.lst [V.int g, V.int z, V.int (-1), V.int (ws.length : Nat), V.bl true, V.str ("0" : Str), V.non]))
      refine ⟨_, rfl, p3, _, _, _, rfl, rfl, SqL.of upd_same, hx1, ?_⟩
      generalize upd (upd (upd H p1 (.lst [V.int (ws.length : Nat)])) p2 (.lst (r.map V.int ++ [V.int (ws.length : Nat)]))) p3 (.lst [V.int g, V.int z, V.int (-1), V.int (ws.length : Nat), V.bl true, V.str ("0" : Str), V.non]) = H3 at e3
      refine ⟨fun σ H' => H' = H3 ∧ ∃ x', σ = [some (.ref a), some (.int k), some (.int g), some (.int pl), some (.int ws.length), some (.ref bg), some x', none, none] ∧ (k = 4 → ∃ b, x' = .bl b) ∧ (k ≠ 4 → x' = x), ?_, ?_⟩
      · refine ⟨_, rfl, rfl, _, rfl, ?_⟩
        by_cases c4 : k = 4
        · rw [decide_eq_true (show V.int k = V.int 4 by rw [c4])]
          refine iteT ⟨_, rfl, _, _, rfl, rfl, (by show (0 : Int) < 2; decide), rfl, _, rfl, ?_⟩
          refine ite2 (fun cc => ?_) (fun cc => ?_)
          · exact ⟨rfl, _, rfl, fun _ => ⟨false, rfl⟩, fun z => absurd c4 z⟩
          · exact ⟨rfl, _, rfl, fun _ => ⟨true, hx2 c4⟩, fun z => absurd c4 z⟩
        · rw [decide_eq_false (fun z => c4 (by cases z; rfl))]
          exact iteF ⟨rfl, _, rfl, fun z => absurd z c4, fun _ => rfl⟩
      rintro σ H' ⟨rfl, x', rfl, hx4, hxn⟩
      have bgH := e3 _ _ bg2
      have hp : (0 : Int) < (((r.map V.int).length : Nat) : Int) + 1 := by omega
      refine ⟨_, rfl, _, rfl, bg, _, rfl, .inl (SqL.of bgH), _, _, rfl, rfl, _, _, rfl, rfl, hp, ?_⟩
      have t0 := Int.emod_nonneg pl (show (((r.map V.int).length : Nat) : Int) + 1 ≠ 0 by omega)
      have t1 := Int.emod_lt_of_pos pl hp
      rw [List.length_map] at t0 t1
      rw [List.length_map]
      refine ⟨fun σ H4 => Same H' H4 ∧ ∃ (b' : Addr) (r' : List Int) (at1 : Int), σ = [some (.ref a), some (.int k), some (.int g), some (.int pl), some (.int ws.length), some (.ref b'), some x', some (.int at1), none] ∧
          H4 b' = some (.lst (r'.map V.int)) ∧ 0 ≤ at1 ∧ at1 ≤ (r'.length : Int) ∧ (∀ y ∈ r', y ∈ r) ∧ r'.length ≤ 6 ∧ (k ≠ 4 → r' = r), ?_, ?_⟩
      · have stay : Same H' H' ∧ ∃ (b' : Addr) (r' : List Int) (at1 : Int), [some (V.ref a), some (.int k), some (.int g), some (.int pl), some (.int ws.length), some (.ref bg), some x', some (.int (pl % (((r.length : Nat) : Int) + 1))), none] = [some (V.ref a), some (.int k), some (.int g), some (.int pl), some (.int ws.length), some (.ref b'), some x', some (.int at1), none] ∧
            H' b' = some (.lst (r'.map V.int)) ∧ 0 ≤ at1 ∧ at1 ≤ (r'.length : Int) ∧ (∀ y ∈ r', y ∈ r) ∧ r'.length ≤ 6 ∧ (k ≠ 4 → r' = r) :=
          ⟨Same.refl _, bg, r, _, rfl, bgH, t0, by omega, fun _ h => h, hrl, fun _ => rfl⟩
        refine ⟨_, rfl, rfl, _, rfl, ?_⟩
        by_cases c4 : k = 4
        · obtain ⟨bb, ebb⟩ := hx4 c4
          subst ebb
          rw [decide_eq_true (show V.int k = V.int 4 by rw [c4])]
          refine iteT ⟨_, rfl, .inr ⟨bb, rfl, ?_⟩⟩
          refine ⟨_, rfl, bg, _, rfl, .inl (SqL.of bgH), rfl, flat_ints _, _, rfl, ?_⟩
          show if inV (.int (if bb = true then 1 else 0)) (r.map V.int) = true then _ else _
          rw [inV_int]
          refine ite2 (fun cc => ?_) (fun cc => ?_)
          · have hm : (if bb = true then (1 : Int) else 0) ∈ r := of_decide_eq_true cc
            obtain ⟨i1, i2⟩ := index_at (if bb = true then (1 : Int) else 0) r hm
            have il : r.idxOf (if bb = true then (1 : Int) else 0) < r.length := List.idxOf_lt_length_of_mem hm
            have ee : eqV (V.int (if bb = true then (1 : Int) else 0)) (V.int (if bb = true then (1 : Int) else 0)) = true := beq_self_eq_true _
            refine ⟨_, rfl, .inl ⟨rfl, _, SqL.of bgH⟩, _, rfl, .inr ⟨bb, rfl, bg, _, _, r.idxOf (if bb = true then (1 : Int) else 0), _, rfl, rfl, SqL.of bgH, rfl, flat_ints _, i1, ee, i2, ?_⟩⟩
            clear ee i1 i2
            refine ⟨_, rfl, _, rfl, _, rfl, bg, _, rfl, SqL.of bgH, fun p4 hp4 => ?_⟩
            rw [cut_to r (by omega)]
            have e4 := same_new hp4 (.lst ((r.take ((r.idxOf (if bb = true then (1 : Int) else 0) : Nat) : Int).toNat).map V.int))
            refine ⟨_, rfl, _, rfl, _, _, rfl, rfl, _, rfl, bg, _, rfl, SqL.of (e4 _ _ bgH), fun p5 hp5 => ?_⟩
            rw [cut_from r (by omega)]
            have e5 := same_new hp5 (.lst ((r.drop (((r.idxOf (if bb = true then (1 : Int) else 0) : Nat) : Int) + 1).toNat).map V.int))
            refine ⟨p4, p5, _, _, rfl, rfl, e5 _ _ upd_same, upd_same, ?_, fun p6 hp6 => ?_⟩
            · rw [List.length_map, List.length_map, List.length_take, List.length_drop]
              exact le_line (by omega)
            refine ⟨(e4.trans e5).trans (same_new hp6 _), p6, r.take ((r.idxOf (if bb = true then (1 : Int) else 0) : Nat) : Int).toNat ++ r.drop (((r.idxOf (if bb = true then (1 : Int) else 0) : Nat) : Int) + 1).toNat, _, rfl, by rw [upd_same, List.map_append], by omega, ?_, fun y hy => ?_, ?_, fun z => absurd c4 z⟩
            · rw [List.length_append, List.length_take, List.length_drop]
              omega
            · rcases List.mem_append.mp hy with h | h
              · exact List.mem_of_mem_take h
              · exact List.mem_of_mem_drop h
            · rw [List.length_append, List.length_take, List.length_drop]
              omega
          · exact stay
        · rw [decide_eq_false (fun z => c4 (by cases z; rfl))]
          exact iteF stay
      rintro σ H4 ⟨e4, b', r', at1, rfl, hb', a0, a1, hsub, hl6, hrr⟩
      refine ⟨_, rfl, _, rfl, _, rfl, b', _, rfl, SqL.of hb', fun p4 hp4 => ?_⟩
      rw [cut_to r' a0]
      have f4 := same_new hp4 (.lst ((r'.take at1.toNat).map V.int))
      refine ⟨_, rfl, (by show 1 ≤ sizeLine; decide), fun p5 hp5 => ?_⟩
      have f5 := same_new hp5 (.lst [x'])
      refine ⟨p4, p5, _, _, rfl, rfl, f5 _ _ upd_same, upd_same, ?_, fun p6 hp6 => ?_⟩
      · rw [List.length_map, List.length_take]
        exact le_line (by show min _ _ + 1 ≤ 1000; omega)
      have f6 := same_new hp6 (.lst ((r'.take at1.toNat).map V.int ++ [x']))
      have f46 := (f4.trans f5).trans f6
      refine ⟨_, rfl, _, rfl, _, rfl, b', _, rfl, SqL.of (f46 _ _ hb'), fun p7 hp7 => ?_⟩
      rw [cut_from r' a0]
      have f7 := same_new hp7 (.lst ((r'.drop at1.toNat).map V.int))
      refine ⟨p6, p7, _, _, rfl, rfl, f7 _ _ upd_same, upd_same, ?_, fun p8 hp8 => ?_⟩
      · rw [List.length_append, List.length_map, List.length_map, List.length_take, List.length_drop]
        exact le_line (by show min _ _ + 1 + _ ≤ 1000; omega)
      have f8 := same_new hp8 (.lst ((r'.take at1.toNat).map V.int ++ [x'] ++ (r'.drop at1.toNat).map V.int))
      have f48 := (f46.trans f7).trans f8
      have all := e3.trans (e4.trans f48)
      have haH := all _ _ h1
      have np8 : p8 ≠ a := (ne_of_none (((e3.trans (e4.trans (f46.trans f7)))) _ _ h1) hp8).symm
      refine ⟨_, rfl, _, rfl, a, _, _, _, rfl, rfl, haH, ixN_of' g0 (by rw [el]; exact g1), ?_⟩
      have hwith : (r'.take at1.toNat).map V.int ++ [x'] ++ (r'.drop at1.toNat).map V.int = withX r' at1.toNat x' := rfl
      rw [hwith]
      rw [hwith] at f8 f48 all haH
      generalize hH8 : upd _ p8 (HO.lst (withX r' at1.toNat x')) = H8 at f8 f48 all haH
      have hp88 : H8 p8 = some (.lst (withX r' at1.toNat x')) := by rw [← hH8]; exact upd_same
      have hval : ∀ y ∈ r', 0 ≤ y ∧ y < (ws.length : Int) ∧ y ≠ g := fun y hy => hGr.rg y (hsub y hy)
      have hSq : SqL K (upd H8 a (.lst ((as.map V.ref).set g.toNat (.ref p8)))) p8 (withX r' at1.toNat x') := SqL.of (by rw [upd_ne np8]; exact hp88)
      have hbad : RowBad K (upd H8 a (.lst ((as.map V.ref).set g.toNat (.ref p8)))) ws.length g (.ref p8) := by
        by_cases c4 : k = 4
        · obtain ⟨b, rfl⟩ := hx4 c4
          exact bad_with (by omega) hval hSq (.inl ⟨_, .base (.bl b), .inr ⟨kit_bi, kit_bb⟩⟩)
        · obtain rfl := hrr c4
          obtain rfl := hxn c4
          rcases hx3 c4 with h | ⟨h, hm⟩
          · exact bad_with (by omega) hval hSq (h _ _)
          · subst h
            rw [with_ints] at hSq
            refine .inr (.inr ⟨p8, _, rfl, hSq, fun y hy => ?_, with_dup hm, ?_⟩)
            · rcases List.mem_append.mp hy with hy | hy
              · rcases List.mem_append.mp hy with hy | hy
                · exact hval y (List.mem_of_mem_take hy)
                · rw [List.mem_singleton] at hy
                  rw [hy]
                  exact hval _ hm
              · exact hval y (List.mem_of_mem_drop hy)
            · rw [List.length_append, List.length_append, List.length_take, List.length_drop, List.length_singleton]
              omega
      obtain ⟨z1, z2⟩ := laid (K := K) h0 s0 h1 h2 h3 hG g0 g1 all (.ref p8) hbad
      exact .inl ⟨c7, ⟨_, _, _, rfl⟩, z1, z2⟩
    · exact .inr ⟨of_decide_eq_false (Bool.eq_false_iff.mpr c), rfl, rfl⟩
  rintro σ H' (⟨c7, ⟨x, y, z, rfl⟩, s1, hbad⟩ | ⟨c7, rfl, rfl⟩)
  · -- laid already
    refine ⟨_, rfl, _, _, rfl, rfl, _, rfl, ifF (decide_eq_false (by omega)) ?_⟩
    refine ⟨fun σ H'' => H'' = H' ∧ σ = [some (.ref a), some (.int k), some (.int g), some (.int pl), some (.int ws.length), x, y, z, none], ?_, ?_⟩
    · exact ⟨_, rfl, _, _, rfl, rfl, _, rfl, ifF (decide_eq_false (by omega)) ⟨_, rfl, rfl, rfl⟩⟩
    rintro σ H'' ⟨rfl, rfl⟩
    refine ⟨fun σ H2 => H2 = H'' ∧ σ = [some (.ref a), some (.int k), some (.int g), some (.int pl), some (.int ws.length), x, y, z, none], ?_, ?_⟩
    · exact ⟨_, rfl, rfl, _, rfl, ifF (decide_eq_false (fun e => by cases e; omega)) ⟨rfl, rfl⟩⟩
    rintro σ H2 ⟨rfl, rfl⟩
    refine ⟨_, rfl, _, _, rfl, rfl, _, rfl, ifF (decide_eq_false (by omega)) ?_⟩
    refine ⟨_, rfl, rfl, _, rfl, ifF (decide_eq_false (fun e => by cases e; omega)) ?_⟩
    refine ⟨_, rfl, rfl, _, rfl, ifF (decide_eq_false (fun e => by cases e; omega)) ?_⟩
    refine ⟨_, rfl, rfl, _, rfl, ifF (decide_eq_false (fun e => by cases e; omega)) ?_⟩
    exact ⟨_, rfl, q _ _ s1 hbad⟩
  · by_cases c15 : k > 15
    · refine ⟨_, rfl, _, _, rfl, rfl, _, rfl, ifT (decide_eq_true c15) ?_⟩
      have hp : (0 : Int) < (((r.map V.int).length : Nat) : Int) + 1 := by omega
      refine ⟨_, rfl, _, rfl, bg, _, rfl, .inl (SqL.of bg2), _, _, rfl, rfl, _, _, rfl, rfl, hp, ?_⟩
      have t0 := Int.emod_nonneg pl (show (((r.map V.int).length : Nat) : Int) + 1 ≠ 0 by omega)
      have t1 := Int.emod_lt_of_pos pl hp
      rw [List.length_map] at t0 t1
      rw [List.length_map]
      refine ⟨_, rfl, _, rfl, _, rfl, bg, _, rfl, SqL.of bg2, fun p4 hp4 => ?_⟩
      rw [cut_to r t0]
      have f4 := same_new hp4 (.lst ((r.take (pl % (((r.length : Nat) : Int) + 1)).toNat).map V.int))
      refine ⟨(by show 1 ≤ sizeLine; decide), fun u1 hu1 => ?_⟩
      have f5 := f4.trans (same_new hu1 (.lst [V.int 1]))
      refine fun u2 hu2 => ?_
      have f6 := f5.trans (same_new hu2 (.dK []))
      refine ⟨(by show 2 ≤ sizeLine; decide), fun u3 hu3 => ?_⟩
      have f7 := f6.trans (same_new hu3 (.lst [V.ref u1, V.ref u2]))
      have hx : ∃ x, atI [V.ref u1, V.ref u2] (k - 16) = some x ∧ ∀ Hz, Same (upd (upd (upd H' p4 (.lst ((r.take (pl % (((r.length : Nat) : Int) + 1)).toNat).map V.int))) u1 (.lst [V.int 1])) u2 (.dK [])) Hz → NotInt K Hz x := by
        by_cases c16 : k = 16
        · refine ⟨.ref u1, ?_, fun Hz ez => ⟨_, .base (.lst (ez _ _ ((same_new hu2 _) _ _ upd_same))), .inl kit_li⟩⟩
          have : k - 16 = ((0 : Nat) : Int) := by omega
          rw [this]; exact atI_nat rfl
        · refine ⟨.ref u2, ?_, fun Hz ez => ⟨_, .base (.dK (ez _ _ upd_same)), .inl kit_di⟩⟩
          have : k - 16 = ((1 : Nat) : Int) := by omega
          rw [this]; exact atI_nat rfl
      obtain ⟨x, hx1, hx2⟩ := hx
      refine ⟨_, rfl, _, _, rfl, rfl, u3, _, _, _, rfl, rfl, SqL.of upd_same, hx1, ?_⟩
      refine ⟨(by show 1 ≤ sizeLine; decide), fun p5 hp5 => ?_⟩
      have f8 := f7.trans (same_new hp5 (.lst [x]))
      have h4in : (upd (upd (upd (upd (upd H' p4 (.lst ((r.take (pl % (((r.length : Nat) : Int) + 1)).toNat).map V.int))) u1 (.lst [V.int 1])) u2 (.dK [])) u3 (.lst [V.ref u1, V.ref u2])) p5 (.lst [x])) p4 = some (.lst ((r.take (pl % (((r.length : Nat) : Int) + 1)).toNat).map V.int)) :=
        ((same_new hu1 _).trans ((same_new hu2 _).trans ((same_new hu3 _).trans (same_new hp5 _)))) _ _ upd_same
      refine ⟨p4, p5, _, _, rfl, rfl, h4in, upd_same, ?_, fun p6 hp6 => ?_⟩
      · rw [List.length_map, List.length_take]
        exact le_line (by show min _ _ + 1 ≤ 1000; omega)
      have f9 := f8.trans (same_new hp6 (.lst ((r.take (pl % (((r.length : Nat) : Int) + 1)).toNat).map V.int ++ [x])))
      refine ⟨_, rfl, _, rfl, _, rfl, bg, _, rfl, SqL.of (f9 _ _ bg2), fun p7 hp7 => ?_⟩
      rw [cut_from r t0]
      have f10 := same_new hp7 (.lst ((r.drop (pl % (((r.length : Nat) : Int) + 1)).toNat).map V.int))
      refine ⟨p6, p7, _, _, rfl, rfl, f10 _ _ upd_same, upd_same, ?_, fun p8 hp8 => ?_⟩
      · rw [List.length_append, List.length_map, List.length_map, List.length_take, List.length_drop]
        exact le_line (by show min _ _ + 1 + _ ≤ 1000; omega)
      have hwith : (r.take (pl % (((r.length : Nat) : Int) + 1)).toNat).map V.int ++ [x] ++ (r.drop (pl % (((r.length : Nat) : Int) + 1)).toNat).map V.int = withX r (pl % (((r.length : Nat) : Int) + 1)).toNat x := rfl
      rw [hwith]
      have f11 := same_new hp8 (.lst (withX r (pl % (((r.length : Nat) : Int) + 1)).toNat x))
      have all := (f9.trans f10).trans f11
      have np8 : p8 ≠ a := (ne_of_none ((f9.trans f10) _ _ h1) hp8).symm
      have tail := ((same_new hu3 (.lst [V.ref u1, V.ref u2])).trans ((same_new hp5 (.lst [x])).trans ((same_new hp6 (.lst ((r.take (pl % (((r.length : Nat) : Int) + 1)).toNat).map V.int ++ [x]))).trans (f10.trans f11))))
      have hNI := hx2 _ tail
      have haH := all _ _ h1
      refine ⟨_, rfl, _, rfl, a, _, _, _, rfl, rfl, haH, ixN_of' g0 (by rw [el]; exact g1), ?_⟩
      clear hx2 tail f4 f5 f6 f7 f8 f9 f10 h4in
      generalize hH8 : upd _ p8 (HO.lst (withX r (pl % (((r.length : Nat) : Int) + 1)).toNat x)) = H8 at all haH hNI
      have hp88 : H8 p8 = some (.lst (withX r (pl % (((r.length : Nat) : Int) + 1)).toNat x)) := by rw [← hH8]; exact upd_same
      have hNI2 : NotInt K (upd H8 a (.lst ((as.map V.ref).set g.toNat (.ref p8)))) x := by
        obtain ⟨t, ty, hk⟩ := hNI
        refine ⟨t, ?_, hk⟩
        cases ty with
        | base ty =>
          cases ty with
          | non => exact .base .non
          | bl b => exact .base (.bl b)
          | int i => exact .base (.int i)
          | str s => exact .base (.str s)
          | flt f => exact .base (.flt f)
          | @lst a' xs h =>
            by_cases ca : a' = a
            · subst ca; exact .base (.lst upd_same)
            · exact .base (.lst (by rw [upd_ne ca]; exact h))
          | @frz a' o xs h => exact .base (.frz (by rw [upd_ne (ne_of h haH (by intro z; cases z))]; exact h))
          | @tup a' xs h => exact .base (.tup (by rw [upd_ne (ne_of h haH (by intro z; cases z))]; exact h))
          | @dK a' xs h => exact .base (.dK (by rw [upd_ne (ne_of h haH (by intro z; cases z))]; exact h))
          | @dT a' xs h => exact .base (.dT (by rw [upd_ne (ne_of h haH (by intro z; cases z))]; exact h))
          | @ins a' _ _ _ h c1 c2 c3 c4 c5 => exact .base (.ins (by rw [upd_ne (ne_of h haH (by intro z; cases z))]; exact h) c1 c2 c3 c4 c5)
        | byt b => exact .byt b
        | set h => exact .set (by rw [upd_ne (ne_of h haH (by intro z; cases z))]; exact h)
        | kList h c => exact .kList h c
        | kTuple h c => exact .kTuple h c
        | kDict h c => exact .kDict h c
        | fTuple h => exact .fTuple (by rw [upd_ne (ne_of h haH (by intro z; cases z))]; exact h)
        | fDict h => exact .fDict (by rw [upd_ne (ne_of h haH (by intro z; cases z))]; exact h)
      obtain ⟨z1, z2⟩ := laid (K := K) h0 s0 h1 h2 h3 hG g0 g1 all (.ref p8) (bad_with (k := (pl % (((r.length : Nat) : Int) + 1)).toNat) (r := r) (by omega) (fun y hy => hGr.rg y hy) (SqL.of (by rw [upd_ne np8]; exact hp88)) (.inl hNI2))
      exact ⟨_, rfl, q _ _ z1 z2⟩
    · refine ⟨_, rfl, _, _, rfl, rfl, _, rfl, ifF (decide_eq_false c15) ?_⟩
      refine ⟨fun σ H2 => σ = [some (.ref a), some (.int k), some (.int g), some (.int pl), some (.int ws.length), some (.ref bg), none, none, none] ∧ (k < 10 → Same H0 H2 ∧ TabBad K H2 (.ref a)) ∧ (¬ k < 10 → H2 = H'), ?_, ?_⟩
      · refine ⟨_, rfl, _, _, rfl, rfl, _, rfl, ifT (decide_eq_true (by omega)) ⟨_, _, rfl, rfl, _, rfl, ?_⟩⟩
        by_cases c10 : k < 10
        · refine ifT (decide_eq_true c10) ?_
          refine ⟨_, rfl, bg, _, rfl, .inl ⟨SqL.of bg2, fun tp htp => ?_⟩⟩
          have f1 := same_new htp (.tup (r.map V.int))
          refine ⟨(by show 3 ≤ sizeLine; decide), fun dl hdl => ?_⟩
          have f2 := same_new hdl (.lst [V.ref tp, V.str ("0" : Str), V.non])
          have hx : ∃ x, atI [V.ref tp, V.str ("0" : Str), V.non] (k - 7) = some x ∧ ∀ Hz, Hz tp = some (.tup (r.map V.int)) → NotList K Hz x := by
            have hk : k = 7 ∨ k = 8 ∨ k = 9 := by omega
            rcases hk with h | h | h <;> subst h
            · exact ⟨_, atI_nat (j := 0) rfl, fun Hz hz => ⟨_, .base (.tup hz), kit_tl⟩⟩
            · exact ⟨_, atI_nat (j := 1) rfl, fun Hz _ => ⟨_, .base (.str _), kit_sl⟩⟩
            · exact ⟨_, atI_nat (j := 2) rfl, fun Hz _ => ⟨_, .base .non, kit_nl⟩⟩
          obtain ⟨x, hx1, hx2⟩ := hx
          refine ⟨_, rfl, _, _, rfl, rfl, dl, _, _, _, rfl, rfl, SqL.of upd_same, hx1, ?_⟩
          have all := f1.trans f2
          have ntp : tp ≠ a := (ne_of_none h1 htp).symm
          refine ⟨_, rfl, _, rfl, a, _, _, _, rfl, rfl, all _ _ h1, ixN_of' g0 (by rw [el]; exact g1), ?_⟩
          obtain ⟨z1, z2⟩ := laid (K := K) h0 s0 h1 h2 h3 hG g0 g1 all x (.inl (hx2 _ (by rw [upd_ne ntp]; exact f2 _ _ upd_same)))
          exact ⟨rfl, fun _ => ⟨z1, z2⟩, fun z => absurd c10 z⟩
        · refine ifF (decide_eq_false c10) ?_
          exact ⟨rfl, fun z => absurd z c10, fun _ => rfl⟩
      rintro σ H2 ⟨rfl, m1, m2⟩
      refine ⟨fun σ H3 => σ = [some (.ref a), some (.int k), some (.int g), some (.int pl), some (.int ws.length), some (.ref bg), none, none, none] ∧ (k < 10 ∨ k = 13 → Same H0 H3 ∧ TabBad K H3 (.ref a)) ∧ (¬ k < 10 → k ≠ 13 → H3 = H'), ?_, ?_⟩
      · by_cases c13 : k = 13
        · have e := m2 (by omega)
          subst e
          refine ⟨_, rfl, rfl, _, rfl, ifT (decide_eq_true (by rw [c13])) ?_⟩
          refine ⟨_, rfl, _, rfl, a, _, _, _, rfl, rfl, h1, ixN_of' g0 (by rw [el]; exact g1), ?_⟩
          obtain ⟨z1, z2⟩ := laid (K := K) h0 s0 h1 h2 h3 hG g0 g1 (Same.refl _) (.int 5) (.inl ⟨_, .base (.int 5), kit_il⟩)
          exact ⟨rfl, fun _ => ⟨z1, z2⟩, fun _ z => absurd c13 z⟩
        · refine ⟨_, rfl, rfl, _, rfl, ifF (decide_eq_false (fun e => c13 (by cases e; rfl))) ?_⟩
          exact ⟨rfl, fun z => m1 (by omega), fun z _ => m2 z⟩
      rintro σ H3 ⟨rfl, m3, m4⟩
      by_cases c13 : k > 13
      · have e := m4 (by omega) (by omega)
        subst e
        refine ⟨_, rfl, _, _, rfl, rfl, _, rfl, ifT (decide_eq_true c13) ?_⟩
        refine ⟨(by show 2 ≤ sizeLine; decide), fun dl hdl => ?_⟩
        have hk : k = 14 ∨ k = 15 := by omega
        have sd := s0.trans (same_new hdl (.lst [V.non, V.int 5]))
        rcases hk with h | h <;> subst h
        · exact ⟨_, rfl, _, _, rfl, rfl, dl, _, _, _, rfl, rfl, SqL.of upd_same, atI_nat (j := 0) rfl, q _ _ sd (.inl ⟨_, .base .non, kit_nl⟩)⟩
        · exact ⟨_, rfl, _, _, rfl, rfl, dl, _, _, _, rfl, rfl, SqL.of upd_same, atI_nat (j := 1) rfl, q _ _ sd (.inl ⟨_, .base (.int 5), kit_il⟩)⟩
      refine ⟨_, rfl, _, _, rfl, rfl, _, rfl, ifF (decide_eq_false c13) ?_⟩
      by_cases c10 : k = 10
      · have e := m4 (by omega) (by omega)
        subst e
        refine ⟨_, rfl, rfl, _, rfl, ifT (decide_eq_true (by rw [c10])) ?_⟩
        exact ⟨(by show 0 ≤ sizeLine; decide), fun dl hdl => q _ _ (s0.trans (same_new hdl _)) (.inr (.inl ⟨dl, [], rfl, SqL.of upd_same, .inl rfl⟩))⟩
      refine ⟨_, rfl, rfl, _, rfl, ifF (decide_eq_false (fun e => c10 (by cases e; rfl))) ?_⟩
      by_cases c11 : k = 11
      · have e := m4 (by omega) (by omega)
        subst e
        refine ⟨_, rfl, rfl, _, rfl, ifT (decide_eq_true (by rw [c11])) ?_⟩
        refine ⟨7, rfl, by decide, by decide, fun L hL => ?_⟩
        refine lc_range (lo := 0) (n := 7) (fun i H4 => Same H3 H4 ∧ ∃ xs : List V, H4 L = some (.lst xs) ∧ xs.length = i)
          ⟨same_new hL _, [], upd_same, rfl⟩ ?_ ?_
        · rintro i H4 hi ⟨e4, xs, x1, x2⟩
          refine ⟨rfl, ?_⟩
          refine ⟨(by show 0 ≤ sizeLine; decide), fun u hu => ?_⟩
          have nuL : L ≠ u := ne_of_none x1 hu
          refine ⟨xs, by rw [upd_ne nuL]; exact x1, small1000 (by omega), same_put (e4.trans (same_new hu _)) hL _, _, upd_same, by rw [List.length_append, x2]; rfl⟩
        · rintro H4 ⟨e4, xs, x1, x2⟩
          exact q _ _ (s0.trans e4) (.inr (.inl ⟨L, xs, rfl, SqL.of x1, .inr x2⟩))
      refine ⟨_, rfl, rfl, _, rfl, ifF (decide_eq_false (fun e => c11 (by cases e; rfl))) ?_⟩
      by_cases c12 : k = 12
      · have e := m4 (by omega) (by omega)
        subst e
        refine ⟨_, rfl, rfl, _, rfl, ifT (decide_eq_true (by rw [c12])) ?_⟩
        exact ⟨_, rfl, a, _, rfl, .inl ⟨SqL.of h1, fun tp htp => q _ _ (s0.trans (same_new htp _)) (.inl ⟨_, .base (.tup upd_same), kit_tl⟩)⟩⟩
      refine ⟨_, rfl, rfl, _, rfl, ifF (decide_eq_false (fun e => c12 (by cases e; rfl))) ?_⟩
      obtain ⟨z1, z2⟩ := m3 (by omega)
      exact ⟨_, rfl, q _ _ z1 z2⟩
end
end B2

namespace B2
open PySem L2

/-- what the classes of the errors say -/
structure Errs (K : PySem.W.Frag) (mg : Str → Option Value) (cW cB cG cM cP cN : Addr) : Prop where
  gW : mg "BadWishes" = some (.ref cW)
  gB : mg "BedError" = some (.ref cB)
  gG : mg "BadGuest" = some (.ref cG)
  gM : mg "BadMates" = some (.ref cM)
  gP : mg "BadParties" = some (.ref cP)
  gN : mg "NoNote" = some (.ref cN)
  gV : mg "ValueError" = none
  eB : PySem.W.exmOne K (.ref cW) (.ref cB) = some true
  eW : PySem.W.exmOne K (.ref cW) (.ref cW) = some true
  any : PySem.W.kitAny K (.ref cW) [.ref cG, .ref cM, .ref cP, .ref cN] = some false
  one : PySem.W.kitOne K (.ref cW) (.ref cW) = some true
  ve : PySem.W.kitOne K (.ref cW) (.type "ValueError") = some true
  exc : ExcC K cW

section
variable {P : Program} {w : World} {K : PySem.W.Frag} {mg : Str → Option Value} {base : Heap}

/-! ### _law_asked -/
theorem sc_asked : FnScope ["_law_which", "_law_wishes"] ["_law_which", "_law_wishes"] (defScope s_asked) := ⟨rfl, rfl, rfl, by decide +kernel, rfl, by decide +kernel, by decide +kernel⟩
def sp_asked (K : PySem.W.Frag) (C : Addr) : Sp := fun vs H _ E => ∃ (k : Int) (v : V), vs = [.int k, v] ∧ 0 ≤ k ∧ k ≤ 10 ∧ TabBad K H v ∧ ∀ H', E (.ref C) none H'
/-- an Inn's __init__ that is handed bad wishes -/
def sp_innB (K : PySem.W.Frag) (C : Addr) : Sp := fun vs H _ E => ∃ (x v : V), vs = [x, v] ∧ TabBad K H v ∧ ∀ H', Same H H' → E (.ref C) none H'
theorem TabBad.same {H H' : Hp} {v : V} (h : TabBad K H v) (e : Same H H') : TabBad K H' v := by
  rcases h with h | ⟨a, xs, e1, hS, r⟩ | ⟨a, xs, g, x, e1, hS, l1, l6, hg, hb, hB⟩
  · exact .inl (h.same e)
  · exact .inr (.inl ⟨a, xs, e1, e.seq hS, r⟩)
  · refine .inr (.inr ⟨a, xs, g, x, e1, e.seq hS, l1, l6, hg, fun i hi => ?_, hB.same e⟩)
    obtain ⟨b, r, q1, q2, q3⟩ := hb i hi
    exact ⟨b, r, q1, e.seq q2, q3⟩
theorem ok_asked {C cI fI : Addr} {fdI : FuncData} {f : Addr} {fd : FuncData} (F : Fun K "_law_asked" "_law_asked" s_asked f fd)
    (D0 : CalX P w K mg base 3 "need_wishes" ["wishes"] (sp_need_wishesX K C)) (D1 : CalX P w K mg base 4 "suits" ["wishes", "one", "other"] (sp_bad K C 3)) (D2 : CalX P w K mg base 4 "rather" ["wishes", "guest", "one", "other"] (sp_bad K C 4))
    (D3 : CalX P w K mg base 4 "restless" ["wishes", "mates"] (sp_bad K C 2)) (D4 : CalX P w K mg base 5 "calm" ["wishes", "mates"] (sp_bad K C 2)) (D5 : CalX P w K mg base 4 "all_twos" ["wishes"] (sp_bad K C 1)) (D6 : CalX P w K mg base 5 "all_calm" ["wishes"] (sp_bad K C 1))
    (D7 : CalX P w K mg base 6 "holds" ["wishes", "after"] (sp_bad K C 2)) (D8 : CalX P w K mg base 6 "dealt" ["wishes"] (sp_bad K C 1)) (D9 : CalX P w K mg base 6 "shown" ["wishes"] (sp_bad K C 1))
    (M : Mk K cI fI) (mI : mg "Inn" = some (.ref cI)) (bI : Binds K fdI ["self", "wishes"] []) (GI : FnOk P w K mg base (L2.CX P w) 6 fI fdI ["self", "wishes"] (sp_innB K C)) :
    FnOk P w K mg base (L2.CX P w) 8 f fd ["_law_which", "_law_wishes"] (sp_asked K C) := by
  obtain ⟨g0, gd0, G0, m0, k0, b0⟩ := D0
  obtain ⟨g1, gd1, G1, m1, k1, b1⟩ := D1
  obtain ⟨g2, gd2, G2, m2, k2, b2⟩ := D2
  obtain ⟨g3, gd3, G3, m3, k3, b3⟩ := D3
  obtain ⟨g4, gd4, G4, m4, k4, b4⟩ := D4
  obtain ⟨g5, gd5, G5, m5, k5, b5⟩ := D5
  obtain ⟨g6, gd6, G6, m6, k6, b6⟩ := D6
  obtain ⟨g7, gd7, G7, m7, k7, b7⟩ := D7
  obtain ⟨g8, gd8, G8, m8, k8, b8⟩ := D8
  obtain ⟨g9, gd9, G9, m9, k9, b9⟩ := D9
  refine F.okX sc_asked (fun vs H Q E h => ?_) (fun cdv A outer s H vs Q E hr h => ?_)
  · obtain ⟨k, v, rfl, _⟩ := h
    rfl
  obtain ⟨k, v, rfl, h0, h10, hB, q⟩ := h
  refine ⟨_, pss_cons (ps_if (pt_cmpR op_eq (pv 0) pe_int (nomark _)) (pss_one (ps_ret (pe_call G0 (hr.mono (by decide)) (by rfl) m0 k0 b0 .nil (passes_call (takes_of rfl rfl rfl rfl) fun _ _ _ _ h => h) (pa_cons (pv 1) pa_nil)))) pss_nil)
    (pss_cons (ps_if (pt_cmpR op_eq (pv 0) pe_int (nomark _)) (pss_one (ps_ret (pe_call G1 (hr.mono (by decide)) (by rfl) m1 k1 b1 .nil (passes_call (takes_of rfl rfl rfl rfl) fun _ _ _ _ h => h) (pa_cons (pv 1) (pa_cons (pe_un un_neg pe_int) (pa_cons pe_non pa_nil)))))) pss_nil)
    (pss_cons (ps_if (pt_cmpR op_eq (pv 0) pe_int (nomark _)) (pss_one (ps_ret (pe_call G2 (hr.mono (by decide)) (by rfl) m2 k2 b2 .nil (passes_call (takes_of rfl rfl rfl rfl) fun _ _ _ _ h => h) (pa_cons (pv 1) (pa_cons pe_int (pa_cons pe_str (pa_cons (pe_lst pa_nil) pa_nil))))))) pss_nil)
    (pss_cons (ps_if (pt_cmpR op_eq (pv 0) pe_int (nomark _)) (pss_one (ps_ret (pe_call G3 (hr.mono (by decide)) (by rfl) m3 k3 b3 .nil (passes_call (takes_of rfl rfl rfl rfl) fun _ _ _ _ h => h) (pa_cons (pv 1) (pa_cons pe_non pa_nil))))) pss_nil)
    (pss_cons (ps_if (pt_cmpR op_eq (pv 0) pe_int (nomark _)) (pss_one (ps_ret (pe_call G4 (hr.mono (by decide)) (by rfl) m4 k4 b4 .nil (passes_call (takes_of rfl rfl rfl rfl) fun _ _ _ _ h => h) (pa_cons (pv 1) (pa_cons (pe_lst (pa_cons pe_int pa_nil)) pa_nil))))) pss_nil)
    (pss_cons (ps_if (pt_cmpR op_eq (pv 0) pe_int (nomark _)) (pss_one (ps_ret (pe_call G5 (hr.mono (by decide)) (by rfl) m5 k5 b5 .nil (passes_call (takes_of rfl rfl rfl rfl) fun _ _ _ _ h => h) (pa_cons (pv 1) pa_nil)))) pss_nil)
    (pss_cons (ps_if (pt_cmpR op_eq (pv 0) pe_int (nomark _)) (pss_one (ps_ret (pe_call G6 (hr.mono (by decide)) (by rfl) m6 k6 b6 .nil (passes_call (takes_of rfl rfl rfl rfl) fun _ _ _ _ h => h) (pa_cons (pv 1) pa_nil)))) pss_nil)
    (pss_cons (ps_if (pt_cmpR op_eq (pv 0) pe_int (nomark _)) (pss_one (ps_ret (pe_call G7 (hr.mono (by decide)) (by rfl) m7 k7 b7 .nil (passes_call (takes_of rfl rfl rfl rfl) fun _ _ _ _ h => h) (pa_cons (pv 1) (pa_cons pe_non pa_nil))))) pss_nil)
    (pss_cons (ps_if (pt_cmpR op_eq (pv 0) pe_int (nomark _)) (pss_one (ps_ret (pe_call G8 (hr.mono (by decide)) (by rfl) m8 k8 b8 .nil (passes_call (takes_of rfl rfl rfl rfl) fun _ _ _ _ h => h) (pa_cons (pv 1) pa_nil)))) pss_nil)
    (pss_cons (ps_if (pt_cmpR op_eq (pv 0) pe_int (nomark _)) (pss_one (ps_ret (pe_call G9 (hr.mono (by decide)) (by rfl) m9 k9 b9 .nil (passes_call (takes_of rfl rfl rfl rfl) fun _ _ _ _ h => h) (pa_cons (pv 1) pa_nil)))) pss_nil)
    (pss_one (ps_ret (pe_make M GI (hr.mono (by decide)) (by rfl) mI bI .nil (passes_call (takes_of rfl rfl rfl rfl) fun _ _ _ _ h => h) (pa_cons (pv 1) pa_nil))))))))))))), ?_⟩
  have yes : ∀ {n : Int}, k = n → decide (V.int k = V.int n) = true := fun e => decide_eq_true (by rw [e])
  have no : ∀ {n : Int}, k ≠ n → decide (V.int k = V.int n) = false := fun e => decide_eq_false (fun z => e (by cases z; rfl))
  refine ⟨_, rfl, rfl, _, rfl, ?_⟩
  by_cases c0 : k = 0
  · exact ifT (yes c0) ⟨_, rfl, v, rfl, .inr ⟨hB, fun H' _ => q H'⟩⟩
  refine ifF (no c0) ⟨_, rfl, rfl, _, rfl, ?_⟩
  by_cases c1 : k = 1
  · exact ifT (yes c1) ⟨_, rfl, 1, rfl, rfl, v, _, rfl, hB, fun H' _ => q H'⟩
  refine ifF (no c1) ⟨_, rfl, rfl, _, rfl, ?_⟩
  by_cases c2 : k = 2
  · exact ifT (yes c2) ⟨_, rfl, (by show 0 ≤ sizeLine; decide), fun u hu => ⟨rfl, v, _, rfl, hB.same (same_new hu _), fun H' _ => q H'⟩⟩
  refine ifF (no c2) ⟨_, rfl, rfl, _, rfl, ?_⟩
  by_cases c3 : k = 3
  · exact ifT (yes c3) ⟨_, rfl, rfl, v, _, rfl, hB, fun H' _ => q H'⟩
  refine ifF (no c3) ⟨_, rfl, rfl, _, rfl, ?_⟩
  by_cases c4 : k = 4
  · exact ifT (yes c4) ⟨_, rfl, (by show 1 ≤ sizeLine; decide), fun u hu => ⟨rfl, v, _, rfl, hB.same (same_new hu _), fun H' _ => q H'⟩⟩
  refine ifF (no c4) ⟨_, rfl, rfl, _, rfl, ?_⟩
  by_cases c5 : k = 5
  · exact ifT (yes c5) ⟨_, rfl, rfl, v, _, rfl, hB, fun H' _ => q H'⟩
  refine ifF (no c5) ⟨_, rfl, rfl, _, rfl, ?_⟩
  by_cases c6 : k = 6
  · exact ifT (yes c6) ⟨_, rfl, rfl, v, _, rfl, hB, fun H' _ => q H'⟩
  refine ifF (no c6) ⟨_, rfl, rfl, _, rfl, ?_⟩
  by_cases c7 : k = 7
  · exact ifT (yes c7) ⟨_, rfl, rfl, v, _, rfl, hB, fun H' _ => q H'⟩
  refine ifF (no c7) ⟨_, rfl, rfl, _, rfl, ?_⟩
  by_cases c8 : k = 8
  · exact ifT (yes c8) ⟨_, rfl, rfl, v, _, rfl, hB, fun H' _ => q H'⟩
  refine ifF (no c8) ⟨_, rfl, rfl, _, rfl, ?_⟩
  by_cases c9 : k = 9
  · exact ifT (yes c9) ⟨_, rfl, rfl, v, _, rfl, hB, fun H' _ => q H'⟩
  refine ifF (no c9) ⟨_, rfl, ?_⟩
  intro x dx hx hdx ne
  exact ⟨.ref x, v, rfl, hB.same ((same_new hdx _).trans (same_new (by rw [upd_ne ne.symm]; exact hx) _)), fun H' _ => q H'⟩

/-! ### _law_refused -/
theorem sc_refused : FnScope ["_law_which", "_law_wishes", "_law_kind", "error"] ["_law_which", "_law_wishes", "_law_kind"] (defScope s_refused) := ⟨rfl, rfl, rfl, by decide +kernel, rfl, by decide +kernel, by decide +kernel⟩
def sp_refused (K : PySem.W.Frag) : Sp := fun vs H Q _ => ∃ (k j : Int) (v : V), vs = [.int k, v, .int j] ∧ 0 ≤ k ∧ k ≤ 10 ∧ TabBad K H v ∧ ∀ H', Q (.bl true) H'
theorem ok_refused {cW cB cG cM cP cN : Addr} {f : Addr} {fd : FuncData} (F : Fun K "_law_refused" "_law_refused" s_refused f fd) (T : Own mg) (X : Errs K mg cW cB cG cM cP cN) (D : CalX P w K mg base 8 "_law_asked" ["_law_which", "_law_wishes"] (sp_asked K cW)) :
    FnOk P w K mg base CX0 9 f fd ["_law_which", "_law_wishes", "_law_kind"] (sp_refused K) := by
  obtain ⟨g1, gd1, G1, m1, k1, b1⟩ := D
  refine F.ok sc_refused (fun vs H Q E h => ?_) (fun cdv A outer s H vs Q E hr h => ?_)
  · obtain ⟨k, j, v, rfl, _⟩ := h
    rfl
  obtain ⟨k, j, v, rfl, h0, h10, hB, q⟩ := h
  refine ⟨_, pss_cons (ps_if (pt_cmpR op_eq (pv 2) pe_int (nomark _))
      (pss_cons (ps_try_as (i := 3) rfl rfl sc_refused.nd rfl rfl ⟨rfl, by decide, .inl X.gB⟩ takes0
          (fun W pn xe tk _ => pss_one (ps_expr (pe_callS G1 hr (by rfl) m1 k1 b1 (fun σ => passAt tk σ) (pa_cons (pv 0) (pa_cons (pv 1) pa_nil)))))
          (fun a oe cls d pn hz hf => pss_cons (ps_if (pt_val (pe_callB (call_isET (K := K) rfl hz hf) (by rfl) T.isI (by decide +kernel) (pa_cons (pv 3) (pa_cons (pe_tup (pa_cons (pe_glob (v := .ref cG) rfl X.gG rfl) (pa_cons (pe_glob (v := .ref cM) rfl X.gM rfl) (pa_cons (pe_glob (v := .ref cP) rfl X.gP rfl) (pa_cons (pe_glob (v := .ref cN) rfl X.gN rfl) pa_nil))))) pa_nil)))) (pss_one (ps_ret pe_bl)) pss_nil)
            (pss_one (ps_ret (pe_callB (call_isEG (K := K) rfl hz hf) (by rfl) T.isI (by decide +kernel) (pa_cons (pv 3) (pa_cons (pe_glob (v := .ref cW) rfl X.gW rfl) pa_nil)))))))
        (pss_one (ps_ret pe_bl))) pss_nil)
    (pss_cons (ps_if (pt_cmpR op_eq (pv 2) pe_int (nomark _))
      (pss_cons (ps_try_as (i := 3) rfl rfl sc_refused.nd rfl rfl ⟨rfl, by decide, .inl X.gB⟩ takes0
          (fun W pn xe tk _ => pss_one (ps_expr (pe_callS G1 hr (by rfl) m1 k1 b1 (fun σ => passAt tk σ) (pa_cons (pv 0) (pa_cons (pv 1) pa_nil)))))
          (fun a oe cls d pn hz hf => pss_one (ps_ret (pe_callB (call_isEG (K := K) rfl hz hf) (by rfl) T.isI (by decide +kernel) (pa_cons (pv 3) (pa_cons (pe_bltn (v := .ty "ValueError") (by rfl) X.gV (by decide +kernel) rfl) pa_nil))))))
        (pss_one (ps_ret pe_bl))) pss_nil)
    (pss_cons (ps_try_only rfl rfl ⟨rfl, by decide, .inl X.gW⟩ takes0
        (fun W pn xe tk _ => pss_one (ps_expr (pe_callS G1 hr (by rfl) m1 k1 b1 (fun σ => passAt tk σ) (pa_cons (pv 0) (pa_cons (pv 1) pa_nil)))))
        (fun a oe cls d pn _ _ => pss_one (ps_ret pe_bl)))
      (pss_one (ps_ret pe_bl)))), ?_⟩
  refine ⟨_, rfl, rfl, _, rfl, ?_⟩
  by_cases c0 : j = 0
  · refine ifT (decide_eq_true (by rw [c0])) ?_
    refine ⟨_, rfl, _, rfl, k, v, rfl, h0, h10, hB, fun H' => ?_⟩
    refine ⟨true, X.eB, fun _ a ha => ?_, fun z => nomatch z⟩
    refine ⟨_, rfl, (by show 4 ≤ sizeLine; decide), fun tp htp => ?_⟩
    refine ⟨cW, rfl, rfl, X.exc, tp, _, _, false, rfl, upd_same, .cons (.own _) (.cons (.own _) (.cons (.own _) (.cons (.own _) .nil))), X.any, _, rfl, iteF ?_⟩
    exact ⟨_, rfl, cW, rfl, rfl, X.exc, _, _, true, rfl, fun u r => r, X.one, q _⟩
  refine ifF (decide_eq_false (fun z => c0 (by cases z; rfl))) ⟨_, rfl, rfl, _, rfl, ?_⟩
  by_cases c1 : j = 1
  · refine ifT (decide_eq_true (by rw [c1])) ?_
    refine ⟨_, rfl, _, rfl, k, v, rfl, h0, h10, hB, fun H' => ?_⟩
    refine ⟨true, X.eB, fun _ a ha => ?_, fun z => nomatch z⟩
    exact ⟨_, rfl, cW, rfl, rfl, X.exc, _, _, true, rfl, fun u r => r, X.ve, q _⟩
  refine ifF (decide_eq_false (fun z => c1 (by cases z; rfl))) ?_
  refine ⟨_, rfl, _, rfl, k, v, rfl, h0, h10, hB, fun H' => ?_⟩
  exact ⟨true, X.eW, fun _ a ha => q _, fun z => nomatch z⟩

/-! ### law -/
theorem kinds_at : ∀ j : Nat, j < 20 → ∃ v : Int, atI [V.int 4, .int 0, .int 1, .int 2, .int 3, .int 4, .int 5, .int 6, .int 7, .int 8, .int 9, .int 10, .int 11, .int 12, .int 13, .int 14, .int 15, .int 4, .int 16, .int 17] (j : Int) = some (.int v) ∧ 0 ≤ v ∧ v ≤ 17 := by
  intro j hj
  have hl : ∀ x ∈ [V.int 4, .int 0, .int 1, .int 2, .int 3, .int 4, .int 5, .int 6, .int 7, .int 8, .int 9, .int 10, .int 11, .int 12, .int 13, .int 14, .int 15, .int 4, .int 16, .int 17], ∃ v : Int, x = .int v ∧ 0 ≤ v ∧ v ≤ 17 := by
    intro x hx
    simp only [List.mem_cons, List.not_mem_nil, or_false] at hx
    rcases hx with h | h | h | h | h | h | h | h | h | h | h | h | h | h | h | h | h | h | h | h <;> exact ⟨_, h, by decide, by decide⟩
  have hg : [V.int 4, .int 0, .int 1, .int 2, .int 3, .int 4, .int 5, .int 6, .int 7, .int 8, .int 9, .int 10, .int 11, .int 12, .int 13, .int 14, .int 15, .int 4, .int 16, .int 17][j]? = some ([V.int 4, .int 0, .int 1, .int 2, .int 3, .int 4, .int 5, .int 6, .int 7, .int 8, .int 9, .int 10, .int 11, .int 12, .int 13, .int 14, .int 15, .int 4, .int 16, .int 17][j]'hj) := List.getElem?_eq_getElem _
  obtain ⟨v, hv, h0, h1⟩ := hl _ (List.mem_of_getElem? hg)
  rw [hv] at hg
  exact ⟨v, atI_nat hg, h0, h1⟩
theorem sc_law : FnScope ["_law_script", "_law_many", "_law_wishes", "_law_handed", "_law_kind", "_law_guest", "_law_which", "_law_spoilt_here", "_law_row"] ["_law_script"] (defScope s_law) := ⟨rfl, rfl, rfl, by decide +kernel, rfl, by decide +kernel, by decide +kernel⟩
def sp_law (K : PySem.W.Frag) : Sp := fun vs H Q _ => ∃ (a : Addr) (ns : List Int), vs = [.ref a] ∧ SqL K H a (ns.map V.int) ∧ ns.length ≤ 63 ∧ ∀ H', Q (.bl true) H'
theorem ok_law {cW : Addr} {f : Addr} {fd : FuncData} (F : Fun K "law" "law" s_law f fd) (T : Own mg) (M : ∃ t, mg "MOST_GUESTS" = some (.int 6 t)) (C1 : Cal P w K mg base 1 "_law_cell_at" ["_law_script", "_law_k"] (sp_cell_at K))
    (C2 : Cal P w K mg base 2 "_law_wishes_by" ["_law_script", "_law_many"] (sp_wishes_by K))
    (C3 : CalX P w K mg base 3 "need_wishes" ["wishes"] (sp_need_wishesX K cW))
    (C4 : Cal P w K mg base 1 "_law_spoilt" ["_law_wishes", "_law_kind", "_law_guest", "_law_place"] (sp_spoilt K))
    (C5 : Cal P w K mg base 9 "_law_refused" ["_law_which", "_law_wishes", "_law_kind"] (sp_refused K)) : FnOk P w K mg base CX0 10 f fd ["_law_script"] (sp_law K) := by
  obtain ⟨g1, gd1, G1, m1, k1, b1⟩ := C1
  obtain ⟨g2, gd2, G2, m2, k2, b2⟩ := C2
  obtain ⟨g3, gd3, G3, m3, k3, b3⟩ := C3
  obtain ⟨g4, gd4, G4, m4, k4, b4⟩ := C4
  obtain ⟨g5, gd5, G5, m5, k5, b5⟩ := C5
  obtain ⟨tt, mM⟩ := M
  refine F.ok sc_law (fun vs H Q E h => ?_) (fun cdv A outer s H vs Q E hr h => ?_)
  · obtain ⟨a, ns, rfl, _⟩ := h
    rfl
  obtain ⟨a, ns, rfl, hS, hlen, q⟩ := h
  have hr1 : Room 1 _ := hr.mono (by decide)
  have hr2 : Room 2 _ := hr.mono (by decide)
  have hr3 : Room 3 _ := hr.mono (by decide)
  have hu := hr.units
  refine ⟨_, pss_cons (ps_set (i := 1) sc_law.nd rfl (Or.inl rfl) (pe_op op_add pe_int (pe_op op_mod (pe_call G1 hr1 (by rfl) m1 k1 b1 .nil pass0 (pa_cons (pv 0) (pa_cons pe_int pa_nil))) pe_int)))
    (pss_cons (ps_set (i := 2) sc_law.nd rfl (Or.inl rfl) (pe_call G2 hr2 (by rfl) m2 k2 b2 .nil pass0 (pa_cons (pv 0) (pa_cons (pv 1) pa_nil))))
    (pss_cons (ps_if (pt_cmpR op_eq (pe_op op_mod (pe_op op_fdiv (pe_call G1 hr1 (by rfl) m1 k1 b1 .nil pass0 (pa_cons (pv 0) (pa_cons pe_int pa_nil))) pe_int) pe_int) pe_int (nomark _))
      (pss_cons (ps_setLc (i := 3) (own := [("_law_row", 8)]) (g := gName 8) (tt := tYes) rfl sc_law.nd rfl rfl (sw_true rfl rfl rfl (by decide +kernel)) (pi_list (pv 2))
        (blkOk_by (N := ["_law_script", "_law_many", "_law_wishes", "_law_handed", "_law_kind", "_law_guest", "_law_which", "_law_spoilt_here", "_law_row"]) (sc := defScope s_law) (by decide +kernel))
        (fun _ _ _ _ _ => pg_name (i := 8) sc_law.nd rfl (Or.inl rfl)) (fun _ _ _ _ _ => pts_nil) (fun _ _ _ _ _ => pe_callTy (T := "list") (call_lof (K := K) rfl) (by rfl) T.list (by decide +kernel) (pa_cons (pv 8) pa_nil)))
      (pss_one (ps_ret (pe_and (pe_cmpR op_eq (pe_glob (v := .int 6) rfl mM ⟨_, rfl⟩) pe_int (nomark _)) (pe_and (pe_cmpR op_isN (pe_call G3 hr3 (by rfl) m3 k3 b3 .nil passL (pa_cons (pv 3) pa_nil)) pe_non (nomark _)) (pe_one (pe_cmpR (op_eqD hu) (pv 3) (pv 2) (nomark _)))))))) pss_nil)
    (pss_cons (ps_set (i := 4) sc_law.nd rfl (Or.inl rfl) (pe_ix ix_list (pe_lst (pa_cons pe_int (pa_cons pe_int (pa_cons pe_int (pa_cons pe_int (pa_cons pe_int (pa_cons pe_int (pa_cons pe_int (pa_cons pe_int (pa_cons pe_int (pa_cons pe_int (pa_cons pe_int (pa_cons pe_int (pa_cons pe_int (pa_cons pe_int (pa_cons pe_int (pa_cons pe_int (pa_cons pe_int (pa_cons pe_int (pa_cons pe_int (pa_cons pe_int pa_nil)))))))))))))))))))))
        (pe_op op_mod (pe_call G1 hr1 (by rfl) m1 k1 b1 .nil pass0 (pa_cons (pv 0) (pa_cons pe_int pa_nil))) pe_int) (fun _ _ => rfl)))
    (pss_cons (ps_set (i := 5) sc_law.nd rfl (Or.inl rfl) (pe_op op_mod (pe_op op_fdiv (pe_call G1 hr1 (by rfl) m1 k1 b1 .nil pass0 (pa_cons (pv 0) (pa_cons pe_int pa_nil))) pe_int) (pv 1)))
    (pss_cons (ps_set (i := 6) sc_law.nd rfl (Or.inl rfl) (pe_op op_mod (pe_op op_fdiv (pe_call G1 hr1 (by rfl) m1 k1 b1 .nil pass0 (pa_cons (pv 0) (pa_cons pe_int pa_nil))) pe_int) pe_int))
    (pss_cons (ps_set (i := 7) sc_law.nd rfl (Or.inl rfl) (pe_call G4 hr1 (by rfl) m4 k4 b4 .nil pass0 (pa_cons (pv 2) (pa_cons (pv 4) (pa_cons (pv 5) (pa_cons (pe_op op_fdiv (pe_call G1 hr1 (by rfl) m1 k1 b1 .nil pass0 (pa_cons (pv 0) (pa_cons pe_int pa_nil))) pe_int) pa_nil))))))
    (pss_one (ps_ret (pe_call G5 hr (by rfl) m5 k5 b5 .nil pass0 (pa_cons (pv 6) (pa_cons (pv 7) (pa_cons (pe_op op_mod (pe_op op_fdiv (pe_call G1 hr1 (by rfl) m1 k1 b1 .nil pass0 (pa_cons (pv 0) (pa_cons pe_int pa_nil))) pe_int) pe_int) pa_nil))))))))))))
    , ?_⟩
  refine ⟨_, rfl, a, ns, 0, rfl, hS, by decide, fun c => ?_⟩
  refine ⟨_, _, rfl, rfl, (by show (0 : Int) < 6; decide), _, _, rfl, rfl, ?_⟩
  obtain ⟨n, hn⟩ : ∃ n : Nat, 1 + c % 6 = (n : Int) := ⟨(1 + c % 6).toNat, by omega⟩
  refine ⟨_, rfl, _, rfl, a, ns, n, (by show [V.ref a, V.int (1 + c % 6)] = _; rw [hn]), hS, by omega, by omega, fun H1 p ws hp hB hG hl => ?_⟩
  have e1 := hB.1
  have hT := hB.tab (K := K) |>.t
  refine ⟨_, rfl, a, ns, 0, rfl, e1.seq hS, by decide, fun c0 => ?_⟩
  refine ⟨_, _, rfl, rfl, ⟨by decide, by decide⟩, _, _, rfl, rfl, (by show (0 : Int) < 4; decide), rfl, _, rfl, ?_⟩
  refine ite2 (fun cc => ?_) (fun cc => ?_)
  · obtain ⟨as, t1, t2, t3⟩ := id hT
    refine ⟨_, rfl, p, rfl, ⟨_, t1⟩, fun D hD => ?_⟩
    refine lc_list (K := K) (a := p) (xs := as.map V.ref) (fun i H' => Built H1 D ((ws.take i).map fun r => r.map V.int) H')
      (built_start hD) (fun i H' _ h => h.1.seq t1) ?_ ?_
    · intro i x H2 hx hB2
      obtain ⟨b, hb, rfl⟩ := map_ref_get hx
      have hi : i < ws.length := by rw [← t2]; exact (List.getElem?_eq_some_iff.mp hb).1
      obtain ⟨b', hb', hs⟩ := t3 i ws[i] (List.getElem?_eq_getElem hi)
      rw [hb] at hb'
      cases hb'
      refine ⟨rfl, ?_⟩
      refine ⟨_, rfl, b, _, rfl, .inl (hB2.1.seq hs), fun l hl' => ?_⟩
      obtain ⟨acc, z1, z2, z3⟩ := built_step hD hB2 (same_new hl' _) hl' upd_same
      refine ⟨acc, z1, ?_, ?_⟩
      · rw [z2, List.length_map, List.length_take]
        have := hG.hi
        exact small1000 (by omega)
      · rw [take_one (List.getElem?_eq_getElem hi), List.map_append]
        exact z3
    intro H2 hB2
    rw [List.take_of_length_le (by rw [List.length_map, t2]; exact Nat.le_refl _)] at hB2
    have hD2 : Tab K H2 D ws := hB2.tab.t
    have hP2 := hT.same hB2.1
    refine ⟨rfl, _, rfl, ?_⟩
    refine ifT (decide_eq_true rfl) ?_
    refine ⟨_, rfl, _, rfl, .inl ⟨D, ws, rfl, hD2, hG, fun H3 e3 => ⟨rfl, _, rfl, ?_⟩⟩⟩
    refine ifT (decide_eq_true rfl) ?_
    refine ⟨_, rfl, _, rfl, _, _, (hD2.same e3).dp, (hP2.same e3).dp, dLL_shaped _, dLL_shaped _, ?_⟩
    rw [dLL_refl]
    exact q _
  refine ⟨(by show 20 ≤ sizeLine; decide), fun dl hdl => ?_⟩
  have e2 := e1.trans (same_new hdl (.lst [V.int 4, .int 0, .int 1, .int 2, .int 3, .int 4, .int 5, .int 6, .int 7, .int 8, .int 9, .int 10, .int 11, .int 12, .int 13, .int 14, .int 15, .int 4, .int 16, .int 17]))
  refine ⟨_, rfl, a, ns, 2, rfl, e2.seq hS, by decide, fun c1 => ?_⟩
  have k0 := Int.emod_nonneg c1 (show (20 : Int) ≠ 0 by decide)
  have k1 := Int.emod_lt_of_pos c1 (show (0 : Int) < 20 by decide)
  obtain ⟨v, hv, v0, v17⟩ := kinds_at (c1 % 20).toNat (by omega)
  have ek : (((c1 % 20).toNat : Nat) : Int) = c1 % 20 := by omega
  rw [ek] at hv
  refine ⟨_, _, rfl, rfl, (by show (0 : Int) < 20; decide), dl, _, _, _, rfl, rfl, SqL.of upd_same, hv, ?_⟩
  refine ⟨_, rfl, a, ns, 2, rfl, e2.seq hS, by decide, fun c2 => ?_⟩
  have hm0 : (0 : Int) < 1 + c % 6 := by omega
  refine ⟨_, _, rfl, rfl, ⟨by decide, by decide⟩, _, rfl, _, _, rfl, rfl, hm0, ?_⟩
  refine ⟨_, rfl, a, ns, 0, rfl, e2.seq hS, by decide, fun c3 => ?_⟩
  refine ⟨_, _, rfl, rfl, ⟨by decide, by decide⟩, _, _, rfl, rfl, (by show (0 : Int) < 11; decide), ?_⟩
  refine ⟨_, rfl, _, rfl, _, rfl, _, rfl, a, ns, 1, rfl, e2.seq hS, by decide, fun c4 => ?_⟩
  have g0 := Int.emod_nonneg (c2 / 20) (show 1 + c % 6 ≠ 0 by omega)
  have g1 : c2 / 20 % (1 + c % 6) < (ws.length : Int) := by
    rw [hl, ← hn]
    exact Int.emod_lt_of_pos (c2 / 20) hm0
  refine ⟨_, _, rfl, rfl, ⟨by decide, by decide⟩, ?_⟩
  refine ⟨H, p, ws, v, _, _, rfl, hp, hB.on (same_new hdl _), hG, g0, g1, v0, v17, fun H5 u e5 hbad => ?_⟩
  refine ⟨_, rfl, _, rfl, _, rfl, a, ns, 0, rfl, e5.seq hS, by decide, fun c5 => ?_⟩
  refine ⟨_, _, rfl, rfl, ⟨by decide, by decide⟩, _, _, rfl, rfl, (by show (0 : Int) < 3; decide), ?_⟩
  exact ⟨_, _, u, rfl, Int.emod_nonneg _ (by decide), by have := Int.emod_lt_of_pos (c3 / 24) (show (0 : Int) < 11 by decide); omega, hbad, q⟩
end
end B2

namespace B2
open PySem L2
section
variable {P : Program} {w : World} {K : PySem.W.Frag} {mg : Str → Option Value} {base : Heap}
theorem sc_holds : FnScope ["wishes", "after"] ["wishes", "after"] (defScope s_holds) := ⟨rfl, rfl, rfl, by decide +kernel, rfl, by decide +kernel, by decide +kernel⟩
theorem ok_holdsB {C : Addr} {f : Addr} {fd : FuncData} (F : Fun K "holds" "holds" s_holds f fd) (C1 : CalX P w K mg base 3 "need_wishes" ["wishes"] (sp_need_wishesX K C)) : FnOk P w K mg base (L2.CX P w) 6 f fd ["wishes", "after"] (sp_bad K C 2) := by
  obtain ⟨g1, gd1, G1, m1, k1, b1⟩ := C1
  refine F.okX sc_holds (fun vs H Q E h => h.1) (fun cdv A outer s H vs Q E hr h => ?_)
  obtain ⟨hl, v, r, rfl, hB, q⟩ := h
  exact ⟨_, pss_cons (ps_expr (pe_call G1 (hr.mono (by decide)) (by rfl) m1 k1 b1 .nil (passes_call (takes_of rfl rfl rfl rfl) fun _ _ _ _ h => h) (pa_cons (pv 0) pa_nil))) pss_no, v, rfl, v, rfl, .inr ⟨hB, q⟩⟩
theorem sc_shown : FnScope ["wishes", "rows", "guest", "row"] ["wishes"] (defScope s_shown) := ⟨rfl, rfl, rfl, by decide +kernel, rfl, by decide +kernel, by decide +kernel⟩
theorem ok_shownB {C : Addr} {f : Addr} {fd : FuncData} (F : Fun K "shown" "shown" s_shown f fd) (C1 : CalX P w K mg base 3 "need_wishes" ["wishes"] (sp_need_wishesX K C)) : FnOk P w K mg base (L2.CX P w) 6 f fd ["wishes"] (sp_bad K C 1) := by
  obtain ⟨g1, gd1, G1, m1, k1, b1⟩ := C1
  refine F.okX sc_shown (fun vs H Q E h => h.1) (fun cdv A outer s H vs Q E hr h => ?_)
  obtain ⟨hl, v, r, rfl, hB, q⟩ := h
  exact ⟨_, pss_cons (ps_expr (pe_call G1 (hr.mono (by decide)) (by rfl) m1 k1 b1 .nil (passes_call (takes_of rfl rfl rfl rfl) fun _ _ _ _ h => h) (pa_cons (pv 0) pa_nil))) pss_no, v, rfl, v, rfl, .inr ⟨hB, q⟩⟩
theorem sc_dealt : FnScope ["wishes", "found"] ["wishes"] (defScope s_dealt) := ⟨rfl, rfl, rfl, by decide +kernel, rfl, by decide +kernel, by decide +kernel⟩
theorem ok_dealtB {C : Addr} {f : Addr} {fd : FuncData} (F : Fun K "dealt" "dealt" s_dealt f fd) (C1 : CalX P w K mg base 5 "all_calm" ["wishes"] (sp_bad K C 1)) : FnOk P w K mg base (L2.CX P w) 6 f fd ["wishes"] (sp_bad K C 1) := by
  obtain ⟨g1, gd1, G1, m1, k1, b1⟩ := C1
  refine F.okX sc_dealt (fun vs H Q E h => h.1) (fun cdv A outer s H vs Q E hr h => ?_)
  obtain ⟨hl, v, r, rfl, hB, q⟩ := h
  match r, hl with
  | [], _ =>
    exact ⟨_, pss_cons (ps_set (i := 1) sc_dealt.nd rfl (Or.inl rfl) (pe_call G1 (hr.mono (by decide)) (by rfl) m1 k1 b1 .nil (passes_call (takes_of rfl rfl rfl rfl) fun _ _ _ _ h => h) (pa_cons (pv 0) pa_nil))) pss_no, v, rfl, rfl, v, [], rfl, hB, q⟩
theorem sc_inn_init : FnScope ["self", "wishes", "row"] ["self", "wishes"] (defScope s_inn_init) := ⟨rfl, rfl, rfl, by decide +kernel, rfl, by decide +kernel, by decide +kernel⟩
theorem ok_innB {C : Addr} {f : Addr} {fd : FuncData} (F : Fun K "__init__" "Inn.__init__" s_inn_init f fd) (C1 : CalX P w K mg base 3 "need_wishes" ["wishes"] (sp_need_wishesX K C)) : FnOk P w K mg base (L2.CX P w) 6 f fd ["self", "wishes"] (sp_innB K C) := by
  obtain ⟨g1, gd1, G1, m1, k1, b1⟩ := C1
  refine F.okX sc_inn_init (fun vs H Q E h => ?_) (fun cdv A outer s H vs Q E hr h => ?_)
  · obtain ⟨x, v, rfl, _⟩ := h
    rfl
  obtain ⟨x, v, rfl, hB, q⟩ := h
  exact ⟨_, pss_cons (ps_expr (pe_call G1 (hr.mono (by decide)) (by rfl) m1 k1 b1 .nil (passes_call (takes_of rfl rfl rfl rfl) fun _ _ _ _ h => h) (pa_cons (pv 1) pa_nil))) pss_no, v, rfl, v, rfl, .inr ⟨hB, q⟩⟩
end
end B2

namespace B2
open PySem L2
theorem all_mk {l : PySem.W.OpenLaw} {w : World} {K : PySem.W.Frag} {h : Heap} {mg : Str → Option Value} {fa : Addr} (X : K.In h) (G : h.Ns mainGlobals mg) (hfa : mg "law" = some (.ref fa))
    {f1 f2 f3 f4 f5 f6 f7 f8 f9 f10 f11 f12 f13 f14 f15 f16 f17 f18 f19 : Addr} {od1 an1 od2 an2 od3 an3 od4 an4 od5 an5 od6 an6 od7 an7 od8 an8 od9 an9 od10 an10 od11 an11 od12 an12 od13 an13 od14 an14 od15 an15 od16 an16 od17 an17 od18 an18 od19 an19 : Option Addr} {sl1 sl2 sl3 sl4 sl5 sl6 sl7 sl8 sl9 sl10 sl11 sl12 sl13 sl14 sl15 sl16 sl17 sl18 sl19 : Array (Option Value)} {oc1 kV1 dc1 pm1 cd1 ct1 oc2 kV2 dc2 pm2 cd2 ct2 oc3 kV3 dc3 pm3 cd3 ct3 oc4 kV4 dc4 pm4 cd4 ct4 oc5 kV5 dc5 pm5 cd5 ct5 oc6 kV6 dc6 pm6 cd6 ct6 oc7 kV7 dc7 pm7 cd7 ct7 oc8 kV8 dc8 pm8 cd8 ct8 oc9 kV9 dc9 pm9 cd9 ct9 oc10 kV10 dc10 pm10 cd10 ct10 oc11 kV11 dc11 pm11 cd11 ct11 oc12 kV12 dc12 pm12 cd12 ct12 oc13 kV13 dc13 pm13 cd13 ct13 oc14 kV14 dc14 pm14 cd14 ct14 oc15 kV15 dc15 pm15 cd15 ct15 oc16 kV16 dc16 pm16 cd16 ct16 oc17 kV17 dc17 pm17 cd17 ct17 oc18 kV18 dc18 pm18 cd18 ct18 oc19 kV19 dc19 pm19 cd19 ct19 : Value}
    (a1 : PySem.W.nsIn K mainGlobals "is_guest" = some (some (.ref f1))) (l1 : K.lookup f1 = some ⟨oc1, od1, .func (PySem.W.fnOf "is_guest" "is_guest" (defArgs s_is_guest) (defBody s_is_guest) (defScope s_is_guest) .none kV1 dc1 pm1 an1 cd1 ct1), sl1⟩) (c1 : PySem.W.codeIn K cd1 "is_guest" = true) (k1 : PySem.W.keepIn K (.ref f1) = true)
    (a2 : PySem.W.nsIn K mainGlobals "need_row" = some (some (.ref f2))) (l2 : K.lookup f2 = some ⟨oc2, od2, .func (PySem.W.fnOf "need_row" "need_row" (defArgs s_need_row) (defBody s_need_row) (defScope s_need_row) .none kV2 dc2 pm2 an2 cd2 ct2), sl2⟩) (c2 : PySem.W.codeIn K cd2 "need_row" = true) (k2 : PySem.W.keepIn K (.ref f2) = true)
    (a3 : PySem.W.nsIn K mainGlobals "need_wishes" = some (some (.ref f3))) (l3 : K.lookup f3 = some ⟨oc3, od3, .func (PySem.W.fnOf "need_wishes" "need_wishes" (defArgs s_need_wishes) (defBody s_need_wishes) (defScope s_need_wishes) .none kV3 dc3 pm3 an3 cd3 ct3), sl3⟩) (c3 : PySem.W.codeIn K cd3 "need_wishes" = true) (k3 : PySem.W.keepIn K (.ref f3) = true)
    (a4 : PySem.W.nsIn K mainGlobals "suits" = some (some (.ref f4))) (l4 : K.lookup f4 = some ⟨oc4, od4, .func (PySem.W.fnOf "suits" "suits" (defArgs s_suits) (defBody s_suits) (defScope s_suits) .none kV4 dc4 pm4 an4 cd4 ct4), sl4⟩) (c4 : PySem.W.codeIn K cd4 "suits" = true) (k4 : PySem.W.keepIn K (.ref f4) = true)
    (a5 : PySem.W.nsIn K mainGlobals "rather" = some (some (.ref f5))) (l5 : K.lookup f5 = some ⟨oc5, od5, .func (PySem.W.fnOf "rather" "rather" (defArgs s_rather) (defBody s_rather) (defScope s_rather) .none kV5 dc5 pm5 an5 cd5 ct5), sl5⟩) (c5 : PySem.W.codeIn K cd5 "rather" = true) (k5 : PySem.W.keepIn K (.ref f5) = true)
    (a6 : PySem.W.nsIn K mainGlobals "restless" = some (some (.ref f6))) (l6 : K.lookup f6 = some ⟨oc6, od6, .func (PySem.W.fnOf "restless" "restless" (defArgs s_restless) (defBody s_restless) (defScope s_restless) .none kV6 dc6 pm6 an6 cd6 ct6), sl6⟩) (c6 : PySem.W.codeIn K cd6 "restless" = true) (k6 : PySem.W.keepIn K (.ref f6) = true)
    (a7 : PySem.W.nsIn K mainGlobals "calm" = some (some (.ref f7))) (l7 : K.lookup f7 = some ⟨oc7, od7, .func (PySem.W.fnOf "calm" "calm" (defArgs s_calm) (defBody s_calm) (defScope s_calm) .none kV7 dc7 pm7 an7 cd7 ct7), sl7⟩) (c7 : PySem.W.codeIn K cd7 "calm" = true) (k7 : PySem.W.keepIn K (.ref f7) = true)
    (a8 : PySem.W.nsIn K mainGlobals "all_twos" = some (some (.ref f8))) (l8 : K.lookup f8 = some ⟨oc8, od8, .func (PySem.W.fnOf "all_twos" "all_twos" (defArgs s_all_twos) (defBody s_all_twos) (defScope s_all_twos) .none kV8 dc8 pm8 an8 cd8 ct8), sl8⟩) (c8 : PySem.W.codeIn K cd8 "all_twos" = true) (k8 : PySem.W.keepIn K (.ref f8) = true)
    (a9 : PySem.W.nsIn K mainGlobals "all_calm" = some (some (.ref f9))) (l9 : K.lookup f9 = some ⟨oc9, od9, .func (PySem.W.fnOf "all_calm" "all_calm" (defArgs s_all_calm) (defBody s_all_calm) (defScope s_all_calm) .none kV9 dc9 pm9 an9 cd9 ct9), sl9⟩) (c9 : PySem.W.codeIn K cd9 "all_calm" = true) (k9 : PySem.W.keepIn K (.ref f9) = true)
    (a10 : PySem.W.nsIn K mainGlobals "holds" = some (some (.ref f10))) (l10 : K.lookup f10 = some ⟨oc10, od10, .func (PySem.W.fnOf "holds" "holds" (defArgs s_holds) (defBody s_holds) (defScope s_holds) .none kV10 dc10 pm10 an10 cd10 ct10), sl10⟩) (c10 : PySem.W.codeIn K cd10 "holds" = true) (k10 : PySem.W.keepIn K (.ref f10) = true)
    (a11 : PySem.W.nsIn K mainGlobals "dealt" = some (some (.ref f11))) (l11 : K.lookup f11 = some ⟨oc11, od11, .func (PySem.W.fnOf "dealt" "dealt" (defArgs s_dealt) (defBody s_dealt) (defScope s_dealt) .none kV11 dc11 pm11 an11 cd11 ct11), sl11⟩) (c11 : PySem.W.codeIn K cd11 "dealt" = true) (k11 : PySem.W.keepIn K (.ref f11) = true)
    (a12 : PySem.W.nsIn K mainGlobals "shown" = some (some (.ref f12))) (l12 : K.lookup f12 = some ⟨oc12, od12, .func (PySem.W.fnOf "shown" "shown" (defArgs s_shown) (defBody s_shown) (defScope s_shown) .none kV12 dc12 pm12 an12 cd12 ct12), sl12⟩) (c12 : PySem.W.codeIn K cd12 "shown" = true) (k12 : PySem.W.keepIn K (.ref f12) = true)
    (a13 : PySem.W.nsIn K mainGlobals "_law_cell_at" = some (some (.ref f13))) (l13 : K.lookup f13 = some ⟨oc13, od13, .func (PySem.W.fnOf "_law_cell_at" "_law_cell_at" (defArgs s_cell_at) (defBody s_cell_at) (defScope s_cell_at) .none kV13 dc13 pm13 an13 cd13 ct13), sl13⟩) (c13 : PySem.W.codeIn K cd13 "_law_cell_at" = true) (k13 : PySem.W.keepIn K (.ref f13) = true)
    (a14 : PySem.W.nsIn K mainGlobals "_law_row_by" = some (some (.ref f14))) (l14 : K.lookup f14 = some ⟨oc14, od14, .func (PySem.W.fnOf "_law_row_by" "_law_row_by" (defArgs s_row_by) (defBody s_row_by) (defScope s_row_by) .none kV14 dc14 pm14 an14 cd14 ct14), sl14⟩) (c14 : PySem.W.codeIn K cd14 "_law_row_by" = true) (k14 : PySem.W.keepIn K (.ref f14) = true)
    (a15 : PySem.W.nsIn K mainGlobals "_law_wishes_by" = some (some (.ref f15))) (l15 : K.lookup f15 = some ⟨oc15, od15, .func (PySem.W.fnOf "_law_wishes_by" "_law_wishes_by" (defArgs s_wishes_by) (defBody s_wishes_by) (defScope s_wishes_by) .none kV15 dc15 pm15 an15 cd15 ct15), sl15⟩) (c15 : PySem.W.codeIn K cd15 "_law_wishes_by" = true) (k15 : PySem.W.keepIn K (.ref f15) = true)
    (a16 : PySem.W.nsIn K mainGlobals "_law_spoilt" = some (some (.ref f16))) (l16 : K.lookup f16 = some ⟨oc16, od16, .func (PySem.W.fnOf "_law_spoilt" "_law_spoilt" (defArgs s_spoilt) (defBody s_spoilt) (defScope s_spoilt) .none kV16 dc16 pm16 an16 cd16 ct16), sl16⟩) (c16 : PySem.W.codeIn K cd16 "_law_spoilt" = true) (k16 : PySem.W.keepIn K (.ref f16) = true)
    (a17 : PySem.W.nsIn K mainGlobals "_law_asked" = some (some (.ref f17))) (l17 : K.lookup f17 = some ⟨oc17, od17, .func (PySem.W.fnOf "_law_asked" "_law_asked" (defArgs s_asked) (defBody s_asked) (defScope s_asked) .none kV17 dc17 pm17 an17 cd17 ct17), sl17⟩) (c17 : PySem.W.codeIn K cd17 "_law_asked" = true) (k17 : PySem.W.keepIn K (.ref f17) = true)
    (a18 : PySem.W.nsIn K mainGlobals "_law_refused" = some (some (.ref f18))) (l18 : K.lookup f18 = some ⟨oc18, od18, .func (PySem.W.fnOf "_law_refused" "_law_refused" (defArgs s_refused) (defBody s_refused) (defScope s_refused) .none kV18 dc18 pm18 an18 cd18 ct18), sl18⟩) (c18 : PySem.W.codeIn K cd18 "_law_refused" = true) (k18 : PySem.W.keepIn K (.ref f18) = true)
    (a19 : PySem.W.nsIn K mainGlobals "law" = some (some (.ref f19))) (l19 : K.lookup f19 = some ⟨oc19, od19, .func (PySem.W.fnOf "law" "law" (defArgs s_law) (defBody s_law) (defScope s_law) .none kV19 dc19 pm19 an19 cd19 ct19), sl19⟩) (c19 : PySem.W.codeIn K cd19 "law" = true) (k19 : PySem.W.keepIn K (.ref f19) = true)
    (z_len : PySem.W.nsIn K mainGlobals "len" = some none)
    (z_rng : PySem.W.nsIn K mainGlobals "range" = some none)
    (z_isI : PySem.W.nsIn K mainGlobals "isinstance" = some none)
    (z_int : PySem.W.nsIn K mainGlobals "int" = some none)
    (z_bool : PySem.W.nsIn K mainGlobals "bool" = some none)
    (z_list : PySem.W.nsIn K mainGlobals "list" = some none)
    (z_set : PySem.W.nsIn K mainGlobals "set" = some none)
    (z_enm : PySem.W.nsIn K mainGlobals "enumerate" = some none)
    (z_tup : PySem.W.nsIn K mainGlobals "tuple" = some none)
    {t_mg : Tok} (y_mg : PySem.W.nsIn K mainGlobals "MOST_GUESTS" = some (some (.int 6 t_mg)))
    {e_BadWishes : Addr} (g_BadWishes : PySem.W.nsIn K mainGlobals "BadWishes" = some (some (.ref e_BadWishes)))
    {e_BedError : Addr} (g_BedError : PySem.W.nsIn K mainGlobals "BedError" = some (some (.ref e_BedError)))
    {e_BadGuest : Addr} (g_BadGuest : PySem.W.nsIn K mainGlobals "BadGuest" = some (some (.ref e_BadGuest)))
    {e_BadMates : Addr} (g_BadMates : PySem.W.nsIn K mainGlobals "BadMates" = some (some (.ref e_BadMates)))
    {e_BadParties : Addr} (g_BadParties : PySem.W.nsIn K mainGlobals "BadParties" = some (some (.ref e_BadParties)))
    {e_NoNote : Addr} (g_NoNote : PySem.W.nsIn K mainGlobals "NoNote" = some (some (.ref e_NoNote)))
    {e_Inn : Addr} (g_Inn : PySem.W.nsIn K mainGlobals "Inn" = some (some (.ref e_Inn)))
    {fI : Addr} {odI anI : Option Addr} {slI : Array (Option Value)} {ocI kVI dcI pmI cdI ctI : Value}
    (zV : PySem.W.nsIn K mainGlobals "ValueError" = some none)
    (w1 : PySem.W.excIn K e_BadWishes [.type "ValueError", .type "Exception", .type "BaseException", .type "object"] "ValueError.__new__" = true)
    (w2 : PySem.W.keepIn K (.ref e_BadWishes) = true)
    (d_BadWishes : PySem.W.hasDictIn K e_BadWishes = true)
    (t_BadWishes : PySem.W.typeIn K (.ref e_BadWishes) = some (.type "type"))
    (b_BadWishes : PySem.W.subIn K (.ref e_BadWishes) (.type "BaseException") = some true)
    (d_BedError : PySem.W.hasDictIn K e_BedError = true)
    (t_BedError : PySem.W.typeIn K (.ref e_BedError) = some (.type "type"))
    (b_BedError : PySem.W.subIn K (.ref e_BedError) (.type "BaseException") = some true)
    (d_BadGuest : PySem.W.hasDictIn K e_BadGuest = true)
    (t_BadGuest : PySem.W.typeIn K (.ref e_BadGuest) = some (.type "type"))
    (b_BadGuest : PySem.W.subIn K (.ref e_BadGuest) (.type "BaseException") = some true)
    (d_BadMates : PySem.W.hasDictIn K e_BadMates = true)
    (t_BadMates : PySem.W.typeIn K (.ref e_BadMates) = some (.type "type"))
    (b_BadMates : PySem.W.subIn K (.ref e_BadMates) (.type "BaseException") = some true)
    (d_BadParties : PySem.W.hasDictIn K e_BadParties = true)
    (t_BadParties : PySem.W.typeIn K (.ref e_BadParties) = some (.type "type"))
    (b_BadParties : PySem.W.subIn K (.ref e_BadParties) (.type "BaseException") = some true)
    (d_NoNote : PySem.W.hasDictIn K e_NoNote = true)
    (t_NoNote : PySem.W.typeIn K (.ref e_NoNote) = some (.type "type"))
    (b_NoNote : PySem.W.subIn K (.ref e_NoNote) (.type "BaseException") = some true)
    (s_BadWishes : PySem.W.subIn K (.ref e_BadWishes) (.ref e_BadWishes) = some true)
    (s_BedError : PySem.W.subIn K (.ref e_BadWishes) (.ref e_BedError) = some true)
    (s_BadGuest : PySem.W.subIn K (.ref e_BadWishes) (.ref e_BadGuest) = some false)
    (s_BadMates : PySem.W.subIn K (.ref e_BadWishes) (.ref e_BadMates) = some false)
    (s_BadParties : PySem.W.subIn K (.ref e_BadWishes) (.ref e_BadParties) = some false)
    (s_NoNote : PySem.W.subIn K (.ref e_BadWishes) (.ref e_NoNote) = some false)
    (s_VE : PySem.W.subIn K (.ref e_BadWishes) (.type "ValueError") = some true)
    (y1 : PySem.W.findIn K (.ref e_BadWishes) "__getattribute__" = some (some (.builtin "BaseException.__getattribute__")))
    (y2 : PySem.W.findIn K (.ref e_BadWishes) "__getattr__" = some none)
    (y5 : PySem.W.findIn K (.ref e_BadWishes) "__class__" = some (some (.builtin "object.__class__")))
    (y6 : PySem.W.specialIn K (.builtin "object.__class__") "__get__" = some (some (.builtin "getset_descriptor.__get__")))
    (y7 : PySem.W.takesIn K (.builtin "object.__class__") = some true)
    (y8 : PySem.W.mroIn K e_BadWishes (.type "object") = some true)
    (i1 : PySem.W.findIn K (.ref e_Inn) "__init__" = some (some (.ref fI)))
    (i2 : PySem.W.isFn K (.ref fI) = true)
    (i3 : K.lookup fI = some ⟨ocI, odI, .func (PySem.W.fnOf "__init__" "Inn.__init__" (defArgs s_inn_init) (defBody s_inn_init) (defScope s_inn_init) .none kVI dcI pmI anI cdI ctI), slI⟩)
    (i4 : PySem.W.codeIn K cdI "Inn.__init__" = true)
    (i5 : PySem.W.keepIn K (.ref fI) = true)
    (i6 : PySem.W.makesIn K e_Inn = true)
    (i7 : PySem.W.keepIn K (.ref e_Inn) = true)
    :
    ∃ fd : FuncData, (∀ (s : Shared) (v : Value), BindsTo s fd ⟨[v], []⟩ [("_law_script", v)]) ∧ ∀ base : Heap, K.In base → base.Ns mainGlobals mg → FnOk l.prog w K mg base CX0 10 fa fd ["_law_script"] (sp_law K) := by
  have e := hfa.symm.trans (PySem.W.mg_of X G a19)
  cases e
  have T : Own mg := ⟨PySem.W.mg_none_of X G z_len, PySem.W.mg_none_of X G z_rng, PySem.W.mg_none_of X G z_isI, PySem.W.mg_none_of X G z_int, PySem.W.mg_none_of X G z_bool, PySem.W.mg_none_of X G z_list, PySem.W.mg_none_of X G z_set, PySem.W.mg_none_of X G z_enm, PySem.W.mg_none_of X G z_tup⟩
  have W : ErrC K mg "BadWishes" e_BadWishes := ⟨PySem.W.mg_of X G g_BadWishes, w1, w2, b_BadWishes, t_BadWishes⟩
  have EX : Errs K mg e_BadWishes e_BedError e_BadGuest e_BadMates e_BadParties e_NoNote := ⟨PySem.W.mg_of X G g_BadWishes, PySem.W.mg_of X G g_BedError, PySem.W.mg_of X G g_BadGuest, PySem.W.mg_of X G g_BadMates, PySem.W.mg_of X G g_BadParties, PySem.W.mg_of X G g_NoNote, PySem.W.mg_none_of X G zV, exm_own ⟨d_BedError, t_BedError, b_BedError⟩ s_BedError, exm_own ⟨d_BadWishes, t_BadWishes, b_BadWishes⟩ s_BadWishes, any_no (kit_own ⟨d_BadGuest, t_BadGuest, b_BadGuest⟩ s_BadGuest s_BadWishes) (any_no (kit_own ⟨d_BadMates, t_BadMates, b_BadMates⟩ s_BadMates s_BadWishes) (any_no (kit_own ⟨d_BadParties, t_BadParties, b_BadParties⟩ s_BadParties s_BadWishes) (any_no (kit_own ⟨d_NoNote, t_NoNote, b_NoNote⟩ s_NoNote s_BadWishes) rfl))), kit_own ⟨d_BadWishes, t_BadWishes, b_BadWishes⟩ s_BadWishes s_BadWishes, kit_val s_VE, ⟨y1, y2, b_BadWishes, d_BadWishes, y5, y6, y7, y8⟩⟩
  have MI : Mk K e_Inn fI := ⟨i6, i1, i2, i7⟩
  have FI := fun_mk (st := s_inn_init) i3 i4 i5
  have bI := FI.binds (ps := ["self", "wishes"]) fun _ _ _ _ _ _ us hl => match us, hl with | [_, _], _ => rfl
  have F1 := fun_mk (st := s_is_guest) l1 c1 k1
  have b1 := F1.binds (ps := ["number", "many"]) fun _ _ _ _ _ _ us hl => match us, hl with | [_, _], _ => rfl
  have F2 := fun_mk (st := s_need_row) l2 c2 k2
  have b2 := F2.binds (ps := ["row", "guest", "many"]) fun _ _ _ _ _ _ us hl => match us, hl with | [_, _, _], _ => rfl
  have F3 := fun_mk (st := s_need_wishes) l3 c3 k3
  have b3 := F3.binds (ps := ["wishes"]) fun _ _ _ _ _ _ us hl => match us, hl with | [_], _ => rfl
  have F4 := fun_mk (st := s_suits) l4 c4 k4
  have b4 := F4.binds (ps := ["wishes", "one", "other"]) fun _ _ _ _ _ _ us hl => match us, hl with | [_, _, _], _ => rfl
  have F5 := fun_mk (st := s_rather) l5 c5 k5
  have b5 := F5.binds (ps := ["wishes", "guest", "one", "other"]) fun _ _ _ _ _ _ us hl => match us, hl with | [_, _, _, _], _ => rfl
  have F6 := fun_mk (st := s_restless) l6 c6 k6
  have b6 := F6.binds (ps := ["wishes", "mates"]) fun _ _ _ _ _ _ us hl => match us, hl with | [_, _], _ => rfl
  have F7 := fun_mk (st := s_calm) l7 c7 k7
  have b7 := F7.binds (ps := ["wishes", "mates"]) fun _ _ _ _ _ _ us hl => match us, hl with | [_, _], _ => rfl
  have F8 := fun_mk (st := s_all_twos) l8 c8 k8
  have b8 := F8.binds (ps := ["wishes"]) fun _ _ _ _ _ _ us hl => match us, hl with | [_], _ => rfl
  have F9 := fun_mk (st := s_all_calm) l9 c9 k9
  have b9 := F9.binds (ps := ["wishes"]) fun _ _ _ _ _ _ us hl => match us, hl with | [_], _ => rfl
  have F10 := fun_mk (st := s_holds) l10 c10 k10
  have b10 := F10.binds (ps := ["wishes", "after"]) fun _ _ _ _ _ _ us hl => match us, hl with | [_, _], _ => rfl
  have F11 := fun_mk (st := s_dealt) l11 c11 k11
  have b11 := F11.binds (ps := ["wishes"]) fun _ _ _ _ _ _ us hl => match us, hl with | [_], _ => rfl
  have F12 := fun_mk (st := s_shown) l12 c12 k12
  have b12 := F12.binds (ps := ["wishes"]) fun _ _ _ _ _ _ us hl => match us, hl with | [_], _ => rfl
  have F13 := fun_mk (st := s_cell_at) l13 c13 k13
  have b13 := F13.binds (ps := ["_law_script", "_law_k"]) fun _ _ _ _ _ _ us hl => match us, hl with | [_, _], _ => rfl
  have F14 := fun_mk (st := s_row_by) l14 c14 k14
  have b14 := F14.binds (ps := ["_law_cell", "_law_guest", "_law_many", "_law_full"]) fun _ _ _ _ _ _ us hl => match us, hl with | [_, _, _, _], _ => rfl
  have F15 := fun_mk (st := s_wishes_by) l15 c15 k15
  have b15 := F15.binds (ps := ["_law_script", "_law_many"]) fun _ _ _ _ _ _ us hl => match us, hl with | [_, _], _ => rfl
  have F16 := fun_mk (st := s_spoilt) l16 c16 k16
  have b16 := F16.binds (ps := ["_law_wishes", "_law_kind", "_law_guest", "_law_place"]) fun _ _ _ _ _ _ us hl => match us, hl with | [_, _, _, _], _ => rfl
  have F17 := fun_mk (st := s_asked) l17 c17 k17
  have b17 := F17.binds (ps := ["_law_which", "_law_wishes"]) fun _ _ _ _ _ _ us hl => match us, hl with | [_, _], _ => rfl
  have F18 := fun_mk (st := s_refused) l18 c18 k18
  have b18 := F18.binds (ps := ["_law_which", "_law_wishes", "_law_kind"]) fun _ _ _ _ _ _ us hl => match us, hl with | [_, _, _], _ => rfl
  have F19 := fun_mk (st := s_law) l19 c19 k19
  refine ⟨PySem.W.fnOf "law" "law" (defArgs s_law) (defBody s_law) (defScope s_law) .none kV19 dc19 pm19 an19 cd19 ct19, fun s v => .of_eq rfl, fun base _ _ => ?_⟩
  have C1 : Cal l.prog w K mg base 1 "is_guest" ["number", "many"] (sp_is_guestX K) := ⟨⟨_, _, ok_is_guestX F1 T, PySem.W.mg_of X G a1, k1, b1⟩⟩
  have C2 : CalX l.prog w K mg base 2 "need_row" ["row", "guest", "many"] (sp_need_rowX K e_BadWishes) := ⟨⟨_, _, ok_need_rowX F2 T W C1, PySem.W.mg_of X G a2, k2, b2⟩⟩
  have C3 : CalX l.prog w K mg base 3 "need_wishes" ["wishes"] (sp_need_wishesX K e_BadWishes) := ⟨⟨_, _, ok_need_wishesX F3 T ⟨_, PySem.W.mg_of X G y_mg⟩ W C2, PySem.W.mg_of X G a3, k3, b3⟩⟩
  have C4 : CalX l.prog w K mg base 4 "suits" ["wishes", "one", "other"] (sp_bad K e_BadWishes 3) := ⟨⟨_, _, ok_suitsB F4 C3, PySem.W.mg_of X G a4, k4, b4⟩⟩
  have C5 : CalX l.prog w K mg base 4 "rather" ["wishes", "guest", "one", "other"] (sp_bad K e_BadWishes 4) := ⟨⟨_, _, ok_ratherB F5 C3, PySem.W.mg_of X G a5, k5, b5⟩⟩
  have C6 : CalX l.prog w K mg base 4 "restless" ["wishes", "mates"] (sp_bad K e_BadWishes 2) := ⟨⟨_, _, ok_restlessB F6 C3, PySem.W.mg_of X G a6, k6, b6⟩⟩
  have C7 : CalX l.prog w K mg base 5 "calm" ["wishes", "mates"] (sp_bad K e_BadWishes 2) := ⟨⟨_, _, ok_calmB F7 C6, PySem.W.mg_of X G a7, k7, b7⟩⟩
  have C8 : CalX l.prog w K mg base 4 "all_twos" ["wishes"] (sp_bad K e_BadWishes 1) := ⟨⟨_, _, ok_all_twosB F8 C3, PySem.W.mg_of X G a8, k8, b8⟩⟩
  have C9 : CalX l.prog w K mg base 5 "all_calm" ["wishes"] (sp_bad K e_BadWishes 1) := ⟨⟨_, _, ok_all_calmB F9 C8, PySem.W.mg_of X G a9, k9, b9⟩⟩
  have C10 : CalX l.prog w K mg base 6 "holds" ["wishes", "after"] (sp_bad K e_BadWishes 2) := ⟨⟨_, _, ok_holdsB F10 C3, PySem.W.mg_of X G a10, k10, b10⟩⟩
  have C11 : CalX l.prog w K mg base 6 "dealt" ["wishes"] (sp_bad K e_BadWishes 1) := ⟨⟨_, _, ok_dealtB F11 C9, PySem.W.mg_of X G a11, k11, b11⟩⟩
  have C12 : CalX l.prog w K mg base 6 "shown" ["wishes"] (sp_bad K e_BadWishes 1) := ⟨⟨_, _, ok_shownB F12 C3, PySem.W.mg_of X G a12, k12, b12⟩⟩
  have C13 : Cal l.prog w K mg base 1 "_law_cell_at" ["_law_script", "_law_k"] (sp_cell_at K) := ⟨⟨_, _, ok_cell_at F13 T, PySem.W.mg_of X G a13, k13, b13⟩⟩
  have C14 : Cal l.prog w K mg base 1 "_law_row_by" ["_law_cell", "_law_guest", "_law_many", "_law_full"] sp_row_by := ⟨⟨_, _, ok_row_by F14 T, PySem.W.mg_of X G a14, k14, b14⟩⟩
  have C15 : Cal l.prog w K mg base 2 "_law_wishes_by" ["_law_script", "_law_many"] (sp_wishes_by K) := ⟨⟨_, _, ok_wishes_by F15 T C13 C14, PySem.W.mg_of X G a15, k15, b15⟩⟩
  have C16 : Cal l.prog w K mg base 1 "_law_spoilt" ["_law_wishes", "_law_kind", "_law_guest", "_law_place"] (sp_spoilt K) := ⟨⟨_, _, ok_spoilt F16 T, PySem.W.mg_of X G a16, k16, b16⟩⟩
  have GI := ok_innB (P := l.prog) (w := w) (base := base) FI C3
  have C17 : CalX l.prog w K mg base 8 "_law_asked" ["_law_which", "_law_wishes"] (sp_asked K e_BadWishes) := ⟨⟨_, _, ok_asked F17 C3 C4 C5 C6 C7 C8 C9 C10 C11 C12 MI (PySem.W.mg_of X G g_Inn) bI GI, PySem.W.mg_of X G a17, k17, b17⟩⟩
  have C18 : Cal l.prog w K mg base 9 "_law_refused" ["_law_which", "_law_wishes", "_law_kind"] (sp_refused K) := ⟨⟨_, _, ok_refused F18 T EX C17, PySem.W.mg_of X G a18, k18, b18⟩⟩
  exact ok_law F19 T ⟨_, PySem.W.mg_of X G y_mg⟩ C13 C15 C3 C16 C18
theorem walk {l : PySem.W.OpenLaw} {q : Program} {loose : List Str} {XP : (Str → Option Value) → Heap → Prop} {YP : World → Heap → Prop} {d : DefRec} {K : Params → PySem.W.Frag} (hn : l.most = some 63) (hdf : d.params.defaults = [])
    (hY : ∀ (w : World) (h : Heap), YP w h → (K w.params).In h)
    (F : ∀ (w : World) (mg : Str → Option Value) (fa : Addr) (h : Heap), (K w.params).In h → h.Ns mainGlobals mg → mg d.name = some (.ref fa) →
      ∃ fd : FuncData, (∀ (s : Shared) (u : Value), BindsTo s fd ⟨[u], []⟩ [("_law_script", u)]) ∧ ∀ base : Heap, (K w.params).In base → base.Ns mainGlobals mg → FnOk l.prog w (K w.params) mg base CX0 10 fa fd ["_law_script"] (sp_law (K w.params))) :
    PySem.W.WalkO q loose XP YP l.row.toRowW d [] (fun f vs => PySem.call f vs) :=
  L2.walk_of (n := 63) (k := 10) (x := "_law_script") (CX := fun _ => CX0) (sp := fun w => sp_law (K w.params)) hn (by decide) hdf ⟨rfl, by decide, by decide⟩ hY F (fun _ _ a ns hl _ hS => ⟨a, ns, rfl, hS, hl, fun _ => rfl⟩) fun _ _ _ _ _ z => z
end B2

open PySem PySem.W PyProof.Rows in
set_option maxRecDepth 100000 in
set_option maxHeartbeats 0 in
theorem PySem.Challenge.cw_bedtwos_k02_wishes_refused_holds : PySem.Challenge.rw_bedtwos_k02_wishes_refused.Holds := by
  w_on; o_law; k_head; (case hw => w_witness2)
  k_fill
  refine B2.walk (l := PySem.Challenge.rw_bedtwos_k02_wishes_refused) rfl rfl (fun w h Y => PySem.W.kIn_of Y) ?F
  case F =>
    intro w mg fa h KX G hmg
    refine' B2.all_mk KX G hmg ?a1 ?l1 ?c1 ?k1 ?a2 ?l2 ?c2 ?k2 ?a3 ?l3 ?c3 ?k3 ?a4 ?l4 ?c4 ?k4 ?a5 ?l5 ?c5 ?k5 ?a6 ?l6 ?c6 ?k6 ?a7 ?l7 ?c7 ?k7 ?a8 ?l8 ?c8 ?k8 ?a9 ?l9 ?c9 ?k9 ?a10 ?l10 ?c10 ?k10 ?a11 ?l11 ?c11 ?k11 ?a12 ?l12 ?c12 ?k12 ?a13 ?l13 ?c13 ?k13 ?a14 ?l14 ?c14 ?k14 ?a15 ?l15 ?c15 ?k15 ?a16 ?l16 ?c16 ?k16 ?a17 ?l17 ?c17 ?k17 ?a18 ?l18 ?c18 ?k18 ?a19 ?l19 ?c19 ?k19 ?z_len ?z_rng ?z_isI ?z_int ?z_bool ?z_list ?z_set ?z_enm ?z_tup ?y_mg ?g_BadWishes ?g_BedError ?g_BadGuest ?g_BadMates ?g_BadParties ?g_NoNote ?g_Inn ?zV ?w1 ?w2 ?d_BadWishes ?t_BadWishes ?b_BadWishes ?d_BedError ?t_BedError ?b_BedError ?d_BadGuest ?t_BadGuest ?b_BadGuest ?d_BadMates ?t_BadMates ?b_BadMates ?d_BadParties ?t_BadParties ?b_BadParties ?d_NoNote ?t_NoNote ?b_NoNote ?s_BadWishes ?s_BedError ?s_BadGuest ?s_BadMates ?s_BadParties ?s_NoNote ?s_VE ?y1 ?y2 ?y5 ?y6 ?y7 ?y8 ?i1 ?i2 ?i3 ?i4 ?i5 ?i6 ?i7
    (case a1 => k_is)
    (case l1 => k_is)
    (case c1 => k_is)
    (case k1 => k_is)
    (case a2 => k_is)
    (case l2 => k_is)
    (case c2 => k_is)
    (case k2 => k_is)
    (case a3 => k_is)
    (case l3 => k_is)
    (case c3 => k_is)
    (case k3 => k_is)
    (case a4 => k_is)
    (case l4 => k_is)
    (case c4 => k_is)
    (case k4 => k_is)
    (case a5 => k_is)
    (case l5 => k_is)
    (case c5 => k_is)
    (case k5 => k_is)
    (case a6 => k_is)
    (case l6 => k_is)
    (case c6 => k_is)
    (case k6 => k_is)
    (case a7 => k_is)
    (case l7 => k_is)
    (case c7 => k_is)
    (case k7 => k_is)
    (case a8 => k_is)
    (case l8 => k_is)
    (case c8 => k_is)
    (case k8 => k_is)
    (case a9 => k_is)
    (case l9 => k_is)
    (case c9 => k_is)
    (case k9 => k_is)
    (case a10 => k_is)
    (case l10 => k_is)
    (case c10 => k_is)
    (case k10 => k_is)
    (case a11 => k_is)
    (case l11 => k_is)
    (case c11 => k_is)
    (case k11 => k_is)
    (case a12 => k_is)
    (case l12 => k_is)
    (case c12 => k_is)
    (case k12 => k_is)
    (case a13 => k_is)
    (case l13 => k_is)
    (case c13 => k_is)
    (case k13 => k_is)
    (case a14 => k_is)
    (case l14 => k_is)
    (case c14 => k_is)
    (case k14 => k_is)
    (case a15 => k_is)
    (case l15 => k_is)
    (case c15 => k_is)
    (case k15 => k_is)
    (case a16 => k_is)
    (case l16 => k_is)
    (case c16 => k_is)
    (case k16 => k_is)
    (case a17 => k_is)
    (case l17 => k_is)
    (case c17 => k_is)
    (case k17 => k_is)
    (case a18 => k_is)
    (case l18 => k_is)
    (case c18 => k_is)
    (case k18 => k_is)
    (case a19 => k_is)
    (case l19 => k_is)
    (case c19 => k_is)
    (case k19 => k_is)
    (case z_len => k_is)
    (case z_rng => k_is)
    (case z_isI => k_is)
    (case z_int => k_is)
    (case z_bool => k_is)
    (case z_list => k_is)
    (case z_set => k_is)
    (case z_enm => k_is)
    (case z_tup => k_is)
    (case y_mg => k_is)
    (case g_BadWishes => k_is)
    (case g_BedError => k_is)
    (case g_BadGuest => k_is)
    (case g_BadMates => k_is)
    (case g_BadParties => k_is)
    (case g_NoNote => k_is)
    (case g_Inn => k_is)
    (case zV => k_is)
    (case w1 => k_exc)
    (case w2 => k_is)
    (case d_BadWishes => k_is)
    (case t_BadWishes => k_is)
    (case b_BadWishes => k_is)
    (case d_BedError => k_is)
    (case t_BedError => k_is)
    (case b_BedError => k_is)
    (case d_BadGuest => k_is)
    (case t_BadGuest => k_is)
    (case b_BadGuest => k_is)
    (case d_BadMates => k_is)
    (case t_BadMates => k_is)
    (case b_BadMates => k_is)
    (case d_BadParties => k_is)
    (case t_BadParties => k_is)
    (case b_BadParties => k_is)
    (case d_NoNote => k_is)
    (case t_NoNote => k_is)
    (case b_NoNote => k_is)
    (case s_BadWishes => k_is)
    (case s_BedError => k_is)
    (case s_BadGuest => k_is)
    (case s_BadMates => k_is)
    (case s_BadParties => k_is)
    (case s_NoNote => k_is)
    (case s_VE => k_is)
    (case y1 => k_is)
    (case y2 => k_is)
    (case y5 => k_is)
    (case y6 => k_is)
    (case y7 => k_is)
    (case y8 => k_is)
    (case i1 => k_is)
    (case i2 => k_is)
    (case i3 => k_is)
    (case i4 => k_is)
    (case i5 => k_is)
    (case i6 => k_is)
    (case i7 => k_is)
#print axioms PySem.Challenge.cw_bedtwos_k02_wishes_refused_holds
