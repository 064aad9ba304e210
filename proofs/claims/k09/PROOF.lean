import PyProof.Rows.All
import Wide.All
import OpenK.AllK
import Wide.FinOn
import HandS.ForMost
import HandS.IsInst
import HandS.Zip
import HandS.Walk
import HandS.Evl
import HandS.Style
import PySem.Challenge.RW_bedtwos_k09_whole_same_alone
set_option Elab.async false
set_option maxRecDepth 100000
set_option maxHeartbeats 4000000
namespace B2
open PySem L2

/-! ### Data: tables of wishes, rows, what stands at an address -/

/-- a row of the guest g, one of n -/
structure GoodRow (n : Nat) (g : Int) (r : List Int) : Prop where
  nd : r.Nodup
  rg : ∀ x ∈ r, 0 ≤ x ∧ x < (n : Int) ∧ x ≠ g
  sm : r.length ≤ 6

structure Good (ws : List (List Int)) : Prop where
  lo : 1 ≤ ws.length
  hi : ws.length ≤ 6
  row : ∀ (g : Nat) (r : List Int), ws[g]? = some r → GoodRow ws.length (g : Int) r

/-- the table ws stands at a -/
def Tab (K : PySem.W.Frag) (H : Hp) (a : Addr) (ws : List (List Int)) : Prop :=
  ∃ as : List Addr, SqL K H a (as.map V.ref) ∧ as.length = ws.length ∧
    ∀ (i : Nat) (r : List Int), ws[i]? = some r → ∃ b, as[i]? = some b ∧ SqL K H b (r.map V.int)

theorem Tab.same {K : PySem.W.Frag} {H H' : Hp} {a : Addr} {ws : List (List Int)} (e : Same H H') (t : Tab K H a ws) : Tab K H' a ws := by
  obtain ⟨as, h1, h2, h3⟩ := t
  refine ⟨as, e.seq h1, h2, fun i r hr => ?_⟩
  obtain ⟨b, hb, hs⟩ := h3 i r hr
  exact ⟨b, hb, e.seq hs⟩

theorem same_new {H : Hp} {p : Addr} (h : H p = none) (o : HO) : Same H (upd H p o) := fun b u q => by
  rw [upd_ne (ne_of_none q h)]; exact q

/-- what was there at the start stays, though the new object at p is changed -/
theorem same_put {H H1 : Hp} {p : Addr} (e : Same H H1) (h : H p = none) (o : HO) : Same H (upd H1 p o) := fun b u q => by
  rw [upd_ne (ne_of_none q h)]; exact e b u q

def rowOf (ws : List (List Int)) (i : Int) : List Int := ws.getD i.toNat []

theorem rowOf_get {ws : List (List Int)} {i : Int} (h0 : 0 ≤ i) (h1 : i < (ws.length : Int)) :
    ws[i.toNat]? = some (rowOf ws i) ∧ i = ((i.toNat : Nat) : Int) := by
  have h : i.toNat < ws.length := by omega
  refine ⟨?_, by omega⟩
  unfold rowOf
  rw [List.getD_eq_getElem?_getD, List.getElem?_eq_getElem h]
  rfl

theorem rowOf_good {ws : List (List Int)} (g : Good ws) {i : Int} (h0 : 0 ≤ i) (h1 : i < (ws.length : Int)) : GoodRow ws.length i (rowOf ws i) := by
  have h := rowOf_get h0 h1
  have q := g.row _ _ h.1
  rw [← h.2] at q
  exact q

/-- wishes[i], as the list rules ask it -/
theorem Tab.at {K : PySem.W.Frag} {H : Hp} {a : Addr} {ws : List (List Int)} (t : Tab K H a ws) :
    ∃ as : List Addr, SqL K H a (as.map V.ref) ∧ as.length = ws.length ∧
    ∀ i : Int, 0 ≤ i → i < (ws.length : Int) → ∃ b, atI (as.map V.ref) i = some (.ref b) ∧ SqL K H b ((rowOf ws i).map V.int) := by
  obtain ⟨as, h1, h2, h3⟩ := t
  refine ⟨as, h1, h2, fun i i0 i1 => ?_⟩
  obtain ⟨q1, q2⟩ := rowOf_get i0 i1
  obtain ⟨b, hb, hs⟩ := h3 _ _ q1
  refine ⟨b, ?_, hs⟩
  have : atI (as.map V.ref) ((i.toNat : Nat) : Int) = some (.ref b) := atI_nat (by rw [List.getElem?_map, hb]; rfl)
  rw [← q2] at this
  exact this

theorem inV_int (j : Int) : ∀ r : List Int, inV (.int j) (r.map V.int) = decide (j ∈ r)
  | [] => by simp [inV]
  | x :: r => by
    have ih := inV_int j r
    unfold inV at ih ⊢
    rw [List.map_cons, List.any_cons, ih]
    show ((x == j) || decide (j ∈ r)) = decide (j ∈ x :: r)
    by_cases h : x = j
    · simp [h]
    · have h' : ¬ j = x := fun q => h q.symm
      simp [h, h']

theorem flat_ints (r : List Int) : (r.map V.int).all flatV = true := by
  rw [List.all_eq_true]
  intro x hx
  rw [List.mem_map] at hx
  obtain ⟨i, _, rfl⟩ := hx
  rfl

/-- two guests suit each other -/
def suitsB (ws : List (List Int)) (i j : Int) : Bool := decide (j ∈ rowOf ws i) && decide (i ∈ rowOf ws j)

theorem suitsB_comm (ws : List (List Int)) (i j : Int) : suitsB ws i j = suitsB ws j i := Bool.and_comm _ _

def ov : Option Int → V
  | none => .non
  | some i => .int i

theorem ov_inj {a b : Option Int} (h : ov a = ov b) : a = b := by
  cases a <;> cases b <;> first | rfl | (cases h; rfl) | (cases h)

theorem ov_dec (a b : Option Int) : decide (ov a = ov b) = decide (a = b) := by
  by_cases h : a = b
  · rw [h]; simp
  · have h' : ¬ ov a = ov b := fun q => h (ov_inj q)
    rw [decide_eq_false h, decide_eq_false h']

theorem ov_non (a : Option Int) : decide (ov a = .non) = a.isNone := by
  cases a <;> rfl

/-- a guest or none, of n -/
def OkO (n : Nat) : Option Int → Prop
  | none => True
  | some i => 0 ≤ i ∧ i < (n : Int)

/-- whether g would rather have one than other -/
def aheadB (ws : List (List Int)) (g : Int) : Option Int → Option Int → Bool
  | none, _ => false
  | some a, none => suitsB ws g a
  | some a, some b => if a = b then false else
      if suitsB ws g a = true then (if suitsB ws g b = true then decide ((rowOf ws g).idxOf a < (rowOf ws g).idxOf b) else true) else false

/-- as the law goes through the list -/
def scanB (s : Int → Bool) (a : Int) (o : Option Int) : List Int → Bool
  | [] => false
  | t :: r => if (decide (some t = o) && s t) = true then false else if t = a then true else scanB s a o r

theorem scanB_none (s : Int → Bool) (a : Int) : ∀ r : List Int, a ∈ r → scanB s a none r = true
  | [], h => by cases h
  | t :: r, h => by
    unfold scanB
    have e : (decide (some t = (none : Option Int)) && s t) = false := by
      rw [decide_eq_false (by intro q; cases q), Bool.false_and]
    rw [e]
    by_cases q : t = a
    · rw [if_neg (by decide), if_pos q]
    · rw [if_neg (by decide), if_neg q]
      rcases List.mem_cons.mp h with h | h
      · exact absurd h.symm q
      · exact scanB_none s a r h

theorem scanB_no (s : Int → Bool) (a b : Int) (hs : s b = false) : ∀ r : List Int, a ∈ r → scanB s a (some b) r = true
  | [], h => by cases h
  | t :: r, h => by
    unfold scanB
    have e : (decide (some t = some b) && s t) = false := by
      by_cases q : t = b
      · rw [q, hs, Bool.and_false]
      · rw [decide_eq_false (by intro z; exact q (Option.some.inj z)), Bool.false_and]
    rw [e]
    by_cases q : t = a
    · rw [if_neg (by decide), if_pos q]
    · rw [if_neg (by decide), if_neg q]
      rcases List.mem_cons.mp h with h | h
      · exact absurd h.symm q
      · exact scanB_no s a b hs r h

theorem scanB_yes (s : Int → Bool) (a b : Int) (hs : s b = true) (hab : a ≠ b) : ∀ r : List Int, a ∈ r → scanB s a (some b) r = decide (r.idxOf a < r.idxOf b)
  | [], h => by cases h
  | t :: r, h => by
    unfold scanB
    by_cases q : t = b
    · have e : (decide (some t = some b) && s t) = true := by rw [q, hs]; simp
      rw [if_pos e, q, List.idxOf_cons, List.idxOf_cons]
      have e1 : (b == a) = false := by
        apply beq_eq_false_iff_ne.mpr
        exact fun z => hab z.symm
      simp [e1]
    · have e : (decide (some t = some b) && s t) = false := by
        rw [decide_eq_false (by intro z; exact q (Option.some.inj z)), Bool.false_and]
      rw [e, if_neg (by decide)]
      have e2 : (t == b) = false := beq_eq_false_iff_ne.mpr q
      by_cases q1 : t = a
      · rw [if_pos q1, List.idxOf_cons, List.idxOf_cons]
        have e1 : (t == a) = true := by rw [q1]; exact beq_self_eq_true a
        rw [e1, e2]
        simp
      · rw [if_neg q1]
        have e1 : (t == a) = false := beq_eq_false_iff_ne.mpr q1
        have ha : a ∈ r := by
          rcases List.mem_cons.mp h with h | h
          · exact absurd h.symm q1
          · exact h
        rw [scanB_yes s a b hs hab r ha, List.idxOf_cons, List.idxOf_cons, e1, e2]
        simp

def ratherB (ws : List (List Int)) (g : Int) : Option Int → Option Int → Bool
  | none, _ => false
  | some a, o => if suitsB ws g a = true then scanB (suitsB ws g) a o (rowOf ws g) else false

theorem suitsB_mem {ws : List (List Int)} {g a : Int} (h : suitsB ws g a = true) : a ∈ rowOf ws g ∧ g ∈ rowOf ws a := by
  unfold suitsB at h
  rw [Bool.and_eq_true] at h
  exact ⟨of_decide_eq_true h.1, of_decide_eq_true h.2⟩

theorem scanB_same (s : Int → Bool) (a : Int) (hs : s a = true) : ∀ r : List Int, scanB s a (some a) r = false
  | [] => rfl
  | t :: r => by
    unfold scanB
    by_cases q : t = a
    · rw [if_pos (by rw [q, hs]; simp)]
    · rw [if_neg (by rw [decide_eq_false (by intro z; exact q (Option.some.inj z)), Bool.false_and]; decide), if_neg q]
      exact scanB_same s a hs r

theorem rather_is (ws : List (List Int)) (g : Int) : ∀ a o : Option Int, ratherB ws g a o = aheadB ws g a o
  | none, _ => rfl
  | some a, none => by
    show (if suitsB ws g a = true then scanB (suitsB ws g) a none (rowOf ws g) else false) = suitsB ws g a
    by_cases h : suitsB ws g a = true
    · rw [if_pos h, scanB_none _ _ _ (suitsB_mem h).1, h]
    · rw [if_neg h]
      exact (Bool.eq_false_iff.mpr h).symm
  | some a, some b => by
    show (if suitsB ws g a = true then scanB (suitsB ws g) a (some b) (rowOf ws g) else false) = (if a = b then false else
      if suitsB ws g a = true then (if suitsB ws g b = true then decide ((rowOf ws g).idxOf a < (rowOf ws g).idxOf b) else true) else false)
    by_cases h : suitsB ws g a = true
    · rw [if_pos h, if_pos h]
      by_cases q : a = b
      · rw [if_pos q, ← q, scanB_same _ _ h]
      · rw [if_neg q]
        by_cases h2 : suitsB ws g b = true
        · rw [if_pos h2, scanB_yes _ _ _ h2 q _ (suitsB_mem h).1]
        · rw [if_neg h2, scanB_no _ _ _ (Bool.eq_false_iff.mpr h2) _ (suitsB_mem h).1]
    · rw [if_neg h, if_neg h]
      by_cases q : a = b
      · rw [if_pos q]
      · rw [if_neg q]

/-- the first place of x in a list of ints, as list.index asks it -/
theorem index_at (x : Int) : ∀ r : List Int, x ∈ r →
    (r.map V.int)[r.idxOf x]? = some (.int x) ∧ ∀ (m : Nat) (z : V), m < r.idxOf x → (r.map V.int)[m]? = some z → eqV z (.int x) = false
  | [], h => by cases h
  | t :: r, h => by
    by_cases q : t = x
    · rw [List.idxOf_cons]
      have e1 : (t == x) = true := by rw [q]; exact beq_self_eq_true x
      rw [e1]
      refine ⟨by rw [q]; rfl, fun m z hm => ?_⟩
      simp at hm
    · have e1 : (t == x) = false := beq_eq_false_iff_ne.mpr q
      have ha : x ∈ r := by
        rcases List.mem_cons.mp h with h | h
        · exact absurd h.symm q
        · exact h
      obtain ⟨i1, i2⟩ := index_at x r ha
      rw [List.idxOf_cons, e1]
      refine ⟨?_, fun m z hm hz => ?_⟩
      · show (V.int t :: r.map V.int)[r.idxOf x + 1]? = _
        rw [List.getElem?_cons_succ]
        exact i1
      · cases m with
        | zero =>
          rw [List.map_cons, List.getElem?_cons_zero] at hz
          cases hz
          exact e1
        | succ m =>
          rw [List.map_cons, List.getElem?_cons_succ] at hz
          have hm' : m + 1 < r.idxOf x + 1 := hm
          exact i2 m z (by omega) hz
end B2

namespace B2
open PySem L2

/-! ### Data of nested lists -/
theorem canLayAll_of : ∀ ds : List PyData, (∀ d ∈ ds, d.canLay0 = true) → PyData.canLayAll0 ds = true
  | [], _ => by simp [PyData.canLayAll0]
  | d :: ds, h => by
    have h1 := h d (List.mem_cons_self ..)
    have h2 := canLayAll_of ds (fun e he => h e (List.mem_cons_of_mem _ he))
    simp [PyData.canLayAll0, h1, h2]
theorem depthAll_of (k : Nat) : ∀ ds : List PyData, (∀ d ∈ ds, d.depth ≤ k) → PyData.depthAll ds ≤ k
  | [], _ => by simp [PyData.depthAll]
  | d :: ds, h => by
    have h1 := h d (List.mem_cons_self ..)
    have h2 := depthAll_of k ds (fun e he => h e (List.mem_cons_of_mem _ he))
    simp only [PyData.depthAll]
    omega

def dV : V → PyData
  | .bl b => .bool b
  | .int i => .int i
  | _ => .none
/-- None, truths and numbers -/
def plainV : V → Bool
  | .non => true
  | .bl _ => true
  | .int _ => true
  | _ => false
theorem dV_dp {K : PySem.W.Frag} {H : Hp} : ∀ v : V, plainV v = true → Dp K H v (dV v)
  | .non, _ => .non
  | .bl b, _ => .bl b
  | .int i, _ => .int i
  | .str _, h | .byt _, h | .flt _, h | .ref _, h | .ty _, h => by cases h
theorem dV_lay : ∀ v : V, (dV v).canLay0 = true ∧ (dV v).depth ≤ 1
  | .non | .bl _ | .int _ | .str _ | .byt _ | .flt _ | .ref _ | .ty _ => by simp [dV, PyData.canLay0, PyData.depth]
theorem dpAll_plain {K : PySem.W.Frag} {H : Hp} : ∀ vs : List V, (∀ v ∈ vs, plainV v = true) → DpAll K H vs (vs.map dV)
  | [], _ => .nil
  | v :: vs, h => .cons (dV_dp v (h v (List.mem_cons_self ..))) (dpAll_plain vs fun u hu => h u (List.mem_cons_of_mem _ hu))
/-- what a list of plain things, a list of such lists is as data -/
def dL (vs : List V) : PyData := .list (vs.map dV)
def dLL (vss : List (List V)) : PyData := .list (vss.map dL)
theorem dL_lay (vs : List V) : (dL vs).canLay0 = true ∧ (dL vs).depth ≤ 2 := by
  have h1 := canLayAll_of (vs.map dV) (fun d hd => by
    obtain ⟨v, _, rfl⟩ := List.mem_map.mp hd
    exact (dV_lay v).1)
  have h2 := depthAll_of 1 (vs.map dV) (fun d hd => by
    obtain ⟨v, _, rfl⟩ := List.mem_map.mp hd
    exact (dV_lay v).2)
  unfold dL
  simp only [PyData.canLay0, PyData.depth]
  exact ⟨h1, by omega⟩
theorem dLL_lay (vss : List (List V)) : (dLL vss).canLay0 = true ∧ (dLL vss).depth ≤ 3 := by
  have h1 := canLayAll_of (vss.map dL) (fun d hd => by
    obtain ⟨v, _, rfl⟩ := List.mem_map.mp hd
    exact (dL_lay v).1)
  have h2 := depthAll_of 2 (vss.map dL) (fun d hd => by
    obtain ⟨v, _, rfl⟩ := List.mem_map.mp hd
    exact (dL_lay v).2)
  unfold dLL
  simp only [PyData.canLay0, PyData.depth]
  exact ⟨h1, by omega⟩
theorem shaped_of {d : PyData} (h : d.canLay0 = true) (k : d.depth ≤ 64) : SeqAt.shaped d = true := by
  unfold SeqAt.shaped
  rw [h, decide_eq_true k]
  rfl
theorem dL_shaped (vs : List V) : SeqAt.shaped (dL vs) = true := shaped_of (dL_lay vs).1 (Nat.le_trans (dL_lay vs).2 (by decide))
theorem dLL_shaped (vss : List (List V)) : SeqAt.shaped (dLL vss) = true := shaped_of (dLL_lay vss).1 (Nat.le_trans (dLL_lay vss).2 (by decide))
theorem dL_refl (vs : List V) : (dL vs).eqv (dL vs) = true := SeqAt.eqv_refl _ (dL_lay vs).1
theorem dLL_refl (vss : List (List V)) : (dLL vss).eqv (dLL vss) = true := SeqAt.eqv_refl _ (dLL_lay vss).1

/-! ### Lists of lists in the heap -/
/-- at a a list of lists, whose items are the values vss -/
def TabV (K : PySem.W.Frag) (H : Hp) (a : Addr) (vss : List (List V)) : Prop :=
  ∃ as : List Addr, SqL K H a (as.map V.ref) ∧ as.length = vss.length ∧
    ∀ (i : Nat) (r : List V), vss[i]? = some r → ∃ b, as[i]? = some b ∧ SqL K H b r

theorem TabV.same {K : PySem.W.Frag} {H H' : Hp} {a : Addr} {vss : List (List V)} (e : Same H H') (t : TabV K H a vss) : TabV K H' a vss := by
  obtain ⟨as, h1, h2, h3⟩ := t
  refine ⟨as, e.seq h1, h2, fun i r hr => ?_⟩
  obtain ⟨b, hb, hs⟩ := h3 i r hr
  exact ⟨b, hb, e.seq hs⟩

theorem Tab.v {K : PySem.W.Frag} {H : Hp} {a : Addr} {ws : List (List Int)} (t : Tab K H a ws) : TabV K H a (ws.map fun r => r.map V.int) := by
  obtain ⟨as, h1, h2, h3⟩ := t
  refine ⟨as, h1, by rw [List.length_map]; exact h2, fun i r hr => ?_⟩
  rw [List.getElem?_map] at hr
  cases e : ws[i]? with
  | none => rw [e] at hr; cases hr
  | some q =>
    rw [e] at hr
    cases hr
    exact h3 i q e

theorem TabV.t {K : PySem.W.Frag} {H : Hp} {a : Addr} {ws : List (List Int)} (t : TabV K H a (ws.map fun r => r.map V.int)) : Tab K H a ws := by
  obtain ⟨as, h1, h2, h3⟩ := t
  refine ⟨as, h1, by rw [h2, List.length_map], fun i r hr => ?_⟩
  exact h3 i _ (by rw [List.getElem?_map, hr]; rfl)

theorem dpAll_refs {K : PySem.W.Frag} {H : Hp} : ∀ (as : List Addr) (vss : List (List V)), as.length = vss.length →
    (∀ (i : Nat) (r : List V), vss[i]? = some r → ∃ b, as[i]? = some b ∧ SqL K H b r) → (∀ r ∈ vss, ∀ v ∈ r, plainV v = true) →
    DpAll K H (as.map V.ref) (vss.map dL)
  | [], [], _, _, _ => .nil
  | [], _ :: _, h, _, _ => by cases h
  | _ :: _, [], h, _, _ => by cases h
  | a :: as, r :: vss, h, g, p => by
    obtain ⟨b, hb, hs⟩ := g 0 r rfl
    cases hb
    refine .cons (.lst hs (dpAll_plain r (p r (List.mem_cons_self ..)))) (dpAll_refs as vss (Nat.succ.inj h) (fun i q hq => ?_) fun q hq => p q (List.mem_cons_of_mem _ hq))
    exact g (i + 1) q hq

theorem TabV.dp {K : PySem.W.Frag} {H : Hp} {a : Addr} {vss : List (List V)} (t : TabV K H a vss) (p : ∀ r ∈ vss, ∀ v ∈ r, plainV v = true) : Dp K H (.ref a) (dLL vss) := by
  obtain ⟨as, h1, h2, h3⟩ := t
  exact .lst h1 (dpAll_refs as vss h2 h3 p)

theorem plain_ints (ws : List (List Int)) : ∀ r ∈ (ws.map fun r => r.map V.int), ∀ v ∈ r, plainV v = true := by
  intro r hr v hv
  obtain ⟨q, _, rfl⟩ := List.mem_map.mp hr
  obtain ⟨i, _, rfl⟩ := List.mem_map.mp hv
  rfl

theorem Tab.dp {K : PySem.W.Frag} {H : Hp} {a : Addr} {ws : List (List Int)} (t : Tab K H a ws) : Dp K H (.ref a) (dLL (ws.map fun r => r.map V.int)) := t.v.dp (plain_ints ws)

/-- a list of new objects (f r for the items r) that is being built at D: all that stood in H stands -/
def BuiltF {α : Type} (f : α → HO) (H : Hp) (D : Addr) (vss : List α) (H' : Hp) : Prop :=
  Same H H' ∧ ∃ as : List Addr, H' D = some (.lst (as.map V.ref)) ∧ as.length = vss.length ∧
    ∀ (i : Nat) (r : α), vss[i]? = some r → ∃ b, as[i]? = some b ∧ H' b = some (f r) ∧ b ≠ D ∧ H b = none

abbrev Built (H : Hp) (D : Addr) (vss : List (List V)) (H' : Hp) : Prop := BuiltF HO.lst H D vss H'

theorem built_start {α : Type} {f : α → HO} {H : Hp} {D : Addr} (h : H D = none) : BuiltF f H D [] (upd H D (.lst [])) :=
  ⟨same_new h _, [], upd_same, rfl, fun i r hr => by cases hr⟩

theorem built_step {α : Type} {f : α → HO} {H H1 H2 : Hp} {D p : Addr} {vss : List α} {r : α} (hD : H D = none) (b : BuiltF f H D vss H1) (e : Same H1 H2) (hp : H1 p = none) (hp2 : H2 p = some (f r)) :
    ∃ acc, H2 D = some (.lst acc) ∧ acc.length = vss.length ∧ BuiltF f H D (vss ++ [r]) (upd H2 D (.lst (acc ++ [.ref p]))) := by
  obtain ⟨s, as, h1, h2, h3⟩ := b
  have npD : p ≠ D := (ne_of_none h1 hp).symm
  refine ⟨_, e _ _ h1, by rw [List.length_map]; exact h2, same_put (s.trans e) hD _, as ++ [p], ?_, ?_, fun i q hq => ?_⟩
  · rw [upd_same, List.map_append]
    rfl
  · rw [List.length_append, List.length_append, h2]
    rfl
  · rw [List.getElem?_append] at hq
    rw [List.getElem?_append]
    by_cases c : i < vss.length
    · rw [if_pos c] at hq
      rw [if_pos (by rw [h2]; exact c)]
      obtain ⟨b, b1, b2, b3, b4⟩ := h3 i q hq
      exact ⟨b, b1, by rw [upd_ne b3]; exact e _ _ b2, b3, b4⟩
    · rw [if_neg c] at hq
      rw [if_neg (by rw [h2]; exact c)]
      have i0 : i - vss.length = 0 := by
        have := (List.getElem?_eq_some_iff.mp hq).1
        simp at this
        omega
      rw [i0] at hq
      cases hq
      rw [h2, i0]
      exact ⟨p, rfl, by rw [upd_ne npD]; exact hp2, npD, s.free hp⟩

theorem Built.tab {K : PySem.W.Frag} {H H' : Hp} {D : Addr} {vss : List (List V)} (b : Built H D vss H') : TabV K H' D vss := by
  obtain ⟨s, as, h1, h2, h3⟩ := b
  refine ⟨as, SqL.of h1, h2, fun i r hr => ?_⟩
  obtain ⟨b, b1, b2, _⟩ := h3 i r hr
  exact ⟨b, b1, SqL.of b2⟩

theorem map_int_get {r : List Int} {i : Nat} {x : V} (h : (r.map V.int)[i]? = some x) : ∃ y, r[i]? = some y ∧ x = .int y := by
  rw [List.getElem?_map] at h
  cases e : r[i]? with
  | none => rw [e] at h; cases h
  | some y =>
    rw [e] at h
    exact ⟨y, rfl, (Option.some.inj h).symm⟩

theorem map_ref_get {r : List Addr} {i : Nat} {x : V} (h : (r.map V.ref)[i]? = some x) : ∃ y, r[i]? = some y ∧ x = .ref y := by
  rw [List.getElem?_map] at h
  cases e : r[i]? with
  | none => rw [e] at h; cases h
  | some y =>
    rw [e] at h
    exact ⟨y, rfl, (Option.some.inj h).symm⟩

theorem take_one {α : Type} {xs : List α} {i : Nat} {x : α} (h : xs[i]? = some x) : xs.take (i + 1) = xs.take i ++ [x] := by
  rw [List.take_add_one, h]
  rfl

theorem seqIx {i : Int} {n : Nat} (h0 : 0 ≤ i) (h1 : i < (n : Int)) : seqIndex? i n = some i.toNat := by
  have e1 : ¬ (i < 0) := by omega
  unfold seqIndex?
  simp only [if_neg e1]
  rw [decide_eq_true h0, decide_eq_true h1]
  rfl

theorem map_erase {α β : Type} (f : α → β) : ∀ (l : List α) (k : Nat), (l.map f).eraseIdx k = (l.eraseIdx k).map f
  | [], _ => rfl
  | _ :: _, 0 => rfl
  | a :: l, k + 1 => by
    show f a :: (l.map f).eraseIdx k = f a :: (l.eraseIdx k).map f
    rw [map_erase f l k]

theorem le_line {n : Nat} (h : n ≤ 1000) : n ≤ sizeLine := Nat.le_of_lt (small1000 h)

theorem cut_take (r : List Int) (k : Int) : ∃ m, cutV (r.map V.int) none (some k) = (r.take m).map V.int := by
  refine ⟨HT.sIx (r.map V.int).length (r.map V.int).length (some k) - 0, ?_⟩
  unfold cutV
  have e0 : HT.sIx (r.map V.int).length 0 none = 0 := rfl
  rw [e0, List.drop_zero, List.map_take]
/-! ### Rules within a comprehension's block, whose K is the def's -/
def rLof (K : PySem.W.Frag) : List V → Hp → VK → Prop := fun xs H Q => ∃ p ys, xs = [.ref p] ∧ (SqL K H p ys ∨ SqT K H p ys) ∧ ∀ l, H l = none → Q (.ref l) (upd H l (.lst ys))
theorem call_lof {X : Cx} {K : PySem.W.Frag} (h : X.K = K) : CallR X (.type "list") (rLof K) := by
  subst h
  exact call_list_of

theorem ix_lst {X : Cx} {K : PySem.W.Frag} (h : X.K = K) : IxR X (rIxL K) := by
  subst h
  exact ix_list
theorem in_lst {X : Cx} {K : PySem.W.Frag} (h : X.K = K) : OpR X (compareOp .In) (rIn K false) := by
  subst h
  exact op_in_seq
def rLenOf (K : PySem.W.Frag) : List V → Hp → VK → Prop := fun xs H Q => ∃ p ys, xs = [.ref p] ∧ (SqL K H p ys ∨ SqT K H p ys) ∧ Q (.int ys.length) H
theorem len_lst {X : Cx} {K : PySem.W.Frag} (h : X.K = K) : CallR X (.builtin "len") (rLenOf K) := by
  subst h
  exact call_len_seq

theorem suitsB_self {ws : List (List Int)} (hG : Good ws) {g : Int} (h0 : 0 ≤ g) (h1 : g < (ws.length : Int)) : suitsB ws g g = false := by
  have : ¬ g ∈ rowOf ws g := fun h => ((rowOf_good hG h0 h1).rg g h).2.2 rfl
  unfold suitsB
  rw [decide_eq_false this]
  rfl

end B2

namespace B2
open PySem L2

/-- a walk within a comprehension, a loop: what holds between the turns -/
theorem in_it {J : It} {n : Nat} {G : Hp → Prop} {Y : Nat → Hp → V → Hp → Prop} (w : Walk J n G Y) {H1 : Hp} {Qd : Hp → Prop} {Body : (Hp → Prop) → V → Hp → Prop} (Pv : Nat → Hp → Prop)
    (h0 : Pv 0 H1) (hG : ∀ i H, i ≤ n → Pv i H → G H) (hs : ∀ i x H H', i < n → Pv i H → Y i H x H' → Body (Pv (i + 1)) x H') (hd : ∀ H, Pv n H → Qd H) :
    ∃ W : Nat → Nat → Hp → Prop, (∃ m, W 0 m H1) ∧ ∀ j k H, W j k H → (J.stop j H ∧ Qd H) ∨ (J.go j H ∧ ∃ Nx : Hp → Prop, (∀ H', Nx H' → ∃ k', k' < k ∧ W (j + 1) k' H') ∧ ∀ x H', J.yld j H x H' → Body Nx x H') := by
  refine ⟨fun j k H => k = n - j ∧ j ≤ n ∧ Pv j H, ⟨n, rfl, Nat.zero_le _, h0⟩, ?_⟩
  rintro j k H ⟨rfl, hj, p⟩
  have g := hG j H hj p
  by_cases c : j < n
  · refine .inr ⟨w.goes j H c g, Pv (j + 1), fun H' p' => ⟨n - (j + 1), by omega, rfl, c, p'⟩, fun x H' y => ?_⟩
    exact hs j x H H' c p (w.yields j H x H' c g y)
  · have e : j = n := by omega
    subst e
    exact .inl ⟨w.stops H g, hd H p⟩

/-! ### Mates -/
def mt (ms : List (Option Int)) (i : Int) : Option Int := ms.getD i.toNat none

structure OkMates (ws : List (List Int)) (ms : List (Option Int)) : Prop where
  len : ms.length = ws.length
  pr : ∀ i m : Int, 0 ≤ i → i < (ws.length : Int) → mt ms i = some m → 0 ≤ m ∧ m < (ws.length : Int) ∧ mt ms m = some i ∧ suitsB ws i m = true

theorem mt_get {ms : List (Option Int)} {i : Int} (h0 : 0 ≤ i) (h1 : i < (ms.length : Int)) : ms[i.toNat]? = some (mt ms i) := by
  have h : i.toNat < ms.length := by omega
  unfold mt
  rw [List.getD_eq_getElem?_getD, List.getElem?_eq_getElem h]
  rfl

theorem mt_at {ms : List (Option Int)} {i : Int} (h0 : 0 ≤ i) (h1 : i < (ms.length : Int)) : atI (ms.map ov) i = some (ov (mt ms i)) := by
  have e : i = ((i.toNat : Nat) : Int) := by omega
  have h : atI (ms.map ov) ((i.toNat : Nat) : Int) = some (ov (mt ms i)) := atI_nat (by rw [List.getElem?_map, mt_get h0 h1]; rfl)
  rw [← e] at h
  exact h

theorem OkMates.oko {ws : List (List Int)} {ms : List (Option Int)} (o : OkMates ws ms) {i : Int} (h0 : 0 ≤ i) (h1 : i < (ws.length : Int)) : OkO ws.length (mt ms i) := by
  cases e : mt ms i with
  | none => trivial
  | some m =>
    have := o.pr i m h0 h1 e
    exact ⟨this.1, this.2.1⟩

def tupO (p : Int × Int) : HO := .tup [.int p.1, .int p.2]

/-- the two are restless -/
def wild (ws : List (List Int)) (ms : List (Option Int)) (i j : Int) : Bool := aheadB ws i (some j) (mt ms i) && aheadB ws j (some i) (mt ms j)
/-- the restless pairs of i and the t guests behind it -/
def wildIn (ws : List (List Int)) (ms : List (Option Int)) (i : Nat) : Nat → List (Int × Int)
  | 0 => []
  | t + 1 => wildIn ws ms i t ++ (if wild ws ms (i : Int) ((i : Int) + 1 + (t : Int)) = true then [((i : Int), (i : Int) + 1 + (t : Int))] else [])
/-- the restless pairs of the first k guests, of n -/
def wildUp (ws : List (List Int)) (ms : List (Option Int)) (n : Nat) : Nat → List (Int × Int)
  | 0 => []
  | k + 1 => wildUp ws ms n k ++ wildIn ws ms k (n - (k + 1))
def wildAll (ws : List (List Int)) (ms : List (Option Int)) : List (Int × Int) := wildUp ws ms ws.length ws.length

theorem wildIn_le (ws : List (List Int)) (ms : List (Option Int)) (i : Nat) : ∀ t, (wildIn ws ms i t).length ≤ t
  | 0 => Nat.le_refl _
  | t + 1 => by
    have := wildIn_le ws ms i t
    unfold wildIn
    rw [List.length_append]
    split
    · rw [List.length_singleton]; omega
    · rw [List.length_nil]; omega
theorem wildUp_le (ws : List (List Int)) (ms : List (Option Int)) (n : Nat) : ∀ k, (wildUp ws ms n k).length ≤ k * n
  | 0 => Nat.zero_le _
  | k + 1 => by
    have h1 := wildUp_le ws ms n k
    have h2 := wildIn_le ws ms k (n - (k + 1))
    unfold wildUp
    rw [List.length_append, Nat.succ_mul]
    omega

theorem flat_ovs (ms : List (Option Int)) : ∀ v ∈ ms.map ov, plainV v = true := by
  intro v hv
  obtain ⟨i, _, rfl⟩ := List.mem_map.mp hv
  cases i <;> rfl

/-! ### Pairs as data -/
def dP (p : Int × Int) : PyData := .tuple [.int p.1, .int p.2]
def dPs (ps : List (Int × Int)) : PyData := .list (ps.map dP)
theorem dP_lay (p : Int × Int) : (dP p).canLay0 = true ∧ (dP p).depth ≤ 2 := by
  simp [dP, PyData.canLay0, PyData.canLayAll0, PyData.depth, PyData.depthAll]
theorem dPs_lay (ps : List (Int × Int)) : (dPs ps).canLay0 = true ∧ (dPs ps).depth ≤ 3 := by
  have h1 := canLayAll_of (ps.map dP) (fun d hd => by
    obtain ⟨v, _, rfl⟩ := List.mem_map.mp hd
    exact (dP_lay v).1)
  have h2 := depthAll_of 2 (ps.map dP) (fun d hd => by
    obtain ⟨v, _, rfl⟩ := List.mem_map.mp hd
    exact (dP_lay v).2)
  unfold dPs
  simp only [PyData.canLay0, PyData.depth]
  exact ⟨h1, by omega⟩
theorem dPs_shaped (ps : List (Int × Int)) : SeqAt.shaped (dPs ps) = true := shaped_of (dPs_lay ps).1 (Nat.le_trans (dPs_lay ps).2 (by decide))
theorem dPs_refl (ps : List (Int × Int)) : (dPs ps).eqv (dPs ps) = true := SeqAt.eqv_refl _ (dPs_lay ps).1
theorem dPs_nil (ps : List (Int × Int)) : (dPs ps).eqv (dPs []) = ps.isEmpty := by
  cases ps <;> simp [dPs, PyData.eqv, PyData.eqvAll]

/-- at a a list of pairs -/
def PrsAt (H : Hp) (a : Addr) (ps : List (Int × Int)) : Prop :=
  ∃ as : List Addr, H a = some (.lst (as.map V.ref)) ∧ as.length = ps.length ∧ ∀ (i : Nat) (p : Int × Int), ps[i]? = some p → ∃ b, as[i]? = some b ∧ H b = some (tupO p)
theorem PrsAt.same {H H' : Hp} {a : Addr} {ps : List (Int × Int)} (e : Same H H') (t : PrsAt H a ps) : PrsAt H' a ps := by
  obtain ⟨as, h1, h2, h3⟩ := t
  refine ⟨as, e _ _ h1, h2, fun i r hr => ?_⟩
  obtain ⟨b, hb, hs⟩ := h3 i r hr
  exact ⟨b, hb, e _ _ hs⟩
theorem BuiltF.prs {H H' : Hp} {D : Addr} {ps : List (Int × Int)} (b : BuiltF tupO H D ps H') : PrsAt H' D ps := by
  obtain ⟨s, as, h1, h2, h3⟩ := b
  refine ⟨as, h1, h2, fun i r hr => ?_⟩
  obtain ⟨b, b1, b2, _⟩ := h3 i r hr
  exact ⟨b, b1, b2⟩
theorem dpAll_prs {K : PySem.W.Frag} {H : Hp} : ∀ (as : List Addr) (ps : List (Int × Int)), as.length = ps.length →
    (∀ (i : Nat) (p : Int × Int), ps[i]? = some p → ∃ b, as[i]? = some b ∧ H b = some (tupO p)) → DpAll K H (as.map V.ref) (ps.map dP)
  | [], [], _, _ => .nil
  | [], _ :: _, h, _ => by cases h
  | _ :: _, [], h, _ => by cases h
  | a :: as, r :: ps, h, g => by
    obtain ⟨b, hb, hs⟩ := g 0 r rfl
    cases hb
    exact .cons (.tup (SqT.of hs) (.cons (.int _) (.cons (.int _) .nil))) (dpAll_prs as ps (Nat.succ.inj h) fun i q hq => g (i + 1) q hq)
theorem PrsAt.dp {K : PySem.W.Frag} {H : Hp} {a : Addr} {ps : List (Int × Int)} (t : PrsAt H a ps) : Dp K H (.ref a) (dPs ps) := by
  obtain ⟨as, h1, h2, h3⟩ := t
  exact .lst (SqL.of h1) (dpAll_prs as ps h2 h3)
end B2

namespace B2
open PySem L2

/-! ### All mates -/
def joinL (ms : List (Option Int)) (g o : Int) : List (Option Int) := (ms.set g.toNat (some o)).set o.toNat (some g)
def joinsL (ws : List (List Int)) (ms : List (Option Int)) (g : Nat) : Nat → List (List (Option Int))
  | 0 => []
  | t + 1 => joinsL ws ms g t ++ (if (mt ms ((g : Int) + 1 + (t : Int)) = none ∧ suitsB ws (g : Int) ((g : Int) + 1 + (t : Int)) = true) then [joinL ms (g : Int) ((g : Int) + 1 + (t : Int))] else [])
/-- what may come of these mates by what guest g does, behind that it stays as it is -/
def moreL (ws : List (List Int)) (ms : List (Option Int)) (g : Nat) : List (List (Option Int)) := if mt ms (g : Int) = none then joinsL ws ms g (ws.length - (g + 1)) else []
def settledL (ws : List (List Int)) (ms : List (Option Int)) (g : Nat) : List (List (Option Int)) := ms :: moreL ws ms g
def stageL (ws : List (List Int)) : Nat → List (List (Option Int))
  | 0 => [List.replicate ws.length none]
  | g + 1 => (stageL ws g).flatMap fun ms => settledL ws ms g
def allTwos (ws : List (List Int)) : List (List (Option Int)) := stageL ws ws.length
def allCalm (ws : List (List Int)) : List (List (Option Int)) := (allTwos ws).filter fun ms => (wildAll ws ms).isEmpty

theorem mt_none (n : Nat) (i : Int) : mt (List.replicate n none) i = none := by
  unfold mt
  rw [List.getD_eq_getElem?_getD, List.getElem?_replicate]
  split <;> rfl
theorem mt_set {ms : List (Option Int)} {k : Nat} {v : Option Int} {i : Int} (hk : k < ms.length) : mt (ms.set k v) i = if i.toNat = k then v else mt ms i := by
  unfold mt
  rw [List.getD_eq_getElem?_getD, List.getD_eq_getElem?_getD, List.getElem?_set]
  by_cases c : k = i.toNat
  · rw [if_pos c, if_pos c.symm, if_pos hk]; rfl
  · rw [if_neg c, if_neg (fun z => c z.symm)]

theorem OkMates.put {ws : List (List Int)} {ms : List (Option Int)} (o : OkMates ws ms) {g m : Int} (g0 : 0 ≤ g) (g1 : g < (ws.length : Int)) (m0 : 0 ≤ m) (m1 : m < (ws.length : Int)) (ne : m ≠ g)
    (hg : mt ms g = none) (hm : mt ms m = none) (hs : suitsB ws g m = true) : OkMates ws ((ms.set g.toNat (some m)).set m.toNat (some g)) := by
  have hl := o.len
  refine ⟨by rw [List.length_set, List.length_set]; exact hl, fun i k i0 i1 h => ?_⟩
  have h1 : m.toNat < (ms.set g.toNat (some m)).length := by rw [List.length_set]; omega
  have h2 : g.toNat < ms.length := by omega
  rw [mt_set h1, mt_set h2] at h
  by_cases c1 : i.toNat = m.toNat
  · rw [if_pos c1] at h
    cases h
    have e : i = m := by omega
    subst e
    refine ⟨g0, g1, ?_, by rw [suitsB_comm]; exact hs⟩
    rw [mt_set h1, mt_set h2, if_neg (by omega), if_pos rfl]
  · rw [if_neg c1] at h
    by_cases c2 : i.toNat = g.toNat
    · rw [if_pos c2] at h
      cases h
      have e : i = g := by omega
      subst e
      refine ⟨m0, m1, ?_, hs⟩
      rw [mt_set h1, if_pos rfl]
    · rw [if_neg c2] at h
      obtain ⟨p0, p1, p2, p3⟩ := o.pr i k i0 i1 h
      refine ⟨p0, p1, ?_, p3⟩
      have n1 : ¬ k.toNat = m.toNat := fun z => by
        have e : k = m := by omega
        rw [e, hm] at p2
        cases p2
      have n2 : ¬ k.toNat = g.toNat := fun z => by
        have e : k = g := by omega
        rw [e, hg] at p2
        cases p2
      rw [mt_set h1, mt_set h2, if_neg n1, if_neg n2]
      exact p2

theorem ixN_of {n : Nat} {i : Int} (h0 : 0 ≤ i) (h1 : i < (n : Int)) : ixN n i = some i.toNat := by
  unfold ixN
  rw [if_pos h0, if_pos h1]
theorem flat_nones : ∀ n : Nat, (List.replicate n [V.non]).flatten = (List.replicate n (none : Option Int)).map ov
  | 0 => rfl
  | n + 1 => by
    rw [List.replicate_succ, List.flatten_cons, flat_nones n, List.replicate_succ]
    rfl

theorem joins_ok {ws : List (List Int)} {ms : List (Option Int)} (o : OkMates ws ms) {g : Nat} (hn : mt ms (g : Int) = none) (hg : g < ws.length) : ∀ t, g + 1 + t ≤ ws.length → ∀ m ∈ joinsL ws ms g t, OkMates ws m
  | 0, _, m, h => by cases h
  | t + 1, ht, m, h => by
    unfold joinsL at h
    rcases List.mem_append.mp h with h | h
    · exact joins_ok o hn hg t (by omega) m h
    · split at h
      · rename_i c
        rw [List.mem_singleton] at h
        rw [h]
        exact o.put (by omega) (by omega) (by omega) (by omega) (by omega) hn c.1 c.2
      · cases h
theorem joins_le (ws : List (List Int)) (ms : List (Option Int)) (g : Nat) : ∀ t, (joinsL ws ms g t).length ≤ t
  | 0 => Nat.le_refl _
  | t + 1 => by
    have := joins_le ws ms g t
    unfold joinsL
    rw [List.length_append]
    split
    · rw [List.length_singleton]; omega
    · rw [List.length_nil]; omega
theorem settled_ok {ws : List (List Int)} {ms : List (Option Int)} (o : OkMates ws ms) {g : Nat} (hg : g < ws.length) : ∀ m ∈ settledL ws ms g, OkMates ws m := by
  intro m h
  unfold settledL at h
  rcases List.mem_cons.mp h with h | h
  · rw [h]; exact o
  · unfold moreL at h
    split at h
    · rename_i c
      exact joins_ok o c hg _ (by omega) m h
    · cases h
theorem settled_le {ws : List (List Int)} {ms : List (Option Int)} {g : Nat} (hg : g < ws.length) : (settledL ws ms g).length ≤ ws.length := by
  unfold settledL moreL
  rw [List.length_cons]
  split
  · have := joins_le ws ms g (ws.length - (g + 1)); omega
  · rw [List.length_nil]; omega
theorem stage_ok (ws : List (List Int)) : ∀ g, g ≤ ws.length → ∀ m ∈ stageL ws g, OkMates ws m
  | 0, _, m, h => by
    unfold stageL at h
    rw [List.mem_singleton] at h
    rw [h]
    exact ⟨List.length_replicate, fun i k _ _ h => by rw [mt_none] at h; cases h⟩
  | g + 1, hg, m, h => by
    unfold stageL at h
    obtain ⟨a, ha, hm⟩ := List.mem_flatMap.mp h
    exact settled_ok (stage_ok ws g (by omega) a ha) (by omega) m hm
theorem flatMap_le {α β : Type} (f : α → List β) (k : Nat) : ∀ l : List α, (∀ a ∈ l, (f a).length ≤ k) → (l.flatMap f).length ≤ l.length * k
  | [], _ => Nat.zero_le _
  | a :: l, h => by
    have h1 := h a (List.mem_cons_self ..)
    have h2 := flatMap_le f k l fun b hb => h b (List.mem_cons_of_mem _ hb)
    rw [List.flatMap_cons, List.length_append, List.length_cons, Nat.succ_mul]
    omega
theorem stage_le (ws : List (List Int)) (h6 : ws.length ≤ 6) : ∀ g, g ≤ ws.length → (stageL ws g).length ≤ 6 ^ g
  | 0, _ => Nat.le_refl _
  | g + 1, hg => by
    have h1 := stage_le ws h6 g (by omega)
    have h2 := flatMap_le (fun ms => settledL ws ms g) 6 (stageL ws g) fun a _ => Nat.le_trans (settled_le (by omega)) h6
    unfold stageL
    rw [Nat.pow_succ]
    exact Nat.le_trans h2 (Nat.mul_le_mul_right 6 h1)
theorem stage_small (ws : List (List Int)) (h6 : ws.length ≤ 6) (g : Nat) (hg : g ≤ ws.length) : (stageL ws g).length ≤ 46656 :=
  Nat.le_trans (stage_le ws h6 g hg) (Nat.le_trans (Nat.pow_le_pow_right (by decide) (Nat.le_trans hg h6)) (by decide))

/-- mates as an object -/
def fm (ms : List (Option Int)) : HO := .lst (ms.map ov)

theorem built_put {α : Type} {f : α → HO} {H H1 : Hp} {D b : Addr} {vss : List α} {r : α} (hD : H D = none) (B : BuiltF f H D vss H1) (hb : H1 b = some (f r)) (nb : b ≠ D) (h0 : H b = none) :
    ∃ acc, H1 D = some (.lst acc) ∧ acc.length = vss.length ∧ BuiltF f H D (vss ++ [r]) (upd H1 D (.lst (acc ++ [.ref b]))) := by
  obtain ⟨s, as, h1, h2, h3⟩ := B
  refine ⟨_, h1, by rw [List.length_map]; exact h2, same_put s hD _, as ++ [b], ?_, ?_, fun i q hq => ?_⟩
  · rw [upd_same, List.map_append]
    rfl
  · rw [List.length_append, List.length_append, h2]
    rfl
  · rw [List.getElem?_append] at hq
    rw [List.getElem?_append]
    by_cases c : i < vss.length
    · rw [if_pos c] at hq
      rw [if_pos (by rw [h2]; exact c)]
      obtain ⟨b, b1, b2, b3, b4⟩ := h3 i q hq
      exact ⟨b, b1, by rw [upd_ne b3]; exact b2, b3, b4⟩
    · rw [if_neg c] at hq
      rw [if_neg (by rw [h2]; exact c)]
      have i0 : i - vss.length = 0 := by
        have := (List.getElem?_eq_some_iff.mp hq).1
        simp at this
        omega
      rw [i0] at hq
      cases hq
      rw [h2, i0]
      exact ⟨b, rfl, by rw [upd_ne nb]; exact hb, nb, h0⟩

theorem BuiltF.on {α : Type} {f : α → HO} {H H1 H2 : Hp} {D : Addr} {vss : List α} (B : BuiltF f H D vss H1) (e : Same H1 H2) : BuiltF f H D vss H2 := by
  obtain ⟨s, as, h1, h2, h3⟩ := B
  refine ⟨s.trans e, as, e _ _ h1, h2, fun i r hr => ?_⟩
  obtain ⟨b, b1, b2, b3, b4⟩ := h3 i r hr
  exact ⟨b, b1, e _ _ b2, b3, b4⟩

theorem BuiltF.back {α : Type} {f : α → HO} {H0 H H1 : Hp} {D : Addr} {vss : List α} (s : Same H0 H) (B : BuiltF f H D vss H1) : BuiltF f H0 D vss H1 := by
  obtain ⟨e, as, h1, h2, h3⟩ := B
  refine ⟨s.trans e, as, h1, h2, fun i r hr => ?_⟩
  obtain ⟨b, b1, b2, b3, b4⟩ := h3 i r hr
  exact ⟨b, b1, b2, b3, s.free b4⟩

theorem big_line {n : Nat} (h : n ≤ 1000000) : n < sizeLine := by
  unfold sizeLine
  omega
theorem pi_lst {X : Cx} {K : PySem.W.Frag} (h : X.K = K) {tg l : Expr} {tl : TE} (e : PE X l tl) : PI X tg l (iList K tl) := by
  subst h
  exact pi_list e
theorem eq_dat {X : Cx} {K : PySem.W.Frag} (h : X.K = K) (hu : X.A.units + 64 < cLine) : OpR X (compareOp .Eq) (rEqD K) := by
  subst h
  exact op_eqD hu
end B2

namespace B2
open PySem L2

/-! ### All calm mates leave the same guests alone: the mathematics -/
theorem nodup_le : ∀ (n : Nat) (r : List Int), r.Nodup → (∀ x ∈ r, 0 ≤ x ∧ x < (n : Int)) → r.length ≤ n
  | 0, r, _, h => by
    cases r with
    | nil => exact Nat.le_refl _
    | cons x r =>
      have := h x (List.mem_cons_self ..)
      omega
  | n + 1, r, nd, h => by
    have h1 := nodup_le n (r.filter fun x => decide ¬((x == (n : Int)) = true)) (nd.sublist List.filter_sublist) (fun x hx => by
      obtain ⟨a, b⟩ := List.mem_filter.mp hx
      have := h x a
      have c : ¬ (x == (n : Int)) = true := of_decide_eq_true b
      have d : x ≠ (n : Int) := fun z => c (by rw [z]; exact beq_self_eq_true _)
      omega)
    have h2 := List.length_eq_countP_add_countP (fun x : Int => x == (n : Int)) (l := r)
    have h3 : r.countP (fun x : Int => x == (n : Int)) ≤ 1 := List.nodup_iff_count.mp nd (n : Int)
    rw [List.countP_eq_length_filter (p := fun a => decide ¬((a == (n : Int)) = true))] at h2
    omega

theorem wildIn_nil {ws : List (List Int)} {ms : List (Option Int)} {i : Nat} : ∀ {t : Nat}, wildIn ws ms i t = [] → ∀ k, k < t → wild ws ms (i : Int) ((i : Int) + 1 + (k : Int)) = false
  | 0, _, k, hk => by omega
  | t + 1, h, k, hk => by
    unfold wildIn at h
    rw [List.append_eq_nil_iff] at h
    by_cases c : k < t
    · exact wildIn_nil h.1 k c
    · have e : k = t := by omega
      subst e
      cases z : wild ws ms (i : Int) ((i : Int) + 1 + (k : Int)) with
      | false => rfl
      | true =>
        have h2 := h.2
        rw [z] at h2
        cases h2
theorem wildUp_nil {ws : List (List Int)} {ms : List (Option Int)} {n : Nat} : ∀ {k : Nat}, wildUp ws ms n k = [] → ∀ i, i < k → wildIn ws ms i (n - (i + 1)) = []
  | 0, _, i, hi => by omega
  | k + 1, h, i, hi => by
    unfold wildUp at h
    rw [List.append_eq_nil_iff] at h
    by_cases c : i < k
    · exact wildUp_nil h.1 i c
    · have e : i = k := by omega
      subst e
      exact h.2

/-- no two different guests would rather have each other -/
def Calm (ws : List (List Int)) (ms : List (Option Int)) : Prop := ∀ i j : Int, 0 ≤ i → i < (ws.length : Int) → 0 ≤ j → j < (ws.length : Int) → i ≠ j → wild ws ms i j = false
theorem wild_comm (ws : List (List Int)) (ms : List (Option Int)) (i j : Int) : wild ws ms i j = wild ws ms j i := Bool.and_comm _ _
theorem calm_of {ws : List (List Int)} {ms : List (Option Int)} (h : (wildAll ws ms).isEmpty = true) : Calm ws ms := by
  have h0 : wildUp ws ms ws.length ws.length = [] := List.isEmpty_iff.mp h
  have key : ∀ i j : Int, 0 ≤ i → i < j → j < (ws.length : Int) → wild ws ms i j = false := fun i j i0 ij j1 => by
    have h1 := wildUp_nil h0 i.toNat (by omega)
    have h2 := wildIn_nil h1 (j - i - 1).toNat (by omega)
    have e1 : ((i.toNat : Nat) : Int) = i := by omega
    have e2 : ((i.toNat : Nat) : Int) + 1 + (((j - i - 1).toNat : Nat) : Int) = j := by omega
    rw [e2, e1] at h2
    exact h2
  intro i j i0 i1 j0 j1 ne
  by_cases c : i < j
  · exact key i j i0 c j1
  · rw [wild_comm]
    exact key j i j0 (by omega) i1

theorem ahead_total {ws : List (List Int)} {g a b : Int} (ha : suitsB ws g a = true) (hb : suitsB ws g b = true) (ne : a ≠ b) (h : aheadB ws g (some a) (some b) = false) : aheadB ws g (some b) (some a) = true := by
  have e1 : aheadB ws g (some a) (some b) = if a = b then false else if suitsB ws g a = true then (if suitsB ws g b = true then decide ((rowOf ws g).idxOf a < (rowOf ws g).idxOf b) else true) else false := rfl
  have e2 : aheadB ws g (some b) (some a) = if b = a then false else if suitsB ws g b = true then (if suitsB ws g a = true then decide ((rowOf ws g).idxOf b < (rowOf ws g).idxOf a) else true) else false := rfl
  rw [e1, if_neg ne, if_pos ha, if_pos hb] at h
  rw [e2, if_neg (fun z => ne z.symm), if_pos hb, if_pos ha]
  have h' : ¬ (rowOf ws g).idxOf a < (rowOf ws g).idxOf b := of_decide_eq_false h
  apply decide_eq_true
  have h3 := (suitsB_mem ha).1
  have h4 := (suitsB_mem hb).1
  have h5 : (rowOf ws g).idxOf a ≠ (rowOf ws g).idxOf b := fun z => by
    have p1 := (index_at a (rowOf ws g) h3).1
    have p2 := (index_at b (rowOf ws g) h4).1
    rw [z, p2] at p1
    cases p1
    exact ne rfl
  omega

theorem ahead_same (ws : List (List Int)) (g : Int) (x : Option Int) : aheadB ws g x x = false := by
  cases x with
  | none => rfl
  | some a =>
    show (if a = a then false else _) = false
    rw [if_pos rfl]

section
variable {ws : List (List Int)} {M : Bool → List (Option Int)}

/-- where the walk stands: a guest who would rather have its mate by p than that by the other -/
structure On (ws : List (List Int)) (M : Bool → List (Option Int)) (s : Int × Bool) : Prop where
  lo : 0 ≤ s.1
  hi : s.1 < (ws.length : Int)
  is : ∃ u, mt (M s.2) s.1 = some u
  ra : aheadB ws s.1 (mt (M s.2) s.1) (mt (M (!s.2)) s.1) = true

def goOn (M : Bool → List (Option Int)) (s : Int × Bool) : Int × Bool := ((mt (M s.2) s.1).getD 0, !s.2)

theorem on_go (hG : Good ws) (hO : ∀ p, OkMates ws (M p)) (hC : ∀ p, Calm ws (M p)) {s : Int × Bool} (h : On ws M s) : On ws M (goOn M s) := by
  obtain ⟨v, p⟩ := s
  obtain ⟨v0, v1, ⟨u, hu⟩, ra⟩ := h
  simp only at v0 v1 hu ra
  obtain ⟨u0, u1, hv, su⟩ := (hO p).pr v u v0 v1 hu
  have su' : suitsB ws u v = true := by rw [suitsB_comm]; exact su
  have e : goOn M (v, p) = (u, !p) := by unfold goOn; simp only [hu]; rfl
  rw [e]
  have nvu : v ≠ u := fun z => by
    subst z
    rw [suitsB_self hG v0 v1] at su
    cases su
  have hw := hC (!p) v u v0 v1 u0 u1 nvu
  unfold wild at hw
  rw [hu] at ra
  rw [ra, Bool.true_and] at hw
  cases hq : mt (M (!p)) u with
  | none =>
    rw [hq] at hw
    have : aheadB ws u (some v) none = suitsB ws u v := rfl
    rw [this, su'] at hw
    cases hw
  | some w =>
    rw [hq] at hw
    obtain ⟨w0, w1, hwu, sw⟩ := (hO (!p)).pr u w u0 u1 hq
    have nwv : v ≠ w := fun z => by
      subst z
      rw [hwu] at ra
      rw [ahead_same] at ra
      cases ra
    refine ⟨u0, u1, ⟨w, hq⟩, ?_⟩
    show aheadB ws u (mt (M (!p)) u) (mt (M (!!p)) u) = true
    rw [Bool.not_not, hq, hv]
    exact ahead_total su' sw nwv hw

theorem go_inj (hO : ∀ p, OkMates ws (M p)) {s t : Int × Bool} (hs : On ws M s) (ht : On ws M t) (e : goOn M s = goOn M t) : s = t := by
  obtain ⟨v, p⟩ := s
  obtain ⟨v', p'⟩ := t
  obtain ⟨v0, v1, ⟨u, hu⟩, _⟩ := hs
  obtain ⟨w0, w1, ⟨u', hu'⟩, _⟩ := ht
  simp only at v0 v1 hu w0 w1 hu'
  unfold goOn at e
  simp only [hu, hu', Option.getD_some, Prod.mk.injEq] at e
  obtain ⟨e1, e2⟩ := e
  have e3 : p = p' := by cases p <;> cases p' <;> first | rfl | cases e2
  subst e3
  subst e1
  have a := ((hO p).pr v u v0 v1 hu).2.2.1
  have b := ((hO p).pr v' u w0 w1 hu').2.2.1
  rw [a] at b
  cases b
  rfl

def walkOn (M : Bool → List (Option Int)) (a : Int) : Nat → Int × Bool
  | 0 => (a, false)
  | k + 1 => goOn M (walkOn M a k)

theorem walk_on (hG : Good ws) (hO : ∀ p, OkMates ws (M p)) (hC : ∀ p, Calm ws (M p)) {a : Int} (h0 : On ws M (a, false)) : ∀ k, On ws M (walkOn M a k)
  | 0 => h0
  | k + 1 => on_go hG hO hC (walk_on hG hO hC h0 k)

theorem walk_new (hG : Good ws) (hO : ∀ p, OkMates ws (M p)) (hC : ∀ p, Calm ws (M p)) {a : Int} (h0 : On ws M (a, false)) (hn : mt (M true) a = none) : ∀ i k, walkOn M a i ≠ walkOn M a (i + (k + 1))
  | 0, k => by
    intro e
    rw [Nat.zero_add] at e
    obtain ⟨v0, v1, ⟨u, hu⟩, _⟩ := walk_on hG hO hC h0 k
    generalize hs : walkOn M a k = s at v0 v1 hu
    obtain ⟨v, p⟩ := s
    simp only at v0 v1 hu
    have e' : (a, false) = goOn M (v, p) := by
      have : walkOn M a (k + 1) = goOn M (walkOn M a k) := rfl
      rw [this, hs] at e
      exact e
    unfold goOn at e'
    simp only [hu, Option.getD_some, Prod.mk.injEq] at e'
    obtain ⟨e1, e2⟩ := e'
    have hp : p = true := by cases p <;> first | rfl | cases e2
    subst hp
    subst e1
    have := ((hO true).pr v a v0 v1 hu).2.2.1
    rw [hn] at this
    cases this
  | i + 1, k => by
    intro e
    have e1 : i + 1 + (k + 1) = (i + (k + 1)) + 1 := by omega
    rw [e1] at e
    exact walk_new hG hO hC h0 hn i k (go_inj hO (walk_on hG hO hC h0 i) (walk_on hG hO hC h0 _) e)

theorem no_walk (hG : Good ws) (hO : ∀ p, OkMates ws (M p)) (hC : ∀ p, Calm ws (M p)) {a : Int} (h0 : On ws M (a, false)) (hn : mt (M true) a = none) : False := by
  let f : Nat → Int := fun k => 2 * (walkOn M a k).1 + (if (walkOn M a k).2 = true then 1 else 0)
  have finj : ∀ i j, i < j → f i ≠ f j := fun i j hij e => by
    have ne := walk_new hG hO hC h0 hn i (j - i - 1)
    have ej : i + (j - i - 1 + 1) = j := by omega
    rw [ej] at ne
    apply ne
    have e' : 2 * (walkOn M a i).1 + (if (walkOn M a i).2 = true then 1 else 0) = 2 * (walkOn M a j).1 + (if (walkOn M a j).2 = true then 1 else 0) := e
    generalize walkOn M a i = s at e'
    generalize walkOn M a j = t at e'
    obtain ⟨v, p⟩ := s
    obtain ⟨v', p'⟩ := t
    simp only at e'
    cases p <;> cases p' <;> simp at e' ⊢ <;> omega
  have nd : ((List.range (2 * ws.length + 1)).map f).Nodup := by
    unfold List.Nodup
    rw [List.pairwise_map]
    exact List.Pairwise.imp (fun {i j} h => finj i j h) List.pairwise_lt_range
  have := nodup_le (2 * ws.length) _ nd (fun x hx => by
    obtain ⟨k, _, rfl⟩ := List.mem_map.mp hx
    obtain ⟨v0, v1, _, _⟩ := walk_on hG hO hC h0 k
    show 0 ≤ 2 * (walkOn M a k).1 + _ ∧ 2 * (walkOn M a k).1 + _ < _
    split <;> omega)
  rw [List.length_map, List.length_range] at this
  omega
end

theorem alone_half {ws : List (List Int)} (hG : Good ws) {m1 m2 : List (Option Int)} (o1 : OkMates ws m1) (o2 : OkMates ws m2) (c1 : Calm ws m1) (c2 : Calm ws m2) {a : Int} (a0 : 0 ≤ a) (a1 : a < (ws.length : Int))
    (h : mt m2 a = none) : mt m1 a = none := by
  cases e : mt m1 a with
  | none => rfl
  | some b =>
    exfalso
    have hsu := (o1.pr a b a0 a1 e).2.2.2
    let M : Bool → List (Option Int) := fun p => if p = true then m2 else m1
    have hO : ∀ p, OkMates ws (M p) := fun p => by cases p; exact o1; exact o2
    have hC : ∀ p, Calm ws (M p) := fun p => by cases p; exact c1; exact c2
    refine no_walk (M := M) hG hO hC (a := a) ⟨a0, a1, ⟨b, e⟩, ?_⟩ h
    show aheadB ws a (mt m1 a) (mt m2 a) = true
    rw [e, h]
    exact hsu
/-- all calm mates leave the same guests alone -/
theorem same_alone {ws : List (List Int)} (hG : Good ws) {m1 m2 : List (Option Int)} (o1 : OkMates ws m1) (o2 : OkMates ws m2) (c1 : Calm ws m1) (c2 : Calm ws m2) {a : Int} (a0 : 0 ≤ a) (a1 : a < (ws.length : Int)) :
    (mt m1 a).isNone = (mt m2 a).isNone := by
  cases e1 : mt m1 a with
  | none => rw [alone_half hG o2 o1 c2 c1 a0 a1 e1]
  | some b =>
    cases e2 : mt m2 a with
    | none =>
      have := alone_half hG o1 o2 c1 c2 a0 a1 e2
      rw [e1] at this
      cases this
    | some c => rfl
end B2

namespace B2
open PySem L2
def top (i : Nat) : Stmt := PySem.Challenge.pw_bedtwos_k09_whole_same_alone.main.body.getD i (.Pass ⟨0, 0, 0, 0⟩)
abbrev s_is_guest : Stmt := top 5
abbrev s_need_row : Stmt := top 6
abbrev s_need_wishes : Stmt := top 7
abbrev s_in_both : Stmt := top 8
abbrev s_is_ahead : Stmt := top 9
abbrev s_restless_pairs : Stmt := top 11
abbrev s_joined : Stmt := top 12
abbrev s_settled : Stmt := top 13
abbrev s_all_twos : Stmt := top 14
abbrev s_all_calm : Stmt := top 15
abbrev s_cell_at : Stmt := top 17
abbrev s_row_by : Stmt := top 18
abbrev s_wishes_by : Stmt := top 19
abbrev s_whole : Stmt := top 20
abbrev s_lsuits : Stmt := top 21
abbrev s_lrather : Stmt := top 22
abbrev s_lrestless : Stmt := top 23
abbrev s_lmates : Stmt := top 24
abbrev s_turned : Stmt := top 25
abbrev s_law : Stmt := top 26
/-- the names of the machine's own -/
structure Own (mg : Str → Option Value) : Prop where
  len : mg "len" = none
  rng : mg "range" = none
  isI : mg "isinstance" = none
  int : mg "int" = none
  bool : mg "bool" = none
  list : mg "list" = none
  set : mg "set" = none
  enm : mg "enumerate" = none
  min : mg "min" = none
end B2

namespace B2
open PySem L2

/-- what a caller wants of a def: it stands under its name, it keeps its promise -/
structure Cal (P : Program) (w : World) (K : PySem.W.Frag) (mg : Str → Option Value) (base : Heap) (k : Nat) (x : Str) (ps : List Str) (sp : Sp) : Prop where
  ex : ∃ (g : Addr) (gd : FuncData), FnOk P w K mg base CX0 k g gd ps sp ∧ mg x = some (.ref g) ∧ PySem.W.keepIn K (.ref g) = true ∧ Binds K gd ps []

theorem kit_ii {K : PySem.W.Frag} : PySem.W.kitOne K (.type "int") (.type "int") = some true := kit_ty (by decide +kernel)
theorem kit_ib {K : PySem.W.Frag} : PySem.W.kitOne K (.type "int") (.type "bool") = some false := kit_ty (by decide +kernel)
theorem kit_bb {K : PySem.W.Frag} : PySem.W.kitOne K (.type "bool") (.type "bool") = some true := kit_ty (by decide +kernel)
theorem kit_ll {K : PySem.W.Frag} : PySem.W.kitOne K (.type "list") (.type "list") = some true := kit_ty (by decide +kernel)
theorem ty_list {K : PySem.W.Frag} {H : Hp} {a : Addr} {xs : List V} (h : SqL K H a xs) : TyX K H (.ref a) (.type "list") := by
  rcases h with h | ⟨o, its, n, h, hc, _⟩
  · rcases h with h | ⟨o, h⟩
    · exact .base (.lst h)
    · exact .base (.frz h)
  · exact .kList h hc

section
variable {P : Program} {w : World} {K : PySem.W.Frag} {mg : Str → Option Value} {base : Heap}

/-! ### is_guest -/
theorem sc_is_guest : FnScope ["number", "many"] ["number", "many"] (defScope s_is_guest) := ⟨rfl, rfl, rfl, by decide +kernel, rfl, by decide +kernel, by decide +kernel⟩
def sp_is_guest : Sp := fun vs H Q _ => ∃ (i n : Int), vs = [.int i, .int n] ∧ Q (.bl (decide (0 ≤ i ∧ i < n))) H
theorem ok_is_guest {f : Addr} {fd : FuncData} (F : Fun K "is_guest" "is_guest" s_is_guest f fd) (T : Own mg) : FnOk P w K mg base CX0 1 f fd ["number", "many"] sp_is_guest := by
  refine F.ok sc_is_guest (fun vs H Q E h => ?_) (fun cdv A outer s H vs Q E hr h => ?_)
  · obtain ⟨i, n, rfl, _⟩ := h
    rfl
  obtain ⟨i, n, rfl, q⟩ := h
  refine ⟨_, pss_cons (ps_if (PW.pt (pw_or (pt_not (pt_val (pe_callB call_isi (by rfl) T.isI (by decide +kernel) (pa_cons (pv 0) (pa_cons (pe_bltn (v := .ty "int") (by rfl) T.int (by decide +kernel) rfl) pa_nil)))))
      (pw_or1 (pt_val (pe_callB call_isi (by rfl) T.isI (by decide +kernel) (pa_cons (pv 0) (pa_cons (pe_bltn (v := .ty "bool") (by rfl) T.bool (by decide +kernel) rfl) pa_nil))))))) (pss_one (ps_ret pe_bl)) pss_nil)
    (pss_one (ps_ret (pe_chain op_le op_lt pe_int (pv 0) (pv 1)))), ?_⟩
  refine ⟨_, rfl, _, _, _, _, _, rfl, .ty _, .base (.int i), kit_ii, _, rfl, iteF ⟨_, rfl, _, _, _, _, _, rfl, .ty _, .base (.int i), kit_ib, _, rfl, iteF ⟨_, rfl, _, _, rfl, rfl, _, rfl, ?_⟩⟩⟩
  refine ite2 (fun c => ?_) (fun c => ?_)
  · have c' : (0 : Int) ≤ i := of_decide_eq_true c
    refine ⟨_, rfl, _, _, rfl, rfl, ?_⟩
    have e : decide (i < n) = decide (0 ≤ i ∧ i < n) := by
      by_cases h : i < n
      · rw [decide_eq_true h, decide_eq_true ⟨c', h⟩]
      · rw [decide_eq_false h, decide_eq_false (fun z => h z.2)]
    show Q (.bl (decide (i < n))) H
    rw [e]; exact q
  · have c' : ¬ (0 : Int) ≤ i := of_decide_eq_false (Bool.eq_false_iff.mpr c)
    have e : decide (0 ≤ i ∧ i < n) = false := decide_eq_false (fun z => c' z.1)
    rw [e] at q; exact q
end
end B2

namespace B2
open PySem L2
section
variable {P : Program} {w : World} {K : PySem.W.Frag} {mg : Str → Option Value} {base : Heap}

/-! ### in_both -/
theorem sc_in_both : FnScope ["wishes", "one", "other"] ["wishes", "one", "other"] (defScope s_in_both) := ⟨rfl, rfl, rfl, by decide +kernel, rfl, by decide +kernel, by decide +kernel⟩
def sp_in_both (K : PySem.W.Frag) : Sp := fun vs H Q _ => ∃ (a : Addr) (ws : List (List Int)) (i j : Int), vs = [.ref a, .int i, .int j] ∧ Tab K H a ws ∧
  0 ≤ i ∧ i < (ws.length : Int) ∧ 0 ≤ j ∧ j < (ws.length : Int) ∧ Q (.bl (suitsB ws i j)) H
theorem ok_in_both {f : Addr} {fd : FuncData} (F : Fun K "in_both" "in_both" s_in_both f fd) : FnOk P w K mg base CX0 1 f fd ["wishes", "one", "other"] (sp_in_both K) := by
  refine F.ok sc_in_both (fun vs H Q E h => ?_) (fun cdv A outer s H vs Q E hr h => ?_)
  · obtain ⟨a, ws, i, j, rfl, _⟩ := h
    rfl
  obtain ⟨a, ws, i, j, rfl, hT, i0, i1, j0, j1, q⟩ := h
  refine ⟨_, pss_one (ps_ret (pe_and (pe_cmpR op_in_seq (pv 2) (pe_ix ix_list (pv 0) (pv 1) (fun _ _ => rfl)) (by rfl))
    (pe_one (pe_cmpR op_in_seq (pv 1) (pe_ix ix_list (pv 0) (pv 2) (fun _ _ => rfl)) (by rfl))))), ?_⟩
  obtain ⟨as, h1, h2, h3⟩ := hT.at
  obtain ⟨bi, hbi, hsi⟩ := h3 i i0 i1
  obtain ⟨bj, hbj, hsj⟩ := h3 j j0 j1
  refine ⟨_, rfl, _, rfl, _, rfl, a, _, _, _, rfl, rfl, h1, hbi, bi, _, rfl, .inl hsi, rfl, flat_ints _, _, rfl, ?_⟩
  show if inV (.int j) ((rowOf ws i).map V.int) = true then _ else _
  rw [inV_int]
  refine ite2 (fun c => ?_) (fun c => ?_)
  · refine ⟨_, rfl, _, rfl, _, rfl, a, _, _, _, rfl, rfl, h1, hbj, bj, _, rfl, .inl hsj, rfl, flat_ints _, ?_⟩
    show Q (.bl (inV (.int i) ((rowOf ws j).map V.int))) H
    rw [inV_int]
    have e : suitsB ws i j = decide (i ∈ rowOf ws j) := by unfold suitsB; rw [c, Bool.true_and]
    rw [← e]; exact q
  · have e : suitsB ws i j = false := by unfold suitsB; rw [Bool.eq_false_iff.mpr c, Bool.false_and]
    rw [e] at q; exact q

/-! ### is_ahead -/
theorem sc_is_ahead : FnScope ["wishes", "guest", "one", "other", "row"] ["wishes", "guest", "one", "other"] (defScope s_is_ahead) := ⟨rfl, rfl, rfl, by decide +kernel, rfl, by decide +kernel, by decide +kernel⟩
def sp_is_ahead (K : PySem.W.Frag) : Sp := fun vs H Q _ => ∃ (a : Addr) (ws : List (List Int)) (g : Int) (x y : Option Int), vs = [.ref a, .int g, ov x, ov y] ∧ Tab K H a ws ∧
  0 ≤ g ∧ g < (ws.length : Int) ∧ OkO ws.length x ∧ OkO ws.length y ∧ Q (.bl (aheadB ws g x y)) H
theorem ok_is_ahead {f : Addr} {fd : FuncData} (F : Fun K "is_ahead" "is_ahead" s_is_ahead f fd) (C1 : Cal P w K mg base 1 "in_both" ["wishes", "one", "other"] (sp_in_both K)) :
    FnOk P w K mg base CX0 2 f fd ["wishes", "guest", "one", "other"] (sp_is_ahead K) := by
  obtain ⟨g1, gd1, G1, m1, k1, b1⟩ := C1
  refine F.ok sc_is_ahead (fun vs H Q E h => ?_) (fun cdv A outer s H vs Q E hr h => ?_)
  · obtain ⟨a, ws, g, x, y, rfl, _⟩ := h
    rfl
  obtain ⟨a, ws, g, x, y, rfl, hT, g0, g1, hx, hy, q⟩ := h
  refine ⟨_, pss_cons (ps_if (PW.pt (pw_or (pt_cmpR op_eq (pv 2) (pv 3) (nomark _)) (pw_or (pt_cmpR op_isN (pv 2) pe_non (nomark _))
      (pw_or1 (pt_not (pt_val (pe_call G1 hr (by rfl) m1 k1 b1 .nil pass0 (pa_cons (pv 0) (pa_cons (pv 1) (pa_cons (pv 2) pa_nil))))))))))
      (pss_one (ps_ret pe_bl)) pss_nil)
    (pss_cons (ps_if (PW.pt (pw_or (pt_cmpR op_isN (pv 3) pe_non (nomark _))
      (pw_or1 (pt_not (pt_val (pe_call G1 hr (by rfl) m1 k1 b1 .nil pass0 (pa_cons (pv 0) (pa_cons (pv 1) (pa_cons (pv 3) pa_nil)))))))))
      (pss_one (ps_ret pe_bl)) pss_nil)
    (pss_cons (ps_set (i := 4) sc_is_ahead.nd rfl (Or.inl rfl) (pe_ix ix_list (pv 0) (pv 1) (fun _ _ => rfl)))
    (pss_one (ps_ret (pe_cmpR op_lt
      (pe_bm PySem.F.plainAttrs_list PySem.F.slot_list_index PySem.F.type_list_index mt_index (pv 4) (pa_cons (pv 2) pa_nil))
      (pe_bm PySem.F.plainAttrs_list PySem.F.slot_list_index PySem.F.type_list_index mt_index (pv 4) (pa_cons (pv 3) pa_nil)) (nomark _)))))), ?_⟩
  refine ⟨_, rfl, _, rfl, (by cases x <;> cases y <;> rfl), _, rfl, ?_⟩
  rw [ov_dec]
  refine ite2 (fun c => ?_) (fun c => ?_)
  · have c' : x = y := of_decide_eq_true c
    subst c'
    have e : aheadB ws g x x = false := by
      cases x with
      | none => rfl
      | some a =>
        show (if a = a then false else _) = false
        rw [if_pos rfl]
    rw [e] at q; exact q
  have c' : ¬ x = y := of_decide_eq_false (Bool.eq_false_iff.mpr c)
  refine ⟨_, rfl, rfl, _, rfl, ?_⟩
  cases x with
  | none => exact iteT q
  | some x =>
  refine iteF ?_
  refine ⟨_, rfl, _, rfl, _, rfl, a, ws, g, x, rfl, hT, g0, g1, hx.1, hx.2, _, rfl, ?_⟩
  cases e1 : suitsB ws g x with
  | false =>
    refine iteT ?_
    have e : aheadB ws g (some x) y = false := by
      cases y with
      | none => exact e1
      | some y =>
        show (if x = y then false else _) = false
        rw [if_neg (fun z => c' (congrArg some z)), e1]
        rfl
    rw [e] at q; exact q
  | true =>
  refine iteF ?_
  refine ⟨_, rfl, rfl, _, rfl, ?_⟩
  cases y with
  | none =>
    have e : aheadB ws g (some x) none = true := e1
    rw [e] at q
    exact iteT q
  | some y =>
  refine iteF ?_
  refine ⟨_, rfl, _, rfl, _, rfl, a, ws, g, y, rfl, hT, g0, g1, hy.1, hy.2, _, rfl, ?_⟩
  have e0 : aheadB ws g (some x) (some y) = if suitsB ws g y = true then decide ((rowOf ws g).idxOf x < (rowOf ws g).idxOf y) else true := by
    show (if x = y then false else _) = _
    rw [if_neg (fun z => c' (congrArg some z)), if_pos e1]
  rw [e0] at q
  cases e2 : suitsB ws g y with
  | false =>
    rw [e2] at q
    exact iteT q
  | true =>
  rw [e2, if_pos rfl] at q
  refine iteF ?_
  obtain ⟨as, h1, h2, h3⟩ := hT.at
  obtain ⟨b, hb, hs⟩ := h3 g g0 g1
  obtain ⟨p1, p2⟩ := index_at x (rowOf ws g) (suitsB_mem e1).1
  obtain ⟨r1, r2⟩ := index_at y (rowOf ws g) (suitsB_mem e2).1
  refine ⟨_, rfl, _, rfl, a, _, _, _, rfl, rfl, h1, hb, ?_⟩
  refine ⟨_, rfl, .inl ⟨rfl, _, hs⟩, _, rfl, b, _, _, _, _, rfl, rfl, hs, rfl, flat_ints _, p1, (by show (x == x) = true; exact beq_self_eq_true x), p2, ?_⟩
  refine ⟨_, rfl, .inl ⟨rfl, _, hs⟩, _, rfl, b, _, _, _, _, rfl, rfl, hs, rfl, flat_ints _, r1, (by show (y == y) = true; exact beq_self_eq_true y), r2, ?_⟩
  refine ⟨_, _, rfl, rfl, ?_⟩
  have e3 : decide ((((rowOf ws g).idxOf x : Nat) : Int) < (((rowOf ws g).idxOf y : Nat) : Int)) = decide ((rowOf ws g).idxOf x < (rowOf ws g).idxOf y) := by
    by_cases z : (rowOf ws g).idxOf x < (rowOf ws g).idxOf y
    · rw [decide_eq_true z, decide_eq_true (by omega)]
    · rw [decide_eq_false z, decide_eq_false (by omega)]
  show Q (.bl (decide ((((rowOf ws g).idxOf x : Nat) : Int) < (((rowOf ws g).idxOf y : Nat) : Int)))) H
  rw [e3]; exact q
end
end B2

namespace B2
open PySem L2
section
variable {P : Program} {w : World} {K : PySem.W.Frag} {mg : Str → Option Value} {base : Heap}

/-! ### need_row -/
theorem sc_need_row : FnScope ["row", "guest", "many", "wish"] ["row", "guest", "many"] (defScope s_need_row) := ⟨rfl, rfl, rfl, by decide +kernel, rfl, by decide +kernel, by decide +kernel⟩
def sp_need_row (K : PySem.W.Frag) : Sp := fun vs H Q _ => ∃ (b : Addr) (g : Int) (n : Nat) (r : List Int), vs = [.ref b, .int g, .int n] ∧ SqL K H b (r.map V.int) ∧ GoodRow n g r ∧ Q .non H
theorem ok_need_row {f : Addr} {fd : FuncData} (F : Fun K "need_row" "need_row" s_need_row f fd) (T : Own mg) (C1 : Cal P w K mg base 1 "is_guest" ["number", "many"] sp_is_guest) :
    FnOk P w K mg base CX0 2 f fd ["row", "guest", "many"] (sp_need_row K) := by
  obtain ⟨g1, gd1, G1, m1, k1, b1⟩ := C1
  refine F.ok sc_need_row (fun vs H Q E h => ?_) (fun cdv A outer s H vs Q E hr h => ?_)
  · obtain ⟨b, g, n, r, rfl, _⟩ := h
    rfl
  obtain ⟨b, g, n, r, rfl, hS, hG, q⟩ := h
  refine ⟨_, pss_cons (ps_if (pt_not (pt_val (pe_callB call_isi (by rfl) T.isI (by decide +kernel) (pa_cons (pv 0) (pa_cons (pe_bltn (v := .ty "list") (by rfl) T.list (by decide +kernel) rfl) pa_nil)))))
      (pss_one ps_never) pss_nil)
    (pss_cons (ps_for PassesOwn.never rfl (pi_list (pv 0)) (pg_name (i := 3) sc_need_row.nd rfl (Or.inl rfl))
      (pss_one (ps_if (PW.pt (pw_or (pt_not (pt_val (pe_call G1 hr (by rfl) m1 k1 b1 .nil pass0 (pa_cons (pv 3) (pa_cons (pv 2) pa_nil)))))
        (pw_or1 (pt_cmpR op_eq (pv 3) (pv 1) (nomark _))))) (pss_one ps_never) pss_nil)))
    (pss_one (ps_if (pt_cmpR op_lt (RZ.pe_lenSetI (by rfl) T.len (by rfl) T.set (pv 0)) (pe_callB call_len_seq (by rfl) T.len PySem.boot_len (pa_cons (pv 0) pa_nil)) (nomark _))
      (pss_one ps_never) pss_nil))), ?_⟩
  refine ⟨_, rfl, _, _, _, _, _, rfl, .ty _, ty_list hS, kit_ll, _, rfl, iteF ?_⟩
  refine ⟨_, rfl, b, rfl, ⟨_, hS⟩, for_list (K := K) (a := b) (xs := r.map V.int) (fun i σ H' => H' = H ∧ ∃ z, σ = [some (.ref b), some (.int g), some (.int n), z])
    ⟨rfl, none, rfl⟩ (fun i σ H' _ h => by rw [h.1]; exact hS) ?_ ?_⟩
  · rintro i x σ H' hx ⟨rfl, z, rfl⟩
    rw [List.getElem?_map] at hx
    cases hy : r[i]? with
    | none => rw [hy] at hx; cases hx
    | some y =>
    rw [hy] at hx
    cases hx
    have hm : y ∈ r := List.mem_of_getElem? hy
    obtain ⟨y0, y1, y2⟩ := hG.rg y hm
    refine ⟨_, rfl, _, rfl, y, n, rfl, _, rfl, ?_⟩
    rw [decide_eq_true (And.intro y0 y1)]
    refine iteF ⟨_, rfl, _, rfl, rfl, _, rfl, ?_⟩
    have e : decide (V.int y = V.int g) = false := decide_eq_false (fun z => y2 (by cases z; rfl))
    rw [e]
    exact iteF ⟨rfl, _, rfl⟩
  · rintro σ H' ⟨rfl, z, rfl⟩
    have hl := hG.sm
    refine ⟨_, rfl, b, r, rfl, hS, hG.nd, by omega, _, rfl, b, _, rfl, .inl hS, _, _, rfl, rfl, _, rfl, ?_⟩
    have e : decide (((r.length : Nat) : Int) < (((r.map V.int).length : Nat) : Int)) = false := decide_eq_false (by rw [List.length_map]; omega)
    rw [e]
    exact iteF q

/-! ### need_wishes -/
theorem sc_need_wishes : FnScope ["wishes", "many", "guest", "row"] ["wishes"] (defScope s_need_wishes) := ⟨rfl, rfl, rfl, by decide +kernel, rfl, by decide +kernel, by decide +kernel⟩
def sp_need_wishes (K : PySem.W.Frag) : Sp := fun vs H Q _ => ∃ (a : Addr) (ws : List (List Int)), vs = [.ref a] ∧ Tab K H a ws ∧ Good ws ∧ ∀ H', Same H H' → Q .non H'
theorem ok_need_wishes {f : Addr} {fd : FuncData} (F : Fun K "need_wishes" "need_wishes" s_need_wishes f fd) (T : Own mg) (M : ∃ t, mg "MOST_GUESTS" = some (.int 6 t)) (C1 : Cal P w K mg base 2 "need_row" ["row", "guest", "many"] (sp_need_row K)) :
    FnOk P w K mg base CX0 3 f fd ["wishes"] (sp_need_wishes K) := by
  obtain ⟨g1, gd1, G1, m1, k1, b1⟩ := C1
  obtain ⟨t, mM⟩ := M
  refine F.ok sc_need_wishes (fun vs H Q E h => ?_) (fun cdv A outer s H vs Q E hr h => ?_)
  · obtain ⟨a, ws, rfl, _⟩ := h
    rfl
  obtain ⟨a, ws, rfl, hT, hG, q⟩ := h
  refine ⟨_, pss_cons (ps_if (pt_not (pt_val (pe_callB call_isi (by rfl) T.isI (by decide +kernel) (pa_cons (pv 0) (pa_cons (pe_bltn (v := .ty "list") (by rfl) T.list (by decide +kernel) rfl) pa_nil)))))
      (pss_one ps_never) pss_nil)
    (pss_cons (ps_set (i := 1) sc_need_wishes.nd rfl (Or.inl rfl) (pe_callB call_len_seq (by rfl) T.len PySem.boot_len (pa_cons (pv 0) pa_nil)))
    (pss_cons (ps_if (pt_not (pt_chain op_le op_le pe_int (pv 1) (pe_glob (v := .int 6) rfl mM ⟨_, rfl⟩))) (pss_one ps_never) pss_nil)
    (pss_one (ps_for PassesOwn.never rfl (pi_enum (by rfl) T.enm (pa_cons (pv 0) pa_nil))
      (pg_tup (by rfl) (pgs_cons (pg_name (i := 2) sc_need_wishes.nd rfl (Or.inl rfl)) (pgs_cons (pg_name (i := 3) sc_need_wishes.nd rfl (Or.inl rfl)) pgs_nil)))
      (pss_one (ps_expr (pe_call G1 hr (by rfl) m1 k1 b1 .nil pass0 (pa_cons (pv 3) (pa_cons (pv 2) (pa_cons (pv 1) pa_nil)))))))))), ?_⟩
  obtain ⟨as, h1, h2, h3⟩ := id hT
  have hl : (as.map V.ref).length = ws.length := by rw [List.length_map]; exact h2
  have lo := hG.lo
  have hi := hG.hi
  refine ⟨_, rfl, _, _, _, _, _, rfl, .ty _, ty_list h1, kit_ll, _, rfl, iteF ?_⟩
  refine ⟨_, rfl, a, _, rfl, .inl h1, ?_⟩
  rw [hl]
  refine ⟨_, rfl, _, _, rfl, rfl, _, rfl, ?_⟩
  rw [decide_eq_true (show (1 : Int) ≤ ((ws.length : Nat) : Int) by omega)]
  refine iteT ⟨_, _, rfl, rfl, _, rfl, ?_⟩
  rw [decide_eq_true (show ((ws.length : Nat) : Int) ≤ 6 by omega)]
  refine iteF ?_
  refine ⟨_, rfl, a, _, rfl, h1, for_it walk_enum (fun i σ H' => Same H H' ∧ ∃ y z, σ = [some (.ref a), some (.int ws.length), y, z])
    ⟨Same.refl H, none, none, rfl⟩ (fun i σ H' _ h => h.1.seq h1) ?_ ?_⟩
  · rintro i x σ H' H2 hi' ⟨hs, y, z, rfl⟩ ⟨t, x1, x2, rfl, ht, rfl, ex1, ex2⟩
    rw [hl] at hi'
    cases ex1
    obtain ⟨b, hb, hsb⟩ := h3 i ws[i] (List.getElem?_eq_getElem hi')
    change (as.map V.ref)[i]? = some x2 at ex2
    rw [List.getElem?_map, hb] at ex2
    cases ex2
    have hs2 := hs.trans (same_new ht (.tup [V.int (i : Nat), V.ref b]))
    refine ⟨t, _, rfl, SqT.of upd_same, rfl, _, _, rfl, _, _, rfl, rfl, ?_⟩
    refine ⟨_, rfl, _, rfl, _, rfl, b, (i : Int), ws.length, ws[i], rfl, hs2.seq hsb, hG.row i _ (List.getElem?_eq_getElem hi'), hs2, _, _, rfl⟩
  · rintro σ H' ⟨hs, y, z, rfl⟩
    exact q H' hs

end
end B2

namespace B2
open PySem L2
section
variable {P : Program} {w : World} {K : PySem.W.Frag} {mg : Str → Option Value} {base : Heap}

/-! ### restless_pairs -/
theorem sc_restless_pairs : FnScope ["wishes", "mates", "many", "one", "other"] ["wishes", "mates"] (defScope s_restless_pairs) := ⟨rfl, rfl, rfl, by decide +kernel, rfl, by decide +kernel, by decide +kernel⟩
def sp_pairs (K : PySem.W.Frag) : Sp := fun vs H Q _ => ∃ (a b : Addr) (ws : List (List Int)) (ms : List (Option Int)), vs = [.ref a, .ref b] ∧ Tab K H a ws ∧ Good ws ∧ SqL K H b (ms.map ov) ∧ OkMates ws ms ∧
  ∀ (H' : Hp) (p : Addr), H p = none → BuiltF tupO H p (wildAll ws ms) H' → Q (.ref p) H'
theorem ok_restless_pairs {f : Addr} {fd : FuncData} (F : Fun K "restless_pairs" "restless_pairs" s_restless_pairs f fd) (T : Own mg) (C1 : Cal P w K mg base 2 "is_ahead" ["wishes", "guest", "one", "other"] (sp_is_ahead K)) :
    FnOk P w K mg base CX0 3 f fd ["wishes", "mates"] (sp_pairs K) := by
  obtain ⟨g1, gd1, G1, m1, k1, b1⟩ := C1
  refine F.ok sc_restless_pairs (fun vs H Q E h => ?_) (fun cdv A outer s H vs Q E hr h => ?_)
  · obtain ⟨a, b, ws, ms, rfl, _⟩ := h
    rfl
  obtain ⟨a, b, ws, ms, rfl, hT, hG, hM, hO, q⟩ := h
  refine ⟨_, pss_cons (ps_set (i := 2) sc_restless_pairs.nd rfl (Or.inr rfl) (pe_callB call_len_seq (by rfl) T.len PySem.boot_len (pa_cons (pv 0) pa_nil)))
    (pss_one (ps_ret (pe_lc2 (own := [("one", 3), ("other", 4)]) (vs1 := [4]) (g := gName 3) (tt := tYes) (g1 := gName 4) rfl sc_restless_pairs.nd (pi_range1 rfl T.rng (pa_cons (pv 2) pa_nil))
      (blkOk_by (N := ["wishes", "mates", "many", "one", "other"]) (sc := defScope s_restless_pairs) (by decide +kernel)) (by decide)
      (fun _ _ _ _ _ => pg_name (i := 3) sc_restless_pairs.nd rfl (Or.inl rfl)) (fun _ _ _ _ _ => pts_nil)
      (fun _ _ _ _ _ => pi_range2 (by rfl) T.rng (pa_cons (pe_op op_add (pv 3) pe_int) (pa_cons (pv 2) pa_nil)))
      (fun _ _ _ _ _ => pg_name (i := 4) sc_restless_pairs.nd rfl (Or.inl rfl))
      (fun _ _ _ _ _ => pts_one (PW.pt (pw_and (pt_val (pe_call G1 hr (by rfl) m1 k1 b1 .nil pass0 (pa_cons (pv 0) (pa_cons (pv 3) (pa_cons (pv 4) (pa_cons (pe_ix (ix_lst (K := K) rfl) (pv 1) (pv 3) (fun _ _ => rfl)) pa_nil))))))
        (pw_and1 (pt_val (pe_call G1 hr (by rfl) m1 k1 b1 .nil pass0 (pa_cons (pv 0) (pa_cons (pv 4) (pa_cons (pv 3) (pa_cons (pe_ix (ix_lst (K := K) rfl) (pv 1) (pv 4) (fun _ _ => rfl)) pa_nil))))))))))
      (fun _ _ _ _ _ => pe_tup (pa_cons (pv 3) (pa_cons (pv 4) pa_nil)))))), ?_⟩
  obtain ⟨as, h1, h2, h3⟩ := id hT
  have hl : (as.map V.ref).length = ws.length := by rw [List.length_map]; exact h2
  have hi := hG.hi
  have hml := hO.len
  refine ⟨_, rfl, a, _, rfl, .inl h1, ?_⟩
  rw [hl]
  refine ⟨_, rfl, (ws.length : Int), rfl, by omega, by omega, fun D hD => ?_⟩
  refine in_it (walk_range (lo := 0) (n := ((ws.length : Nat) : Int).toNat)) (fun i H' => BuiltF tupO H D (wildUp ws ms ws.length i) H')
    (built_start hD) (fun _ _ _ _ => trivial) ?_ ?_
  · rintro i x H1 H2 hin hB ⟨rfl, hx⟩
    obtain rfl : x = V.int (i : Int) := by
      rw [hx]
      show V.int (0 + (i : Int)) = _
      rw [Int.zero_add]
    clear hx
    have hin' : i < ws.length := by omega
    refine ⟨rfl, ?_⟩
    refine ⟨_, rfl, _, _, rfl, rfl, _, rfl, _, _, rfl, ⟨by omega, by omega, by omega, by omega⟩, ?_⟩
    have en : (((ws.length : Nat) : Int) - ((i : Int) + 1)).toNat = ws.length - (i + 1) := by omega
    refine in_it (walk_range (lo := (i : Int) + 1) (n := (((ws.length : Nat) : Int) - ((i : Int) + 1)).toNat)) (fun t H' => BuiltF tupO H D (wildUp ws ms ws.length i ++ wildIn ws ms i t) H')
      (by show BuiltF tupO H D (wildUp ws ms ws.length i ++ []) H2; rw [List.append_nil]; exact hB) (fun _ _ _ _ => trivial) ?_ ?_
    · rintro t x H3 H4 hlt hB2 ⟨rfl, rfl⟩
      have hT4 := hT.same hB2.1
      have hM4 := hB2.1.seq hM
      refine ⟨rfl, ?_⟩
      refine ⟨_, rfl, _, rfl, _, rfl, _, rfl, _, rfl, b, _, _, _, rfl, rfl, hM4, mt_at (ms := ms) (i := (i : Int)) (by omega) (by omega), ?_⟩
      refine ⟨a, ws, (i : Int), some ((i : Int) + 1 + (t : Int)), mt ms (i : Int), rfl, hT4, by omega, by omega, ⟨by omega, by omega⟩, hO.oko (by omega) (by omega), _, rfl, ?_⟩
      have ew : wildIn ws ms i (t + 1) = wildIn ws ms i t ++ (if wild ws ms (i : Int) ((i : Int) + 1 + (t : Int)) = true then [((i : Int), (i : Int) + 1 + (t : Int))] else []) := rfl
      have eu : wild ws ms (i : Int) ((i : Int) + 1 + (t : Int)) = (aheadB ws (i : Int) (some ((i : Int) + 1 + (t : Int))) (mt ms (i : Int)) && aheadB ws ((i : Int) + 1 + (t : Int)) (some (i : Int)) (mt ms ((i : Int) + 1 + (t : Int)))) := rfl
      rw [ew, eu]
      cases e1 : aheadB ws (i : Int) (some ((i : Int) + 1 + (t : Int))) (mt ms (i : Int)) with
      | false =>
        rw [Bool.false_and]
        show BuiltF tupO H D (wildUp ws ms ws.length i ++ (wildIn ws ms i t ++ [])) H4
        rw [List.append_nil]
        exact hB2
      | true =>
        rw [Bool.true_and]
        refine ⟨_, rfl, _, rfl, _, rfl, _, rfl, _, rfl, b, _, _, _, rfl, rfl, hM4, mt_at (ms := ms) (i := (i : Int) + 1 + (t : Int)) (by omega) (by omega), ?_⟩
        refine ⟨a, ws, (i : Int) + 1 + (t : Int), some (i : Int), mt ms ((i : Int) + 1 + (t : Int)), rfl, hT4, by omega, by omega, ⟨by omega, by omega⟩, hO.oko (by omega) (by omega), _, rfl, ?_⟩
        cases e2 : aheadB ws ((i : Int) + 1 + (t : Int)) (some (i : Int)) (mt ms ((i : Int) + 1 + (t : Int))) with
        | false =>
          show BuiltF tupO H D (wildUp ws ms ws.length i ++ (wildIn ws ms i t ++ [])) H4
          rw [List.append_nil]
          exact hB2
        | true =>
          refine ⟨_, rfl, _, rfl, (by show 2 ≤ sizeLine; decide), fun p hp => ?_⟩
          obtain ⟨acc, z1, z2, z3⟩ := built_step (r := ((i : Int), (i : Int) + 1 + (t : Int))) hD hB2 (same_new hp _) hp upd_same
          refine ⟨acc, z1, ?_, ?_⟩
          · have l1 := wildUp_le ws ms ws.length i
            have l2 := wildIn_le ws ms i t
            have l3 : i * ws.length ≤ 6 * 6 := Nat.mul_le_mul (by omega) (by omega)
            rw [z2, List.length_append]
            exact small1000 (by omega)
          · show BuiltF tupO H D (wildUp ws ms ws.length i ++ (wildIn ws ms i t ++ [((i : Int), (i : Int) + 1 + (t : Int))])) _
            rw [← List.append_assoc]
            exact z3
    · intro H' h
      rw [en] at h
      exact h
  · intro H' h
    have e : ((ws.length : Nat) : Int).toNat = ws.length := by omega
    rw [e] at h
    exact q H' D hD h
end
end B2

namespace B2
open PySem L2
section
variable {P : Program} {w : World} {K : PySem.W.Frag} {mg : Str → Option Value} {base : Heap}

/-! ### joined -/
theorem sc_joined : FnScope ["mates", "one", "other", "changed"] ["mates", "one", "other"] (defScope s_joined) := ⟨rfl, rfl, rfl, by decide +kernel, rfl, by decide +kernel, by decide +kernel⟩
def sp_joined (K : PySem.W.Frag) : Sp := fun vs H Q _ => ∃ (b : Addr) (ms : List (Option Int)) (i j : Int), vs = [.ref b, .int i, .int j] ∧ SqL K H b (ms.map ov) ∧ 0 ≤ i ∧ i < (ms.length : Int) ∧ 0 ≤ j ∧ j < (ms.length : Int) ∧
  ∀ (H' : Hp) (p : Addr), Same H H' → H p = none → H' p = some (fm (joinL ms i j)) → Q (.ref p) H'
theorem ok_joined {f : Addr} {fd : FuncData} (F : Fun K "joined" "joined" s_joined f fd) (T : Own mg) : FnOk P w K mg base CX0 1 f fd ["mates", "one", "other"] (sp_joined K) := by
  refine F.ok sc_joined (fun vs H Q E h => ?_) (fun cdv A outer s H vs Q E hr h => ?_)
  · obtain ⟨b, ms, i, j, rfl, _⟩ := h
    rfl
  obtain ⟨b, ms, i, j, rfl, hM, i0, i1, j0, j1, q⟩ := h
  refine ⟨_, pss_cons (ps_set (i := 3) sc_joined.nd rfl (Or.inl rfl) (pe_callTy (T := "list") (call_lof (K := K) rfl) (by rfl) T.list (by decide +kernel) (pa_cons (pv 0) pa_nil)))
    (pss_cons (ps_asg (pv 2) (pg_sub (pv 3) (pv 1) set_list))
    (pss_cons (ps_asg (pv 1) (pg_sub (pv 3) (pv 2) set_list))
    (pss_one (ps_ret (pv 3))))), ?_⟩
  refine ⟨_, rfl, b, _, rfl, .inl hM, fun p hp => ?_⟩
  refine ⟨_, rfl, _, rfl, _, rfl, p, _, _, _, rfl, rfl, upd_same, ixN_of i0 (by rw [List.length_map]; exact i1), ?_⟩
  refine ⟨_, rfl, _, rfl, _, rfl, p, _, _, _, rfl, rfl, upd_same, ixN_of j0 (by rw [List.length_set, List.length_map]; exact j1), ?_⟩
  refine ⟨_, rfl, q _ p (same_put (same_put (same_new hp _) hp _) hp _) hp ?_⟩
  rw [upd_same]
  unfold fm joinL
  rw [List.map_set, List.map_set]
  rfl

/-! ### settled -/
theorem sc_settled : FnScope ["wishes", "mates", "guest", "found", "other"] ["wishes", "mates", "guest"] (defScope s_settled) := ⟨rfl, rfl, rfl, by decide +kernel, rfl, by decide +kernel, by decide +kernel⟩
/-- at p the mates at b, then new ones -/
def MoreAt (H : Hp) (b p : Addr) (ls : List (List (Option Int))) (H' : Hp) : Prop :=
  Same H H' ∧ ∃ bs : List Addr, H' p = some (.lst (V.ref b :: bs.map V.ref)) ∧ bs.length = ls.length ∧ ∀ (i : Nat) (r : List (Option Int)), ls[i]? = some r → ∃ c, bs[i]? = some c ∧ H' c = some (fm r) ∧ c ≠ p ∧ H c = none
def sp_settled (K : PySem.W.Frag) : Sp := fun vs H Q _ => ∃ (a b : Addr) (ws : List (List Int)) (ms : List (Option Int)) (g : Nat), vs = [.ref a, .ref b, .int g] ∧ Tab K H a ws ∧ ws.length ≤ 6 ∧ SqL K H b (ms.map ov) ∧ OkMates ws ms ∧ g < ws.length ∧
  ∀ (H' : Hp) (p : Addr), H p = none → MoreAt H b p (moreL ws ms g) H' → Q (.ref p) H'
theorem ok_settled {f : Addr} {fd : FuncData} (F : Fun K "settled" "settled" s_settled f fd) (T : Own mg) (C1 : Cal P w K mg base 1 "in_both" ["wishes", "one", "other"] (sp_in_both K))
    (C2 : Cal P w K mg base 1 "joined" ["mates", "one", "other"] (sp_joined K)) : FnOk P w K mg base CX0 2 f fd ["wishes", "mates", "guest"] (sp_settled K) := by
  obtain ⟨g1, gd1, G1, m1, k1, b1⟩ := C1
  obtain ⟨g2, gd2, G2, m2, k2, b2⟩ := C2
  refine F.ok sc_settled (fun vs H Q E h => ?_) (fun cdv A outer s H vs Q E hr h => ?_)
  · obtain ⟨a, b, ws, ms, g, rfl, _⟩ := h
    rfl
  obtain ⟨a, b, ws, ms, g, rfl, hT, h6, hM, hO, hg, q⟩ := h
  refine ⟨_, pss_cons (ps_set (i := 3) sc_settled.nd rfl (Or.inl rfl) (pe_lst (pa_cons (pv 1) pa_nil)))
    (pss_cons (ps_if (pt_cmpR op_isN (pe_ix ix_list (pv 1) (pv 2) (fun _ _ => rfl)) pe_non (nomark _))
      (pss_one (ps_for PassesOwn.never rfl (pi_range2 (by rfl) T.rng (pa_cons (pe_op op_add (pv 2) pe_int) (pa_cons (pe_callB call_len_seq (by rfl) T.len PySem.boot_len (pa_cons (pv 0) pa_nil)) pa_nil))) (pg_name (i := 4) sc_settled.nd rfl (Or.inl rfl))
        (pss_one (ps_if (PW.pt (pw_and (pt_cmpR op_isN (pe_ix ix_list (pv 1) (pv 4) (fun _ _ => rfl)) pe_non (nomark _))
          (pw_and1 (pt_val (pe_call G1 hr (by rfl) m1 k1 b1 .nil pass0 (pa_cons (pv 0) (pa_cons (pv 2) (pa_cons (pv 4) pa_nil))))))))
          (pss_one (ps_expr (pe_bm PySem.F.plainAttrs_list PySem.F.slot_list_append PySem.F.type_list_append mt_append (pv 3)
            (pa_cons (pe_call G2 hr (by rfl) m2 k2 b2 .nil pass0 (pa_cons (pv 1) (pa_cons (pv 2) (pa_cons (pv 4) pa_nil)))) pa_nil)))) pss_nil)))) pss_nil)
    (pss_one (ps_ret (pv 3)))), ?_⟩
  have hml := hO.len
  obtain ⟨as, h1, h2, h3⟩ := id hT
  have hl : (as.map V.ref).length = ws.length := by rw [List.length_map]; exact h2
  refine ⟨_, rfl, (by show 1 ≤ sizeLine; decide), fun D hD => ?_⟩
  have s0 := same_new hD (.lst [V.ref b])
  refine ⟨_, rfl, _, rfl, b, _, _, _, rfl, rfl, s0.seq hM, mt_at (ms := ms) (i := (g : Int)) (by omega) (by omega), rfl, _, rfl, ?_⟩
  rw [ov_non]
  cases e1 : mt ms (g : Int) with
  | some k =>
    have e2 : moreL ws ms g = [] := by unfold moreL; rw [e1]; rfl
    refine iteF ⟨_, rfl, q _ D hD ?_⟩
    rw [e2]
    exact ⟨s0, [], upd_same, rfl, fun i r h => by cases h⟩
  | none =>
  have e2 : moreL ws ms g = joinsL ws ms g (ws.length - (g + 1)) := by unfold moreL; rw [if_pos e1]
  refine iteT ?_
  refine ⟨_, rfl, _, _, rfl, rfl, _, rfl, a, _, rfl, .inl (s0.seq h1), _, _, rfl, ⟨by omega, by omega, by rw [hl]; omega, by rw [hl]; omega⟩, ?_⟩
  rw [hl]
  have en : (((ws.length : Nat) : Int) - ((g : Int) + 1)).toNat = ws.length - (g + 1) := by omega
  refine for_range (lo := (g : Int) + 1) (n := (((ws.length : Nat) : Int) - ((g : Int) + 1)).toNat) (fun t σ H' => MoreAt H b D (joinsL ws ms g t) H' ∧ ∃ z, σ = [some (.ref a), some (.ref b), some (.int g), some (.ref D), z])
    ⟨⟨s0, [], upd_same, rfl, fun i r h => by cases h⟩, none, rfl⟩ ?_ ?_
  · rintro t σ H1 hlt ⟨⟨s1, bs, y1, y2, y3⟩, z, rfl⟩
    have hM1 := s1.seq hM
    have hjl := joins_le ws ms g t
    refine ⟨_, rfl, _, rfl, b, _, _, _, rfl, rfl, hM1, mt_at (ms := ms) (i := (g : Int) + 1 + (t : Int)) (by omega) (by omega), rfl, _, rfl, ?_⟩
    rw [ov_non]
    have ej : joinsL ws ms g (t + 1) = joinsL ws ms g t ++ (if (mt ms ((g : Int) + 1 + (t : Int)) = none ∧ suitsB ws (g : Int) ((g : Int) + 1 + (t : Int)) = true) then [joinL ms (g : Int) ((g : Int) + 1 + (t : Int))] else []) := rfl
    cases e3 : mt ms ((g : Int) + 1 + (t : Int)) with
    | some k =>
      refine iteF ⟨?_, _, rfl⟩
      rw [ej, e3, if_neg (by intro z; cases z.1), List.append_nil]
      exact ⟨s1, bs, y1, y2, y3⟩
    | none =>
    refine iteT ?_
    refine ⟨_, rfl, _, rfl, _, rfl, a, ws, (g : Int), (g : Int) + 1 + (t : Int), rfl, hT.same s1, by omega, by omega, by omega, by omega, _, rfl, ?_⟩
    cases e4 : suitsB ws (g : Int) ((g : Int) + 1 + (t : Int)) with
    | false =>
      refine iteF ⟨?_, _, rfl⟩
      rw [ej, e3, e4, if_neg (by intro z; cases z.2), List.append_nil]
      exact ⟨s1, bs, y1, y2, y3⟩
    | true =>
    refine iteT ?_
    refine ⟨_, rfl, .inl ⟨rfl, _, SqL.of y1⟩, _, rfl, _, rfl, _, rfl, b, ms, (g : Int), (g : Int) + 1 + (t : Int), rfl, hM1, by omega, by omega, by omega, by omega, fun H2 p s2 hp hp2 => ?_⟩
    have y12 := s2 _ _ y1
    have npD : p ≠ D := (ne_of_none y1 hp).symm
    refine ⟨D, _, _, rfl, rfl, y12, ?_, ?_, _, rfl⟩
    · rw [List.length_cons, List.length_map, y2]
      exact small1000 (by omega)
    rw [ej, e3, e4, if_pos ⟨rfl, rfl⟩]
    refine ⟨same_put (s1.trans s2) hD _, bs ++ [p], ?_, ?_, fun i r hr' => ?_⟩
    · rw [upd_same, List.map_append]
      rfl
    · rw [List.length_append, List.length_append, y2]
      rfl
    · rw [List.getElem?_append] at hr'
      rw [List.getElem?_append]
      by_cases c : i < (joinsL ws ms g t).length
      · rw [if_pos c] at hr'
        rw [if_pos (by rw [y2]; exact c)]
        obtain ⟨c1, c2, c3, c4, c5⟩ := y3 i r hr'
        exact ⟨c1, c2, by rw [upd_ne c4]; exact s2 _ _ c3, c4, c5⟩
      · rw [if_neg c] at hr'
        rw [if_neg (by rw [y2]; exact c)]
        have i0 : i - (joinsL ws ms g t).length = 0 := by
          have := (List.getElem?_eq_some_iff.mp hr').1
          simp at this
          omega
        rw [i0] at hr'
        cases hr'
        rw [y2, i0]
        exact ⟨p, rfl, by rw [upd_ne npD]; exact hp2, npD, s1.free hp⟩
  · rintro σ H' ⟨h, z, rfl⟩
    rw [en, ← e2] at h
    exact ⟨_, rfl, q H' D hD h⟩

/-! ### all_twos -/
theorem sc_all_twos : FnScope ["wishes", "found", "guest", "mates", "further"] ["wishes"] (defScope s_all_twos) := ⟨rfl, rfl, rfl, by decide +kernel, rfl, by decide +kernel, by decide +kernel⟩
def sp_all_twos (K : PySem.W.Frag) : Sp := fun vs H Q _ => ∃ (a : Addr) (ws : List (List Int)), vs = [.ref a] ∧ Tab K H a ws ∧ Good ws ∧
  ∀ (H' : Hp) (p : Addr), H p = none → BuiltF fm H p (allTwos ws) H' → Q (.ref p) H'
theorem ok_all_twos {f : Addr} {fd : FuncData} (F : Fun K "all_twos" "all_twos" s_all_twos f fd) (T : Own mg) (C1 : Cal P w K mg base 3 "need_wishes" ["wishes"] (sp_need_wishes K))
    (C2 : Cal P w K mg base 2 "settled" ["wishes", "mates", "guest"] (sp_settled K)) : FnOk P w K mg base CX0 4 f fd ["wishes"] (sp_all_twos K) := by
  obtain ⟨g1, gd1, G1, m1, k1, b1⟩ := C1
  obtain ⟨g2, gd2, G2, m2, k2, b2⟩ := C2
  refine F.ok sc_all_twos (fun vs H Q E h => ?_) (fun cdv A outer s H vs Q E hr h => ?_)
  · obtain ⟨a, ws, rfl, _⟩ := h
    rfl
  obtain ⟨a, ws, rfl, hT, hG, q⟩ := h
  have hr2 : Room 2 _ := hr.mono (by decide)
  refine ⟨_, pss_cons (ps_expr (pe_call G1 hr (by rfl) m1 k1 b1 .nil pass0 (pa_cons (pv 0) pa_nil)))
    (pss_cons (ps_set (i := 1) sc_all_twos.nd rfl (Or.inl rfl) (pe_lst (pa_cons (pe_op op_rep (pe_lst (pa_cons pe_non pa_nil)) (pe_callB call_len_seq (by rfl) T.len PySem.boot_len (pa_cons (pv 0) pa_nil))) pa_nil)))
    (pss_cons (ps_for PassesOwn.never rfl (pi_range1 rfl T.rng (pa_cons (pe_callB call_len_seq (by rfl) T.len PySem.boot_len (pa_cons (pv 0) pa_nil)) pa_nil)) (pg_name (i := 2) sc_all_twos.nd rfl (Or.inr rfl))
      (pss_one (ps_setLc2 (i := 1) (own := [("mates", 3), ("further", 4)]) (vs1 := [4]) (g := gName 3) (tt := tYes) (g1 := gName 4) (tt1 := tYes) rfl sc_all_twos.nd rfl rfl (sw_true rfl rfl rfl (by decide +kernel)) (pi_list (pv 1))
        (blkOk_by (N := ["wishes", "found", "guest", "mates", "further"]) (sc := defScope s_all_twos) (by decide +kernel)) (by decide)
        (fun _ _ _ _ _ => pg_name (i := 3) sc_all_twos.nd rfl (Or.inl rfl)) (fun _ _ _ _ _ => pts_nil)
        (fun _ _ _ _ _ => pi_lst (K := K) rfl (pe_call G2 hr2 (by rfl) m2 k2 b2 .nil pass0 (pa_cons (pv 0) (pa_cons (pv 3) (pa_cons (pv 2) pa_nil)))))
        (fun _ _ _ _ _ => pg_name (i := 4) sc_all_twos.nd rfl (Or.inl rfl)) (fun _ _ _ _ _ => pts_nil) (fun _ _ _ _ _ => pv 4))))
    (pss_one (ps_ret (pv 1))))), ?_⟩
  obtain ⟨as0, h1, h2, h3⟩ := id hT
  have hl : (as0.map V.ref).length = ws.length := by rw [List.length_map]; exact h2
  have h6 := hG.hi
  refine ⟨_, rfl, a, ws, rfl, hT, hG, fun H1 s1 => ?_⟩
  refine ⟨(by show 1 ≤ sizeLine; decide), fun N hN => ?_⟩
  have s2 := s1.trans (same_new hN (.lst [V.non]))
  refine ⟨_, rfl, a, _, rfl, .inl (s2.seq h1), ?_⟩
  rw [hl]
  refine ⟨N, (ws.length : Int), _, rfl, rfl, upd_same, by omega, by omega, ?_, fun R hR => ?_⟩
  · show 1 * ((ws.length : Nat) : Int).toNat ≤ sizeLine
    exact le_line (by omega)
  have en : ((ws.length : Nat) : Int).toNat = ws.length := by omega
  rw [en, flat_nones]
  refine ⟨(by show 1 ≤ sizeLine; decide), fun D0 hD0 => ?_⟩
  have s3 := s2.trans (same_new hR (.lst ((List.replicate ws.length (none : Option Int)).map ov)))
  have s4 := s3.trans (same_new hD0 (.lst [V.ref R]))
  have nRD : R ≠ D0 := ne_of_none upd_same hD0
  refine ⟨_, rfl, a, _, rfl, .inl (s4.seq h1), (((as0.map V.ref).length : Nat) : Int), rfl, by rw [hl]; omega, by rw [hl]; omega, ?_⟩
  refine for_range (lo := 0) (n := (((as0.map V.ref).length : Nat) : Int).toNat) (fun g σ H' => ∃ (D : Addr) (y : Option V), σ = [some (.ref a), some (.ref D), y, none, none] ∧ H D = none ∧ BuiltF fm H D (stageL ws g) H')
    ⟨D0, none, rfl, s3.free hD0, s4, [R], upd_same, rfl, fun i r hr' => ?_⟩ ?_ ?_
  · have hi0 : i = 0 := by
      have := (List.getElem?_eq_some_iff.mp hr').1
      have e : (stageL ws 0).length = 1 := rfl
      omega
    subst hi0
    cases hr'
    exact ⟨R, rfl, by rw [upd_ne nRD]; exact upd_same, nRD, s2.free hR⟩
  · rintro g σ H2 hin ⟨D, y, rfl, hD, hB⟩
    have hg : g < ws.length := by rw [hl] at hin; omega
    have ei : (0 : Int) + (g : Int) = (g : Int) := Int.zero_add _
    rw [ei]
    obtain ⟨e2, as, d1, d2, d3⟩ := id hB
    have hsm := stage_small ws h6 g (by omega)
    refine ⟨_, rfl, D, rfl, ⟨_, SqL.of d1⟩, fun D2 hD2 => ?_⟩
    have hD20 : H D2 = none := e2.free hD2
    refine in_it (walk_list (xs := as.map V.ref)) (fun i H' => Same H2 H' ∧ BuiltF fm H D2 (((stageL ws g).take i).flatMap fun ms => settledL ws ms g) H')
      ⟨same_new hD2 _, (built_start hD2).back e2⟩ (fun i H' _ h => h.1.seq (SqL.of d1)) ?_ ?_
    · rintro i x H3 _ hi ⟨e3, hB3⟩ ⟨rfl, hx⟩
      obtain ⟨b, hb, rfl⟩ := map_ref_get hx
      have hi' : i < (stageL ws g).length := by rw [← d2]; exact (List.getElem?_eq_some_iff.mp hb).1
      obtain ⟨b', hb', c2, c3, c4⟩ := d3 i (stageL ws g)[i] (List.getElem?_eq_getElem hi')
      rw [hb] at hb'
      cases hb'
      have hOk := stage_ok ws g (by omega) _ (List.getElem_mem hi')
      have hge : (stageL ws g)[i]? = some (stageL ws g)[i] := List.getElem?_eq_getElem hi'
      generalize (stageL ws g)[i] = ms at c2 hOk hge
      refine ⟨rfl, ?_⟩
      have hT3 := (hT.same e2).same e3
      have hb3 := e3 _ _ c2
      refine ⟨_, rfl, _, rfl, _, rfl, a, b, ws, ms, g, rfl, hT3, h6, SqL.of hb3, hOk, hg, fun H4 p hp hM => ?_⟩
      obtain ⟨e4, bs, r1, r2, r3⟩ := hM
      obtain ⟨hB31, as2, hB32, hB33, hB34⟩ := id hB3
      have npD2 : p ≠ D2 := (ne_of_none hB32 hp).symm
      have hcs : ∀ (j : Nat) (r : List (Option Int)), (settledL ws ms g)[j]? = some r → ∃ c, (b :: bs)[j]? = some c ∧ H4 c = some (fm r) ∧ c ≠ D2 ∧ H c = none := by
        intro j r hj
        unfold settledL at hj
        cases j with
        | zero =>
          cases hj
          exact ⟨b, rfl, e4 _ _ hb3, ne_of_none c2 hD2, c4⟩
        | succ j =>
          rw [List.getElem?_cons_succ] at hj
          obtain ⟨c, q1, q2, q3, q4⟩ := r3 j r hj
          exact ⟨c, q1, q2, (ne_of_none hB32 q4).symm, (e2.trans e3).free q4⟩
      have hcl : (b :: bs).length = (settledL ws ms g).length := by unfold settledL; rw [List.length_cons, List.length_cons, r2]
      have r1' : H4 p = some (.lst ((b :: bs).map V.ref)) := r1
      generalize b :: bs = cs at hcs hcl r1'
      have hst := settled_le (ws := ws) (ms := ms) hg
      have hpl := flatMap_le (fun ms => settledL ws ms g) 6 ((stageL ws g).take i) fun _ _ => Nat.le_trans (settled_le hg) h6
      rw [List.length_take] at hpl
      have hpl2 : (((stageL ws g).take i).flatMap fun ms => settledL ws ms g).length ≤ 300000 := by omega
      refine ⟨p, rfl, ⟨_, SqL.of r1'⟩, ?_⟩
      refine in_it (walk_list (xs := cs.map V.ref)) (fun t H' => Same H2 H' ∧ BuiltF fm H D2 ((((stageL ws g).take i).flatMap fun ms => settledL ws ms g) ++ (settledL ws ms g).take t) H' ∧ H' p = some (.lst (cs.map V.ref)) ∧
          ∀ (j : Nat) (r : List (Option Int)), (settledL ws ms g)[j]? = some r → ∃ c, cs[j]? = some c ∧ H' c = some (fm r) ∧ c ≠ D2 ∧ H c = none)
        ⟨e3.trans e4, by rw [List.take_zero, List.append_nil]; exact hB3.on e4, r1', hcs⟩ (fun t H' _ h => SqL.of h.2.2.1) ?_ ?_
      · rintro t x H5 _ ht ⟨f1, f2, f3, f4⟩ ⟨rfl, hx5⟩
        obtain ⟨c, hc, rfl⟩ := map_ref_get hx5
        have ht' : t < (settledL ws ms g).length := by rw [← hcl]; exact (List.getElem?_eq_some_iff.mp hc).1
        obtain ⟨c', hc', q2, q3, q4⟩ := f4 t (settledL ws ms g)[t] (List.getElem?_eq_getElem ht')
        rw [hc] at hc'
        cases hc'
        refine ⟨rfl, ?_⟩
        obtain ⟨acc, z1, z2, z3⟩ := built_put hD20 f2 q2 q3 q4
        refine ⟨_, rfl, acc, z1, ?_, ?_, ?_, by rw [upd_ne npD2]; exact f3, fun j r hj => ?_⟩
        · rw [z2, List.length_append, List.length_take]
          exact big_line (by omega)
        · exact same_put f1 hD2 _
        · rw [take_one (List.getElem?_eq_getElem ht'), ← List.append_assoc]
          exact z3
        · obtain ⟨c, u1, u2, u3, u4⟩ := f4 j r hj
          exact ⟨c, u1, by rw [upd_ne u3]; exact u2, u3, u4⟩
      · rintro H5 ⟨f1, f2, f3, f4⟩
        refine ⟨f1, ?_⟩
        have e9 : (settledL ws ms g).take (cs.map V.ref).length = settledL ws ms g := List.take_of_length_le (by rw [List.length_map, hcl]; exact Nat.le_refl _)
        rw [e9] at f2
        rw [take_one hge, List.flatMap_append]
        have e : (List.flatMap (fun ms => settledL ws ms g) [ms]) = settledL ws ms g := by
          rw [List.flatMap_cons, List.flatMap_nil, List.append_nil]
        rw [e]
        exact f2
    · rintro H3 ⟨e3, hB3⟩
      rw [List.take_of_length_le (by rw [List.length_map, d2]; exact Nat.le_refl _)] at hB3
      exact ⟨D2, _, rfl, hD20, hB3⟩
  · rintro σ H' ⟨D, y, rfl, hD, hB⟩
    have e : (((as0.map V.ref).length : Nat) : Int).toNat = ws.length := by rw [hl]; omega
    rw [e] at hB
    exact ⟨_, rfl, q H' D hD hB⟩

/-! ### all_calm -/
theorem sc_all_calm : FnScope ["wishes", "mates"] ["wishes"] (defScope s_all_calm) := ⟨rfl, rfl, rfl, by decide +kernel, rfl, by decide +kernel, by decide +kernel⟩
def sp_all_calm (K : PySem.W.Frag) : Sp := fun vs H Q _ => ∃ (a : Addr) (ws : List (List Int)), vs = [.ref a] ∧ Tab K H a ws ∧ Good ws ∧
  ∀ (H' : Hp) (p : Addr), H p = none → BuiltF fm H p (allCalm ws) H' → Q (.ref p) H'
theorem ok_all_calm {f : Addr} {fd : FuncData} (F : Fun K "all_calm" "all_calm" s_all_calm f fd) (C1 : Cal P w K mg base 4 "all_twos" ["wishes"] (sp_all_twos K))
    (C2 : Cal P w K mg base 3 "restless_pairs" ["wishes", "mates"] (sp_pairs K)) : FnOk P w K mg base CX0 5 f fd ["wishes"] (sp_all_calm K) := by
  obtain ⟨g1, gd1, G1, m1, k1, b1⟩ := C1
  obtain ⟨g2, gd2, G2, m2, k2, b2⟩ := C2
  refine F.ok sc_all_calm (fun vs H Q E h => ?_) (fun cdv A outer s H vs Q E hr h => ?_)
  · obtain ⟨a, ws, rfl, _⟩ := h
    rfl
  obtain ⟨a, ws, rfl, hT, hG, q⟩ := h
  have hr3 : Room 3 _ := hr.mono (by decide)
  have hu := hr.units
  refine ⟨_, pss_one (ps_ret (pe_lc (own := [("mates", 1)]) (g := gName 1) rfl sc_all_calm.nd (pi_list (pe_call G1 hr (by rfl) m1 k1 b1 .nil pass0 (pa_cons (pv 0) pa_nil)))
      (blkOk_by (N := ["wishes", "mates"]) (sc := defScope s_all_calm) (by decide +kernel))
      (fun _ _ _ _ _ => pg_name (i := 1) sc_all_calm.nd rfl (Or.inl rfl))
      (fun _ _ _ _ _ => pts_one (pt_cmpR (eq_dat (K := K) rfl hu) (pe_call G2 hr3 (by rfl) m2 k2 b2 .nil pass0 (pa_cons (pv 0) (pa_cons (pv 1) pa_nil))) (pe_lst pa_nil) (nomark _)))
      (fun _ _ _ _ _ => pv 1))), ?_⟩
  have h6 := hG.hi
  refine ⟨_, rfl, a, ws, rfl, hT, hG, fun H1 p hp hB => ?_⟩
  obtain ⟨e1, as, d1, d2, d3⟩ := hB
  refine ⟨p, rfl, ⟨_, SqL.of d1⟩, fun D hD => ?_⟩
  have hD0 : H D = none := e1.free hD
  have hsm := stage_small ws h6 ws.length (Nat.le_refl _)
  refine lc_list (K := K) (a := p) (xs := as.map V.ref) (fun i H' => Same H1 H' ∧ BuiltF fm H D (((allTwos ws).take i).filter fun ms => (wildAll ws ms).isEmpty) H')
    ⟨same_new hD _, (built_start hD).back e1⟩ (fun i H' _ h => h.1.seq (SqL.of d1)) ?_ ?_
  · rintro i x H2 hx ⟨e2, hB2⟩
    obtain ⟨b, hb, rfl⟩ := map_ref_get hx
    have hi' : i < (allTwos ws).length := by rw [← d2]; exact (List.getElem?_eq_some_iff.mp hb).1
    obtain ⟨b', hb', c2, c3, c4⟩ := d3 i (allTwos ws)[i] (List.getElem?_eq_getElem hi')
    rw [hb] at hb'
    cases hb'
    have hOk := stage_ok ws ws.length (Nat.le_refl _) _ (List.getElem_mem hi')
    have hge : (allTwos ws)[i]? = some (allTwos ws)[i] := List.getElem?_eq_getElem hi'
    generalize (allTwos ws)[i] = ms at c2 hOk hge
    rw [take_one hge, List.filter_append]
    have hfl : (((allTwos ws).take i).filter fun ms => (wildAll ws ms).isEmpty).length ≤ 46656 := by
      refine Nat.le_trans (List.length_filter_le _ _) ?_
      rw [List.length_take]
      unfold allTwos
      omega
    refine ⟨rfl, ?_⟩
    have hT2 := (hT.same e1).same e2
    refine ⟨_, rfl, _, rfl, a, b, ws, ms, rfl, hT2, hG, SqL.of (e2 _ _ c2), hOk, fun H3 r hr' hR => ?_⟩
    refine ⟨(by show 0 ≤ sizeLine; decide), fun e he => ?_⟩
    have s4 : Same H3 (upd H3 e (.lst [])) := same_new he _
    have e4 := hR.1.trans s4
    refine ⟨dPs (wildAll ws ms), dPs [], (hR.prs.same s4).dp, .lst (SqL.of upd_same) .nil, dPs_shaped _, dPs_shaped _, _, rfl, ?_⟩
    rw [dPs_nil]
    cases ew : (wildAll ws ms).isEmpty with
    | false =>
      refine iteF ⟨e2.trans e4, ?_⟩
      have e : [ms].filter (fun ms => (wildAll ws ms).isEmpty) = [] := by
        rw [List.filter_cons, ew]; rfl
      rw [e, List.append_nil]
      exact hB2.on e4
    | true =>
      have e : [ms].filter (fun ms => (wildAll ws ms).isEmpty) = [ms] := by
        rw [List.filter_cons, ew]; rfl
      rw [e]
      obtain ⟨acc, z1, z2, z3⟩ := built_put hD0 (hB2.on e4) (e4 _ _ (e2 _ _ c2)) (ne_of_none c2 hD) c4
      refine ⟨_, rfl, acc, z1, ?_, ?_, z3⟩
      · rw [z2]
        exact big_line (by omega)
      · exact same_put (e2.trans e4) hD _
  · rintro H2 ⟨e2, hB2⟩
    rw [List.take_of_length_le (by rw [List.length_map, d2]; exact Nat.le_refl _)] at hB2
    exact q H2 D hD0 hB2
end
end B2

namespace B2
open PySem L2
section
variable {P : Program} {w : World} {K : PySem.W.Frag} {mg : Str → Option Value} {base : Heap}

/-! ### _law_cell_at -/
theorem sc_cell_at : FnScope ["_law_script", "_law_k"] ["_law_script", "_law_k"] (defScope s_cell_at) := ⟨rfl, rfl, rfl, by decide +kernel, rfl, by decide +kernel, by decide +kernel⟩
def sp_cell_at (K : PySem.W.Frag) : Sp := fun vs H Q _ => ∃ (a : Addr) (ns : List Int) (k : Int), vs = [.ref a, .int k] ∧ SqL K H a (ns.map V.int) ∧ 0 ≤ k ∧ ∀ c : Int, Q (.int c) H
theorem ok_cell_at {f : Addr} {fd : FuncData} (F : Fun K "_law_cell_at" "_law_cell_at" s_cell_at f fd) (T : Own mg) : FnOk P w K mg base CX0 1 f fd ["_law_script", "_law_k"] (sp_cell_at K) := by
  refine F.ok sc_cell_at (fun vs H Q E h => ?_) (fun cdv A outer s H vs Q E hr h => ?_)
  · obtain ⟨a, ns, k, rfl, _⟩ := h
    rfl
  obtain ⟨a, ns, k, rfl, hS, k0, q⟩ := h
  refine ⟨_, pss_cons (ps_if (pt_cmpR op_lt (pv 1) (pe_callB call_len_seq (by rfl) T.len PySem.boot_len (pa_cons (pv 0) pa_nil)) (nomark _))
      (pss_one (ps_ret (pe_ix ix_list (pv 0) (pv 1) (fun _ _ => rfl)))) pss_nil)
    (pss_one (ps_ret pe_int)), ?_⟩
  refine ⟨_, rfl, _, rfl, a, _, rfl, .inl hS, _, _, rfl, rfl, _, rfl, ?_⟩
  refine ite2 (fun c => ?_) (fun c => ?_)
  · have c' : k < (((ns.map V.int).length : Nat) : Int) := of_decide_eq_true c
    rw [List.length_map] at c'
    have hk : k.toNat < ns.length := by omega
    have e : k = ((k.toNat : Nat) : Int) := by omega
    have z : atI (ns.map V.int) ((k.toNat : Nat) : Int) = some (.int ns[k.toNat]) := atI_nat (by rw [List.getElem?_map, List.getElem?_eq_getElem hk]; rfl)
    rw [← e] at z
    exact ⟨_, rfl, _, rfl, a, _, _, _, rfl, rfl, hS, z, q _⟩
  · exact q 0

/-! ### _law_row_by -/
theorem sc_row_by : FnScope ["_law_cell", "_law_guest", "_law_many", "_law_full", "_law_left", "_law_row", "_law_one"] ["_law_cell", "_law_guest", "_law_many", "_law_full"] (defScope s_row_by) := ⟨rfl, rfl, rfl, by decide +kernel, rfl, by decide +kernel, by decide +kernel⟩
def sp_row_by : Sp := fun vs H Q _ => ∃ (c g : Int) (n : Nat) (full : Bool), vs = [.int c, .int g, .int n, .bl full] ∧ n ≤ 6 ∧
  ∀ (H' : Hp) (p : Addr) (r : List Int), Same H H' → H p = none → H' p = some (.lst (r.map V.int)) → GoodRow n g r → Q (.ref p) H'

/-- what is left to be drawn, and what is drawn -/
structure Draw (H : Hp) (n : Nat) (g : Int) (D R : Addr) (H' : Hp) (left row : List Int) : Prop where
  same : Same H H'
  hD : H D = none
  hR : H R = none
  ne : D ≠ R
  atD : H' D = some (.lst (left.map V.int))
  atR : H' R = some (.lst (row.map V.int))
  nd : (row ++ left).Nodup
  rg : ∀ x ∈ row ++ left, 0 ≤ x ∧ x < (n : Int) ∧ x ≠ g
  sm : (row ++ left).length ≤ 6

theorem Draw.good {H H' : Hp} {n : Nat} {g : Int} {D R : Addr} {left row : List Int} (d : Draw H n g D R H' left row) : GoodRow n g row :=
  ⟨(List.nodup_append.mp d.nd).1, fun x hx => d.rg x (List.mem_append_left _ hx), by have := d.sm; rw [List.length_append] at this; omega⟩

theorem GoodRow.take {n : Nat} {g : Int} {r : List Int} (h : GoodRow n g r) (m : Nat) : GoodRow n g (r.take m) :=
  ⟨h.nd.sublist (List.take_sublist m r), fun x hx => h.rg x (List.mem_of_mem_take hx), Nat.le_trans (List.length_take_le' m r) h.sm⟩

theorem erase_perm {α : Type} : ∀ (l : List α) (k : Nat) (y : α), l[k]? = some y → (y :: l.eraseIdx k).Perm l
  | [], _, _, h => by cases h
  | a :: l, 0, y, h => by cases h; exact List.Perm.refl _
  | a :: l, k + 1, y, h => by
    have ih := erase_perm l k y h
    exact (List.Perm.swap a y _).trans (List.Perm.cons a ih)

theorem Draw.step {H H' : Hp} {n : Nat} {g : Int} {D R : Addr} {left row : List Int} (d : Draw H n g D R H' left row) {k : Nat} {y : Int} (hy : left[k]? = some y) :
    Draw H n g D R (upd (upd H' D (.lst ((left.eraseIdx k).map V.int))) R (.lst ((row ++ [y]).map V.int))) (left.eraseIdx k) (row ++ [y]) := by
  have p : (y :: left.eraseIdx k).Perm left := erase_perm left k y hy
  have p2 : (row ++ [y] ++ left.eraseIdx k).Perm (row ++ left) := by
    rw [List.append_assoc]
    exact List.Perm.append_left row p
  exact ⟨same_put (same_put d.same d.hD _) d.hR _, d.hD, d.hR, d.ne, by rw [upd_ne d.ne, upd_same], upd_same, p2.nodup_iff.mpr d.nd, fun x hx => d.rg x (p2.mem_iff.mp hx), by rw [p2.length_eq]; exact d.sm⟩

theorem ok_row_by {f : Addr} {fd : FuncData} (F : Fun K "_law_row_by" "_law_row_by" s_row_by f fd) (T : Own mg) : FnOk P w K mg base CX0 1 f fd ["_law_cell", "_law_guest", "_law_many", "_law_full"] sp_row_by := by
  refine F.ok sc_row_by (fun vs H Q E h => ?_) (fun cdv A outer s H vs Q E hr h => ?_)
  · obtain ⟨c, g, n, full, rfl, _⟩ := h
    rfl
  obtain ⟨c, g, n, full, rfl, hn, q⟩ := h
  refine ⟨_, pss_cons (ps_setLc (i := 4) (own := [("_law_one", 6)]) (g := gName 6) rfl sc_row_by.nd rfl rfl (sw_true rfl rfl rfl (by decide +kernel)) (pi_range1 rfl T.rng (pa_cons (pv 2) pa_nil))
      (blkOk_by (N := ["_law_cell", "_law_guest", "_law_many", "_law_full", "_law_left", "_law_row", "_law_one"]) (sc := defScope s_row_by) (by decide +kernel))
      (fun _ _ _ _ _ => pg_name (i := 6) sc_row_by.nd rfl (Or.inl rfl)) (fun _ _ _ _ _ => pts_one (pt_cmpR op_ne (pv 6) (pv 1) (nomark _))) (fun _ _ _ _ _ => pv 6))
    (pss_cons (ps_set (i := 5) sc_row_by.nd rfl (Or.inl rfl) (pe_lst pa_nil))
    (pss_cons (ps_while PassesOwn.never (pt_cmpR op_gt (pe_callB call_len_seq (by rfl) T.len PySem.boot_len (pa_cons (pv 4) pa_nil)) pe_int (nomark _))
      (pss_cons (ps_expr (pe_bm PySem.F.plainAttrs_list PySem.F.slot_list_append PySem.F.type_list_append mt_append (pv 5)
          (pa_cons (pe_bm PySem.F.plainAttrs_list PySem.F.slot_list_pop PySem.F.type_list_pop mt_popAt (pv 4)
            (pa_cons (pe_op op_mod (pv 0) (pe_callB call_len_seq (by rfl) T.len PySem.boot_len (pa_cons (pv 4) pa_nil))) pa_nil)) pa_nil)))
      (pss_one (ps_set (i := 0) sc_row_by.nd rfl (Or.inl rfl) (pe_op op_fdiv (pv 0) (pe_op op_add (pe_callB call_len_seq (by rfl) T.len PySem.boot_len (pa_cons (pv 4) pa_nil)) pe_int))))))
    (pss_cons (ps_if (pt_val (pv 3)) (pss_one (ps_ret (pv 5))) pss_nil)
    (pss_one (ps_ret (pe_slice sl_list (pv 5) po_none (po_some (pe_op op_mod (pv 0) (pe_op op_add (pe_callB call_len_seq (by rfl) T.len PySem.boot_len (pa_cons (pv 5) pa_nil)) pe_int))))))))), ?_⟩
  refine ⟨_, rfl, (n : Int), rfl, (by omega), (by omega), fun D hD => ?_⟩
  refine lc_range (lo := 0) (n := (n : Int).toNat) (fun i H' => ∃ acc : List Int, H' = upd H D (.lst (acc.map V.int)) ∧ acc.Nodup ∧ acc.length ≤ i ∧ ∀ x ∈ acc, 0 ≤ x ∧ x < (i : Int) ∧ x ≠ g)
    ⟨[], rfl, List.nodup_nil, Nat.le_refl _, fun x hx => by cases hx⟩ ?_ ?_
  · rintro i H' hi ⟨acc, rfl, nd, hl, hx⟩
    refine ⟨rfl, _, rfl, _, rfl, rfl, _, rfl, ?_⟩
    refine ite2 (fun c => ?_) (fun c => ?_)
    · have hg : (0 + (i : Int)) ≠ g := fun z => by
        rw [decide_eq_true (by rw [z])] at c
        cases c
      refine ⟨_, rfl, acc.map V.int, upd_same, by rw [List.length_map]; exact Nat.lt_of_le_of_lt hl (small1000 (by omega)), acc ++ [0 + (i : Int)], ?_, ?_, ?_, ?_⟩
      · rw [upd_upd, List.map_append]; rfl
      · rw [List.nodup_append]
        refine ⟨nd, by simp, fun x hx1 y hy => ?_⟩
        rw [List.mem_singleton] at hy
        have := hx x hx1
        rw [hy]
        omega
      · rw [List.length_append, List.length_singleton]; omega
      · intro x hx1
        rcases List.mem_append.mp hx1 with h | h
        · have := hx x h
          exact ⟨this.1, by omega, this.2.2⟩
        · rw [List.mem_singleton] at h
          rw [h]
          exact ⟨by omega, by omega, hg⟩
    · exact ⟨acc, rfl, nd, by omega, fun x h => by
        have := hx x h
        exact ⟨this.1, by omega, this.2.2⟩⟩
  · rintro H' ⟨acc, rfl, nd, hl, hx⟩
    refine ⟨(by show 0 ≤ sizeLine; decide), fun R hR => ?_⟩
    have hDR : D ≠ R := ne_of_none (upd_same (H := H) (a := D)) hR
    have hR0 : H R = none := (same_new hD _).free hR
    refine while_by (fun σ H' => ∃ (c : Int) (left row : List Int) (z : Option V), σ = [some (.int c), some (.int g), some (.int n), some (.bl full), some (.ref D), some (.ref R), z] ∧ Draw H n g D R H' left row)
      (fun σ H' => match H' D with | some (.lst xs) => xs.length | _ => 0)
      ⟨c, acc, [], none, rfl, same_put (same_new hD _) hR0 _, hD, hR0, hDR, by rw [upd_ne hDR, upd_same], upd_same, nd, ?_, ?_⟩ ?_ ?_
    · intro x h
      have := hx x h
      exact ⟨this.1, by omega, this.2.2⟩
    · show acc.length ≤ 6
      omega
    · rintro σ H' ⟨c, left, row, z, rfl, d⟩
      refine ⟨_, rfl, D, _, rfl, .inl (SqL.of d.atD), _, _, rfl, rfl, _, rfl, ?_⟩
      rw [List.length_map]
      refine ite2 (fun c1 => ?_) (fun c1 => ?_)
      · have hl0 : ((left.length : Nat) : Int) > 0 := of_decide_eq_true c1
        have hk : (c % (left.length : Int)).toNat < left.length := by
          have h1 := Int.emod_lt_of_pos c hl0
          omega
        have h1 := Int.emod_lt_of_pos c hl0
        have h0 := Int.emod_nonneg c (show (left.length : Int) ≠ 0 by omega)
        have hlen := d.sm
        rw [List.length_append] at hlen
        have hget : left[(c % (left.length : Int)).toNat]? = some left[(c % (left.length : Int)).toNat] := List.getElem?_eq_getElem hk
        have d2 := d.step hget
        have nRD : R ≠ D := d.ne.symm
        refine ⟨_, rfl, .inl ⟨rfl, _, SqL.of d.atR⟩, ?_⟩
        refine ⟨_, rfl, .inl ⟨rfl, _, SqL.of d.atD⟩, ?_⟩
        refine ⟨_, rfl, _, rfl, D, _, rfl, .inl (SqL.of d.atD), c, (left.length : Int), rfl, by rw [List.length_map], hl0, ?_⟩
        refine ⟨D, _, _, (c % (left.length : Int)).toNat, _, rfl, rfl, d.atD, (by omega), (by omega), ?_, (by rw [List.getElem?_map, hget]; rfl), ?_⟩
        · rw [List.length_map]
          exact seqIx h0 h1
        refine ⟨R, _, _, rfl, rfl, by rw [upd_ne nRD]; exact d.atR, ?_, ?_⟩
        · rw [List.length_map]
          exact small1000 (by omega)
        have eH : upd (upd H' D (.lst ((left.map V.int).eraseIdx (c % (left.length : Int)).toNat))) R (.lst (row.map V.int ++ [V.int left[(c % (left.length : Int)).toNat]])) =
            upd (upd H' D (.lst ((left.eraseIdx (c % (left.length : Int)).toNat).map V.int))) R (.lst ((row ++ [left[(c % (left.length : Int)).toNat]]).map V.int)) := by
          rw [map_erase, List.map_append]; rfl
        rw [eH]
        have hel : (left.eraseIdx (c % (left.length : Int)).toNat).length = left.length - 1 := by rw [List.length_eraseIdx, if_pos hk]
        refine ⟨_, rfl, _, rfl, D, _, rfl, .inl (SqL.of d2.atD), _, _, rfl, rfl, _, _, rfl, rfl, ?_, ?_⟩
        · rw [List.length_map, hel]
          exact ⟨by omega, by omega⟩
        · refine ⟨⟨_, _, _, _, rfl, d2⟩, ?_⟩
          rw [d2.atD, d.atD]
          show (List.map V.int _).length < (List.map V.int _).length
          rw [List.length_map, List.length_map, hel]
          omega
      · have hl0 : left = [] := by
          have : ¬ ((left.length : Nat) : Int) > 0 := of_decide_eq_false (Bool.eq_false_iff.mpr c1)
          cases left with
          | nil => rfl
          | cons a l => simp at this
        subst hl0
        have hG := d.good
        refine ⟨_, rfl, _, rfl, ?_⟩
        refine ite2 (fun c2 => ?_) (fun c2 => ?_)
        · exact ⟨_, rfl, q H' R row d.same d.hR d.atR hG⟩
        · obtain ⟨m, hm⟩ := cut_take row (c % ((((row.map V.int).length : Nat) : Int) + 1))
          refine ⟨_, rfl, _, rfl, _, rfl, R, _, rfl, .inl (SqL.of d.atR), _, _, rfl, rfl, _, _, rfl, rfl, (by show (0 : Int) < (((row.map V.int).length : Nat) : Int) + 1; omega), _, rfl, R, _, rfl, SqL.of d.atR, fun p hp => ?_⟩
          rw [hm]
          exact q _ p (row.take m) (d.same.trans (same_new hp _)) (d.same.free hp) upd_same (hG.take m)
    · rintro σ H' Q1 Q2 hq ⟨v, hv, p, ys, e1, h, i, j, e2, e3, k, e4, hq1⟩
      exact ⟨v, hv, p, ys, e1, h, i, j, e2, e3, k, e4, hq _ _ hq1⟩

/-! ### _law_wishes_by -/
theorem sc_wishes_by : FnScope ["_law_script", "_law_many", "_law_full", "_law_k"] ["_law_script", "_law_many"] (defScope s_wishes_by) := ⟨rfl, rfl, rfl, by decide +kernel, rfl, by decide +kernel, by decide +kernel⟩
def sp_wishes_by (K : PySem.W.Frag) : Sp := fun vs H Q _ => ∃ (a : Addr) (ns : List Int) (n : Nat), vs = [.ref a, .int n] ∧ SqL K H a (ns.map V.int) ∧ 1 ≤ n ∧ n ≤ 6 ∧
  ∀ (H' : Hp) (p : Addr) (ws : List (List Int)), Same H H' → H p = none → Tab K H' p ws → Good ws → ws.length = n → Q (.ref p) H'
theorem ok_wishes_by {f : Addr} {fd : FuncData} (F : Fun K "_law_wishes_by" "_law_wishes_by" s_wishes_by f fd) (T : Own mg) (C1 : Cal P w K mg base 1 "_law_cell_at" ["_law_script", "_law_k"] (sp_cell_at K))
    (C2 : Cal P w K mg base 1 "_law_row_by" ["_law_cell", "_law_guest", "_law_many", "_law_full"] sp_row_by) : FnOk P w K mg base CX0 2 f fd ["_law_script", "_law_many"] (sp_wishes_by K) := by
  obtain ⟨g1, gd1, G1, m1, k1, b1⟩ := C1
  obtain ⟨g2, gd2, G2, m2, k2, b2⟩ := C2
  refine F.ok sc_wishes_by (fun vs H Q E h => ?_) (fun cdv A outer s H vs Q E hr h => ?_)
  · obtain ⟨a, ns, n, rfl, _⟩ := h
    rfl
  obtain ⟨a, ns, n, rfl, hS, n1, n6, q⟩ := h
  refine ⟨_, pss_cons (ps_set (i := 2) sc_wishes_by.nd rfl (Or.inr rfl) (pe_cmpR op_gt (pe_op op_mod (pe_call G1 hr (by rfl) m1 k1 b1 .nil pass0 (pa_cons (pv 0) (pa_cons pe_int pa_nil))) pe_int) pe_int (nomark _)))
    (pss_one (ps_ret (pe_lc (own := [("_law_k", 3)]) (g := gName 3) (tt := tYes) rfl sc_wishes_by.nd (pi_range1 rfl T.rng (pa_cons (pv 1) pa_nil))
      (blkOk_by (N := ["_law_script", "_law_many", "_law_full", "_law_k"]) (sc := defScope s_wishes_by) (by decide +kernel))
      (fun _ _ _ _ _ => pg_name (i := 3) sc_wishes_by.nd rfl (Or.inl rfl)) (fun _ _ _ _ _ => pts_nil)
      (fun _ _ _ _ _ => pe_call G2 hr (by rfl) m2 k2 b2 .nil pass0 (pa_cons (pe_call G1 hr (by rfl) m1 k1 b1 .nil pass0 (pa_cons (pv 0) (pa_cons (pe_op op_add pe_int (pv 3)) pa_nil))) (pa_cons (pv 3) (pa_cons (pv 1) (pa_cons (pv 2) pa_nil)))))))), ?_⟩
  refine ⟨_, rfl, a, ns, 1, rfl, hS, by decide, fun c => ?_⟩
  refine ⟨_, _, rfl, rfl, (by show (0 : Int) < 3; decide), _, _, rfl, rfl, ?_⟩
  refine ⟨_, rfl, (n : Int), rfl, by omega, by omega, fun D hD => ?_⟩
  refine lc_range (lo := 0) (n := (n : Int).toNat) (fun i H' => ∃ ws : List (List Int), Built H D (ws.map fun r => r.map V.int) H' ∧ ws.length = i ∧ ∀ (g : Nat) (r : List Int), ws[g]? = some r → GoodRow n (g : Int) r)
    ⟨[], built_start hD, rfl, fun g r h => by cases h⟩ ?_ ?_
  · rintro i H1 hi ⟨ws, hB, hl, hG⟩
    refine ⟨rfl, ?_⟩
    refine ⟨_, rfl, _, rfl, _, _, rfl, rfl, a, ns, _, rfl, hB.1.seq hS, (by omega), fun c2 => ?_⟩
    refine ⟨_, rfl, _, rfl, _, rfl, c2, (i : Int), n, _, (by rw [Int.zero_add]; rfl), n6, fun H2 p r e hp hp2 hr2 => ?_⟩
    obtain ⟨acc, h1, h2, h3⟩ := built_step hD hB e hp hp2
    refine ⟨acc, h1, ?_, ws ++ [r], ?_, ?_, ?_⟩
    · rw [h2, List.length_map, hl]
      exact small1000 (by omega)
    · rw [List.map_append]; exact h3
    · rw [List.length_append, hl]; rfl
    · intro g r' h
      rw [List.getElem?_append] at h
      by_cases c : g < ws.length
      · rw [if_pos c] at h
        exact hG g r' h
      · rw [if_neg c] at h
        have i0 : g - ws.length = 0 := by
          have := (List.getElem?_eq_some_iff.mp h).1
          simp at this
          omega
        rw [i0] at h
        cases h
        have : g = i := by omega
        rw [this]
        exact hr2
  · rintro H1 ⟨ws, hB, hl, hG⟩
    have hln : ws.length = n := by omega
    exact q H1 D ws hB.1 hD hB.tab.t ⟨by omega, by omega, fun g r h => by rw [hln]; exact hG g r h⟩ hln
end
end B2

namespace B2
open PySem L2
section
variable {P : Program} {w : World} {K : PySem.W.Frag} {mg : Str → Option Value} {base : Heap}

/-! ### _law_suits -/
theorem sc_lsuits : FnScope ["_law_wishes", "_law_one", "_law_other"] ["_law_wishes", "_law_one", "_law_other"] (defScope s_lsuits) := ⟨rfl, rfl, rfl, by decide +kernel, rfl, by decide +kernel, by decide +kernel⟩
theorem ok_lsuits {f : Addr} {fd : FuncData} (F : Fun K "_law_suits" "_law_suits" s_lsuits f fd) : FnOk P w K mg base CX0 1 f fd ["_law_wishes", "_law_one", "_law_other"] (sp_in_both K) := by
  refine F.ok sc_lsuits (fun vs H Q E h => ?_) (fun cdv A outer s H vs Q E hr h => ?_)
  · obtain ⟨a, ws, i, j, rfl, _⟩ := h
    rfl
  obtain ⟨a, ws, i, j, rfl, hT, i0, i1, j0, j1, q⟩ := h
  refine ⟨_, pss_one (ps_ret (pe_and (pe_cmpR op_in_seq (pv 2) (pe_ix ix_list (pv 0) (pv 1) (fun _ _ => rfl)) (by rfl))
    (pe_one (pe_cmpR op_in_seq (pv 1) (pe_ix ix_list (pv 0) (pv 2) (fun _ _ => rfl)) (by rfl))))), ?_⟩
  obtain ⟨as, h1, h2, h3⟩ := hT.at
  obtain ⟨bi, hbi, hsi⟩ := h3 i i0 i1
  obtain ⟨bj, hbj, hsj⟩ := h3 j j0 j1
  refine ⟨_, rfl, _, rfl, _, rfl, a, _, _, _, rfl, rfl, h1, hbi, bi, _, rfl, .inl hsi, rfl, flat_ints _, _, rfl, ?_⟩
  show if inV (.int j) ((rowOf ws i).map V.int) = true then _ else _
  rw [inV_int]
  refine ite2 (fun c => ?_) (fun c => ?_)
  · refine ⟨_, rfl, _, rfl, _, rfl, a, _, _, _, rfl, rfl, h1, hbj, bj, _, rfl, .inl hsj, rfl, flat_ints _, ?_⟩
    show Q (.bl (inV (.int i) ((rowOf ws j).map V.int))) H
    rw [inV_int]
    have e : suitsB ws i j = decide (i ∈ rowOf ws j) := by unfold suitsB; rw [c, Bool.true_and]
    rw [← e]; exact q
  · have e : suitsB ws i j = false := by unfold suitsB; rw [Bool.eq_false_iff.mpr c, Bool.false_and]
    rw [e] at q; exact q

/-! ### _law_rather -/
theorem sc_lrather : FnScope ["_law_wishes", "_law_guest", "_law_one", "_law_other", "_law_thing"] ["_law_wishes", "_law_guest", "_law_one", "_law_other"] (defScope s_lrather) := ⟨rfl, rfl, rfl, by decide +kernel, rfl, by decide +kernel, by decide +kernel⟩
def sp_lrather (K : PySem.W.Frag) : Sp := fun vs H Q _ => ∃ (a : Addr) (ws : List (List Int)) (g : Int) (x y : Option Int), vs = [.ref a, .int g, ov x, ov y] ∧ Tab K H a ws ∧ Good ws ∧
  0 ≤ g ∧ g < (ws.length : Int) ∧ OkO ws.length x ∧ Q (.bl (aheadB ws g x y)) H
theorem ok_lrather {f : Addr} {fd : FuncData} (F : Fun K "_law_rather" "_law_rather" s_lrather f fd) (C1 : Cal P w K mg base 1 "_law_suits" ["_law_wishes", "_law_one", "_law_other"] (sp_in_both K)) :
    FnOk P w K mg base CX0 2 f fd ["_law_wishes", "_law_guest", "_law_one", "_law_other"] (sp_lrather K) := by
  obtain ⟨g1, gd1, G1, m1, k1, b1⟩ := C1
  refine F.ok sc_lrather (fun vs H Q E h => ?_) (fun cdv A outer s H vs Q E hr h => ?_)
  · obtain ⟨a, ws, g, x, y, rfl, _⟩ := h
    rfl
  obtain ⟨a, ws, g, x, y, rfl, hT, hG, g0, g1', hx, q⟩ := h
  refine ⟨_, pss_cons (ps_if (PW.pt (pw_or (pt_cmpR op_isN (pv 2) pe_non (nomark _))
      (pw_or1 (pt_not (pt_val (pe_call G1 hr (by rfl) m1 k1 b1 .nil pass0 (pa_cons (pv 0) (pa_cons (pv 1) (pa_cons (pv 2) pa_nil)))))))))
      (pss_one (ps_ret pe_bl)) pss_nil)
    (pss_cons (ps_for PassesOwn.never rfl (pi_list (pe_ix ix_list (pv 0) (pv 1) (fun _ _ => rfl))) (pg_name (i := 4) sc_lrather.nd rfl (Or.inl rfl))
      (pss_cons (ps_if (PW.pt (pw_and (pt_cmpR op_eq (pv 4) (pv 3) (nomark _)) (pw_and1 (pt_val (pe_call G1 hr (by rfl) m1 k1 b1 .nil pass0 (pa_cons (pv 0) (pa_cons (pv 1) (pa_cons (pv 3) pa_nil))))))))
        (pss_one (ps_ret pe_bl)) pss_nil)
      (pss_one (ps_if (pt_cmpR op_eq (pv 4) (pv 2) (nomark _)) (pss_one (ps_ret pe_bl)) pss_nil))))
    (pss_one (ps_ret pe_bl))), ?_⟩
  rw [← rather_is] at q
  refine ⟨_, rfl, rfl, _, rfl, ?_⟩
  cases x with
  | none => exact iteT q
  | some x =>
  refine iteF ?_
  refine ⟨_, rfl, _, rfl, _, rfl, a, ws, g, x, rfl, hT, g0, g1', hx.1, hx.2, _, rfl, ?_⟩
  have e0 : ratherB ws g (some x) y = if suitsB ws g x = true then scanB (suitsB ws g) x y (rowOf ws g) else false := rfl
  rw [e0] at q
  cases e1 : suitsB ws g x with
  | false =>
    rw [e1] at q
    exact iteT q
  | true =>
  rw [e1, if_pos rfl] at q
  refine iteF ?_
  obtain ⟨as, h1, h2, h3⟩ := hT.at
  obtain ⟨b, hb, hs⟩ := h3 g g0 g1'
  refine ⟨_, rfl, _, rfl, a, _, _, _, rfl, rfl, h1, hb, b, rfl, ⟨_, hs⟩, ?_⟩
  refine for_list (K := K) (a := b) (xs := (rowOf ws g).map V.int) (fun i σ H' => H' = H ∧ (∃ z, σ = [some (.ref a), some (.int g), some (.int x), some (ov y), z]) ∧
      scanB (suitsB ws g) x y (rowOf ws g) = scanB (suitsB ws g) x y ((rowOf ws g).drop i))
    ⟨rfl, ⟨none, rfl⟩, by rw [List.drop_zero]⟩ (fun i σ H' _ h => by rw [h.1]; exact hs) ?_ ?_
  · rintro i u σ H' hu ⟨rfl, ⟨z, rfl⟩, es⟩
    obtain ⟨t, ht, rfl⟩ := map_int_get hu
    obtain ⟨hi, et⟩ := List.getElem?_eq_some_iff.mp ht
    have hm : t ∈ rowOf ws g := List.mem_of_getElem? ht
    obtain ⟨t0, t1, t2⟩ := (rowOf_good hG g0 g1').rg t hm
    have ed : (rowOf ws g).drop i = t :: (rowOf ws g).drop (i + 1) := by rw [← et]; exact List.drop_eq_getElem_cons hi
    rw [ed] at es
    refine ⟨_, rfl, _, rfl, (by cases y <;> rfl), _, rfl, ?_⟩
    have e2 : decide (V.int t = ov y) = decide (some t = y) := ov_dec (some t) y
    rw [e2]
    refine ite2 (fun c => ?_) (fun c => ?_)
    · have c' : some t = y := of_decide_eq_true c
      subst c'
      refine ⟨_, rfl, _, rfl, _, rfl, a, ws, g, t, rfl, hT, g0, g1', t0, t1, _, rfl, ?_⟩
      cases e3 : suitsB ws g t with
      | true =>
        have e4 : scanB (suitsB ws g) x (some t) (t :: (rowOf ws g).drop (i + 1)) = false := by
          unfold scanB
          rw [if_pos (by rw [e3]; simp)]
        rw [es, e4] at q
        exact iteT q
      | false =>
        refine iteF ?_
        have e4 : scanB (suitsB ws g) x (some t) (t :: (rowOf ws g).drop (i + 1)) = if t = x then true else scanB (suitsB ws g) x (some t) ((rowOf ws g).drop (i + 1)) := by
          rw [scanB, if_neg (by rw [e3]; simp)]
        rw [e4] at es
        refine ⟨_, rfl, _, rfl, rfl, _, rfl, ?_⟩
        have e5 : decide (V.int t = V.int x) = decide (t = x) := by
          by_cases h : t = x
          · rw [h]; simp
          · rw [decide_eq_false h, decide_eq_false (fun z => h (by cases z; rfl))]
        rw [e5]
        refine ite2 (fun c => ?_) (fun c => ?_)
        · rw [if_pos (of_decide_eq_true c)] at es
          rw [es] at q
          exact q
        · rw [if_neg (of_decide_eq_false (Bool.eq_false_iff.mpr c))] at es
          exact ⟨rfl, ⟨_, rfl⟩, es⟩
    · have c' : ¬ some t = y := of_decide_eq_false (Bool.eq_false_iff.mpr c)
      have e4 : scanB (suitsB ws g) x y (t :: (rowOf ws g).drop (i + 1)) = if t = x then true else scanB (suitsB ws g) x y ((rowOf ws g).drop (i + 1)) := by
        rw [scanB, if_neg (by rw [decide_eq_false c']; simp)]
      rw [e4] at es
      refine ⟨_, rfl, _, rfl, rfl, _, rfl, ?_⟩
      have e5 : decide (V.int t = V.int x) = decide (t = x) := by
        by_cases h : t = x
        · rw [h]; simp
        · rw [decide_eq_false h, decide_eq_false (fun z => h (by cases z; rfl))]
      rw [e5]
      refine ite2 (fun c => ?_) (fun c => ?_)
      · rw [if_pos (of_decide_eq_true c)] at es
        rw [es] at q
        exact q
      · rw [if_neg (of_decide_eq_false (Bool.eq_false_iff.mpr c))] at es
        exact ⟨rfl, ⟨_, rfl⟩, es⟩
  · rintro σ H' ⟨rfl, ⟨z, rfl⟩, es⟩
    rw [es, List.drop_eq_nil_of_le (by rw [List.length_map]; exact Nat.le_refl _)] at q
    exact q
end
end B2

namespace B2
open PySem L2
section
variable {P : Program} {w : World} {K : PySem.W.Frag} {mg : Str → Option Value} {base : Heap}

/-! ### _law_restless -/
theorem sc_lrestless : FnScope ["_law_wishes", "_law_mates_here", "_law_found", "_law_one", "_law_other"] ["_law_wishes", "_law_mates_here"] (defScope s_lrestless) := ⟨rfl, rfl, rfl, by decide +kernel, rfl, by decide +kernel, by decide +kernel⟩
theorem ok_lrestless {f : Addr} {fd : FuncData} (F : Fun K "_law_restless" "_law_restless" s_lrestless f fd) (T : Own mg) (C1 : Cal P w K mg base 2 "_law_rather" ["_law_wishes", "_law_guest", "_law_one", "_law_other"] (sp_lrather K)) :
    FnOk P w K mg base CX0 3 f fd ["_law_wishes", "_law_mates_here"] (sp_pairs K) := by
  obtain ⟨g1, gd1, G1, m1, k1, b1⟩ := C1
  refine F.ok sc_lrestless (fun vs H Q E h => ?_) (fun cdv A outer s H vs Q E hr h => ?_)
  · obtain ⟨a, b, ws, ms, rfl, _⟩ := h
    rfl
  obtain ⟨a, b, ws, ms, rfl, hT, hG, hM, hO, q⟩ := h
  refine ⟨_, pss_cons (ps_set (i := 2) sc_lrestless.nd rfl (Or.inl rfl) (pe_lst pa_nil))
    (pss_cons (ps_for PassesOwn.never rfl (pi_range1 rfl T.rng (pa_cons (pe_callB call_len_seq (by rfl) T.len PySem.boot_len (pa_cons (pv 0) pa_nil)) pa_nil)) (pg_name (i := 3) sc_lrestless.nd rfl (Or.inl rfl))
      (pss_one (ps_for PassesOwn.never rfl (pi_range2 (by rfl) T.rng (pa_cons (pe_op op_add (pv 3) pe_int) (pa_cons (pe_callB call_len_seq (by rfl) T.len PySem.boot_len (pa_cons (pv 0) pa_nil)) pa_nil))) (pg_name (i := 4) sc_lrestless.nd rfl (Or.inl rfl))
        (pss_one (ps_if (PW.pt (pw_and (pt_val (pe_call G1 hr (by rfl) m1 k1 b1 .nil pass0 (pa_cons (pv 0) (pa_cons (pv 3) (pa_cons (pv 4) (pa_cons (pe_ix ix_list (pv 1) (pv 3) (fun _ _ => rfl)) pa_nil))))))
          (pw_and1 (pt_val (pe_call G1 hr (by rfl) m1 k1 b1 .nil pass0 (pa_cons (pv 0) (pa_cons (pv 4) (pa_cons (pv 3) (pa_cons (pe_ix ix_list (pv 1) (pv 4) (fun _ _ => rfl)) pa_nil)))))))))
          (pss_one (ps_expr (pe_bm PySem.F.plainAttrs_list PySem.F.slot_list_append PySem.F.type_list_append mt_append (pv 2) (pa_cons (pe_tup (pa_cons (pv 3) (pa_cons (pv 4) pa_nil))) pa_nil)))) pss_nil)))))
    (pss_one (ps_ret (pv 2)))), ?_⟩
  obtain ⟨as, h1, h2, h3⟩ := id hT
  have hl : (as.map V.ref).length = ws.length := by rw [List.length_map]; exact h2
  have hi := hG.hi
  have hml := hO.len
  refine ⟨(by show 0 ≤ sizeLine; decide), fun D hD => ?_⟩
  have s0 := same_new hD (.lst [])
  refine ⟨_, rfl, a, _, rfl, .inl (s0.seq h1), (((as.map V.ref).length : Nat) : Int), rfl, by rw [hl]; omega, by rw [hl]; omega, ?_⟩
  refine for_range (lo := 0) (n := (((as.map V.ref).length : Nat) : Int).toNat) (fun i σ H' => BuiltF tupO H D (wildUp ws ms ws.length i) H' ∧ ∃ y z, σ = [some (.ref a), some (.ref b), some (.ref D), y, z])
    ⟨built_start hD, none, none, rfl⟩ ?_ ?_
  · rintro i σ H2 hin ⟨hB, y, z, rfl⟩
    have hin' : i < ws.length := by rw [hl] at hin; omega
    have ei : (0 : Int) + (i : Int) = (i : Int) := Int.zero_add _
    rw [ei]
    refine ⟨_, rfl, _, _, rfl, rfl, _, rfl, a, _, rfl, .inl (hB.1.seq h1), _, _, rfl, ⟨by omega, by omega, by rw [hl]; omega, by rw [hl]; omega⟩, ?_⟩
    rw [hl]
    have en : (((ws.length : Nat) : Int) - ((i : Int) + 1)).toNat = ws.length - (i + 1) := by omega
    refine for_range (lo := (i : Int) + 1) (n := (((ws.length : Nat) : Int) - ((i : Int) + 1)).toNat) (fun t σ H' => BuiltF tupO H D (wildUp ws ms ws.length i ++ wildIn ws ms i t) H' ∧ ∃ z, σ = [some (.ref a), some (.ref b), some (.ref D), some (.int (i : Int)), z])
      ⟨by show BuiltF tupO H D (wildUp ws ms ws.length i ++ []) H2; rw [List.append_nil]; exact hB, _, rfl⟩ ?_ ?_
    · rintro t σ H4 hlt ⟨hB2, z, rfl⟩
      have hT4 := hT.same hB2.1
      have hM4 := hB2.1.seq hM
      refine ⟨_, rfl, _, rfl, _, rfl, _, rfl, _, rfl, b, _, _, _, rfl, rfl, hM4, mt_at (ms := ms) (i := (i : Int)) (by omega) (by omega), ?_⟩
      refine ⟨a, ws, (i : Int), some ((i : Int) + 1 + (t : Int)), mt ms (i : Int), rfl, hT4, hG, by omega, by omega, ⟨by omega, by omega⟩, _, rfl, ?_⟩
      have ew : wildIn ws ms i (t + 1) = wildIn ws ms i t ++ (if wild ws ms (i : Int) ((i : Int) + 1 + (t : Int)) = true then [((i : Int), (i : Int) + 1 + (t : Int))] else []) := rfl
      have eu : wild ws ms (i : Int) ((i : Int) + 1 + (t : Int)) = (aheadB ws (i : Int) (some ((i : Int) + 1 + (t : Int))) (mt ms (i : Int)) && aheadB ws ((i : Int) + 1 + (t : Int)) (some (i : Int)) (mt ms ((i : Int) + 1 + (t : Int)))) := rfl
      rw [ew, eu]
      cases e1 : aheadB ws (i : Int) (some ((i : Int) + 1 + (t : Int))) (mt ms (i : Int)) with
      | false =>
        rw [Bool.false_and]
        refine iteF ⟨?_, _, rfl⟩
        show BuiltF tupO H D (wildUp ws ms ws.length i ++ (wildIn ws ms i t ++ [])) H4
        rw [List.append_nil]
        exact hB2
      | true =>
        rw [Bool.true_and]
        refine iteT ?_
        refine ⟨_, rfl, _, rfl, _, rfl, _, rfl, _, rfl, b, _, _, _, rfl, rfl, hM4, mt_at (ms := ms) (i := (i : Int) + 1 + (t : Int)) (by omega) (by omega), ?_⟩
        refine ⟨a, ws, (i : Int) + 1 + (t : Int), some (i : Int), mt ms ((i : Int) + 1 + (t : Int)), rfl, hT4, hG, by omega, by omega, ⟨by omega, by omega⟩, _, rfl, ?_⟩
        cases e2 : aheadB ws ((i : Int) + 1 + (t : Int)) (some (i : Int)) (mt ms ((i : Int) + 1 + (t : Int))) with
        | false =>
          refine iteF ⟨?_, _, rfl⟩
          show BuiltF tupO H D (wildUp ws ms ws.length i ++ (wildIn ws ms i t ++ [])) H4
          rw [List.append_nil]
          exact hB2
        | true =>
          refine iteT ?_
          obtain ⟨as2, y1, y2, y3⟩ := id hB2.2
          refine ⟨_, rfl, .inl ⟨rfl, _, SqL.of y1⟩, _, rfl, _, rfl, (by show 2 ≤ sizeLine; decide), fun p hp => ?_⟩
          obtain ⟨acc, z1, z2, z3⟩ := built_step (r := ((i : Int), (i : Int) + 1 + (t : Int))) hD hB2 (same_new hp _) hp upd_same
          refine ⟨D, _, _, rfl, rfl, z1, ?_, ?_, _, rfl⟩
          · have l1 := wildUp_le ws ms ws.length i
            have l2 := wildIn_le ws ms i t
            have l3 : i * ws.length ≤ 6 * 6 := Nat.mul_le_mul (by omega) (by omega)
            rw [z2, List.length_append]
            exact small1000 (by omega)
          · show BuiltF tupO H D (wildUp ws ms ws.length i ++ (wildIn ws ms i t ++ [((i : Int), (i : Int) + 1 + (t : Int))])) _
            rw [← List.append_assoc]
            exact z3
    · rintro σ H' ⟨h, z, rfl⟩
      rw [en] at h
      exact ⟨h, _, _, rfl⟩
  · rintro σ H' ⟨h, y, z, rfl⟩
    have e : (((as.map V.ref).length : Nat) : Int).toNat = ws.length := by rw [hl]; omega
    rw [e] at h
    exact ⟨_, rfl, q H' D hD h⟩
end
end B2

namespace B2
open PySem L2
section
variable {P : Program} {w : World} {K : PySem.W.Frag} {mg : Str → Option Value} {base : Heap}

/-! ### _law_whole -/
theorem sc_whole : FnScope ["_law_found"] ["_law_found"] (defScope s_whole) := ⟨rfl, rfl, rfl, by decide +kernel, rfl, by decide +kernel, by decide +kernel⟩
def sp_whole : Sp := fun vs H Q _ => ∃ (i : Int), vs = [.int i] ∧ Q (.bl true) H
theorem ok_whole {f : Addr} {fd : FuncData} (F : Fun K "_law_whole" "_law_whole" s_whole f fd) (T : Own mg) : FnOk P w K mg base CX0 1 f fd ["_law_found"] sp_whole := by
  refine F.ok sc_whole (fun vs H Q E h => ?_) (fun cdv A outer s H vs Q E hr h => ?_)
  · obtain ⟨i, rfl, _⟩ := h
    rfl
  obtain ⟨i, rfl, q⟩ := h
  refine ⟨_, pss_one (ps_ret (pe_and (pe_callB call_isi (by rfl) T.isI (by decide +kernel) (pa_cons (pv 0) (pa_cons (pe_bltn (v := .ty "int") (by rfl) T.int (by decide +kernel) rfl) pa_nil)))
      (pe_one (pe_not (pe_callB call_isi (by rfl) T.isI (by decide +kernel) (pa_cons (pv 0) (pa_cons (pe_bltn (v := .ty "bool") (by rfl) T.bool (by decide +kernel) rfl) pa_nil))))))), ?_⟩
  exact ⟨_, rfl, _, _, _, _, _, rfl, .ty _, .base (.int i), kit_ii, _, rfl, _, rfl, _, _, _, _, _, rfl, .ty _, .base (.int i), kit_ib, _, rfl, q⟩

end
end B2

namespace B2
open PySem L2
section
variable {P : Program} {w : World} {K : PySem.W.Frag} {mg : Str → Option Value} {base : Heap}

/-! ### _law_mates -/
theorem sc_lmates : FnScope ["_law_wishes", "_law_mates_here", "_law_guest", "_law_mate"] ["_law_wishes", "_law_mates_here"] (defScope s_lmates) := ⟨rfl, rfl, rfl, by decide +kernel, rfl, by decide +kernel, by decide +kernel⟩
def sp_lmates (K : PySem.W.Frag) : Sp := fun vs H Q _ => ∃ (a b : Addr) (ws : List (List Int)) (ms : List (Option Int)), vs = [.ref a, .ref b] ∧ Tab K H a ws ∧ ws.length ≤ 6 ∧ SqL K H b (ms.map ov) ∧ OkMates ws ms ∧ Q (.bl true) H
theorem ok_lmates {f : Addr} {fd : FuncData} (F : Fun K "_law_mates" "_law_mates" s_lmates f fd) (T : Own mg) (C1 : Cal P w K mg base 1 "_law_whole" ["_law_found"] sp_whole)
    (C2 : Cal P w K mg base 1 "_law_suits" ["_law_wishes", "_law_one", "_law_other"] (sp_in_both K)) : FnOk P w K mg base CX0 2 f fd ["_law_wishes", "_law_mates_here"] (sp_lmates K) := by
  obtain ⟨g1, gd1, G1, m1, k1, b1⟩ := C1
  obtain ⟨g2, gd2, G2, m2, k2, b2⟩ := C2
  refine F.ok sc_lmates (fun vs H Q E h => ?_) (fun cdv A outer s H vs Q E hr h => ?_)
  · obtain ⟨a, b, ws, ms, rfl, _⟩ := h
    rfl
  obtain ⟨a, b, ws, ms, rfl, hT, h6, hM, hO, q⟩ := h
  refine ⟨_, pss_cons (ps_if (PW.pt (pw_or (pt_not (pt_val (pe_callB call_isi (by rfl) T.isI (by decide +kernel) (pa_cons (pv 1) (pa_cons (pe_bltn (v := .ty "list") (by rfl) T.list (by decide +kernel) rfl) pa_nil)))))
        (pw_or1 (pt_cmpR op_ne (pe_callB call_len_seq (by rfl) T.len PySem.boot_len (pa_cons (pv 1) pa_nil)) (pe_callB call_len_seq (by rfl) T.len PySem.boot_len (pa_cons (pv 0) pa_nil)) (nomark _))))) (pss_one (ps_ret pe_bl)) pss_nil)
    (pss_cons (ps_for PassesOwn.never rfl (pi_range1 rfl T.rng (pa_cons (pe_callB call_len_seq (by rfl) T.len PySem.boot_len (pa_cons (pv 1) pa_nil)) pa_nil)) (pg_name (i := 2) sc_lmates.nd rfl (Or.inl rfl))
      (pss_cons (ps_set (i := 3) sc_lmates.nd rfl (Or.inl rfl) (pe_ix ix_list (pv 1) (pv 2) (fun _ _ => rfl)))
      (pss_one (ps_if (pt_cmpR op_notN (pv 3) pe_non (nomark _))
        (pss_cons (ps_if (PW.pt (pw_or (pt_not (pt_val (pe_call G1 hr (by rfl) m1 k1 b1 .nil pass0 (pa_cons (pv 3) pa_nil))))
            (pw_or (pt_cmpR op_lt (pv 3) pe_int (nomark _))
            (pw_or (pt_cmpR op_ge (pv 3) (pe_callB call_len_seq (by rfl) T.len PySem.boot_len (pa_cons (pv 1) pa_nil)) (nomark _))
            (pw_or1 (pt_cmpR op_ne (pe_ix ix_list (pv 1) (pv 3) (fun _ _ => rfl)) (pv 2) (nomark _))))))) (pss_one (ps_ret pe_bl)) pss_nil)
        (pss_one (ps_if (pt_not (pt_val (pe_call G2 hr (by rfl) m2 k2 b2 .nil pass0 (pa_cons (pv 0) (pa_cons (pv 2) (pa_cons (pv 3) pa_nil)))))) (pss_one (ps_ret pe_bl)) pss_nil))) pss_nil))))
    (pss_one (ps_ret pe_bl))), ?_⟩
  obtain ⟨as, h1, h2, h3⟩ := id hT
  have hl : (as.map V.ref).length = ws.length := by rw [List.length_map]; exact h2
  have hml := hO.len
  have hml2 : (ms.map ov).length = ws.length := by rw [List.length_map]; exact hO.len
  refine ⟨_, rfl, _, _, _, _, _, rfl, .ty _, ty_list hM, kit_ll, _, rfl, iteF ?_⟩
  refine ⟨_, rfl, b, _, rfl, .inl hM, _, rfl, a, _, rfl, .inl h1, rfl, _, rfl, ?_⟩
  rw [decide_eq_true (show V.int ((ms.map ov).length : Nat) = V.int ((as.map V.ref).length : Nat) by rw [hml2, hl])]
  refine iteF ?_
  refine ⟨_, rfl, b, _, rfl, .inl hM, (((ms.map ov).length : Nat) : Int), rfl, by rw [hml2]; omega, by rw [hml2]; omega, ?_⟩
  refine for_range (lo := 0) (n := (((ms.map ov).length : Nat) : Int).toNat) (fun i σ H' => H' = H ∧ ∃ y z, σ = [some (.ref a), some (.ref b), y, z])
    ⟨rfl, none, none, rfl⟩ ?_ ?_
  · rintro i σ H' hin ⟨rfl, y, z, rfl⟩
    have hin' : i < ws.length := by rw [hml2] at hin; omega
    have ei : (0 : Int) + (i : Int) = (i : Int) := Int.zero_add _
    rw [ei]
    refine ⟨_, rfl, _, rfl, b, _, _, _, rfl, rfl, hM, mt_at (ms := ms) (i := (i : Int)) (by omega) (by omega), ?_⟩
    refine ⟨_, rfl, rfl, _, rfl, ?_⟩
    rw [ov_non]
    cases e1 : mt ms (i : Int) with
    | none => exact iteF ⟨rfl, _, _, rfl⟩
    | some m =>
    obtain ⟨p0, p1, p2, p3⟩ := hO.pr (i : Int) m (by omega) (by omega) e1
    refine iteT ?_
    refine ⟨_, rfl, m, rfl, _, rfl, iteF ?_⟩
    refine ⟨_, rfl, _, _, rfl, rfl, _, rfl, ?_⟩
    rw [decide_eq_false (show ¬ m < 0 by omega)]
    refine iteF ?_
    refine ⟨_, rfl, _, rfl, b, _, rfl, .inl hM, _, _, rfl, rfl, _, rfl, ?_⟩
    rw [decide_eq_false (show ¬ m ≥ (((ms.map ov).length : Nat) : Int) by rw [hml2]; omega)]
    refine iteF ?_
    refine ⟨_, rfl, _, rfl, b, _, _, _, rfl, rfl, hM, mt_at (ms := ms) p0 (by omega), ?_⟩
    rw [p2]
    refine ⟨_, rfl, rfl, _, rfl, ?_⟩
    rw [decide_eq_true (show ov (some (i : Int)) = V.int (i : Int) from rfl)]
    refine iteF ?_
    refine ⟨_, rfl, _, rfl, _, rfl, a, ws, (i : Int), m, rfl, hT, by omega, by omega, p0, p1, _, rfl, ?_⟩
    rw [p3]
    exact iteF ⟨rfl, _, _, rfl⟩
  · rintro σ H' ⟨rfl, y, z, rfl⟩
    exact q
end
end B2

namespace B2
open PySem L2

theorem built_set {α : Type} {f : α → HO} {H H1 H2 : Hp} {D p : Addr} {vss : List α} {r : α} {i : Nat} (hD : H D = none) (B : BuiltF f H D vss H1) (e : Same H1 H2) (hp2 : H2 p = some (f r)) (hp : p ≠ D) (h0 : H p = none) (hi : i < vss.length) :
    ∃ acc, H2 D = some (.lst acc) ∧ acc.length = vss.length ∧ BuiltF f H D (vss.set i r) (upd H2 D (.lst (acc.set i (.ref p)))) := by
  obtain ⟨s, as, h1, h2, h3⟩ := B
  refine ⟨_, e _ _ h1, by rw [List.length_map]; exact h2, same_put (s.trans e) hD _, as.set i p, ?_, ?_, fun j q hq => ?_⟩
  · rw [upd_same, List.map_set]
  · rw [List.length_set, List.length_set, h2]
  · rw [List.getElem?_set] at hq
    rw [List.getElem?_set]
    by_cases c : i = j
    · rw [if_pos c, if_pos hi] at hq
      cases hq
      rw [if_pos c, if_pos (by rw [h2]; exact hi)]
      exact ⟨p, rfl, by rw [upd_ne hp]; exact hp2, hp, h0⟩
    · rw [if_neg c] at hq
      rw [if_neg c]
      obtain ⟨b, b1, b2, b3, b4⟩ := h3 j q hq
      exact ⟨b, b1, by rw [upd_ne b3]; exact e _ _ b2, b3, b4⟩

theorem goodRow_of {n : Nat} {g : Int} {r : List Int} (h6 : n ≤ 6) (nd : r.Nodup) (rg : ∀ x ∈ r, 0 ≤ x ∧ x < (n : Int) ∧ x ≠ g) : GoodRow n g r :=
  ⟨nd, rg, Nat.le_trans (nodup_le n r nd fun x hx => ⟨(rg x hx).1, (rg x hx).2.1⟩) h6⟩

/-- a neighbour's list turned about -/
theorem turned_row {n : Nat} {g : Int} {r : List Int} (h6 : n ≤ 6) (g1 : 1 ≤ g) (g2 : g < (n : Int)) (h : GoodRow n (g - 1) r) (k : Nat) (hk : k ≤ 1) :
    GoodRow n g ((r.reverse.filter fun x => decide (x ≠ g)) ++ List.replicate k (g - 1)) := by
  have hm : ∀ x ∈ r.reverse.filter (fun x => decide (x ≠ g)), 0 ≤ x ∧ x < (n : Int) ∧ x ≠ g - 1 ∧ x ≠ g := fun x hx => by
    obtain ⟨a, b⟩ := List.mem_filter.mp hx
    have := h.rg x (List.mem_reverse.mp a)
    exact ⟨this.1, this.2.1, this.2.2, of_decide_eq_true b⟩
  refine goodRow_of h6 ?_ ?_
  · rw [List.nodup_append]
    refine ⟨((List.reverse_perm r).nodup_iff.mpr h.nd).sublist List.filter_sublist, ?_, fun x hx y hy => ?_⟩
    · match k, hk with
      | 0, _ => exact List.nodup_nil
      | 1, _ => simp
    · have := hm x hx
      have e := (List.mem_replicate.mp hy).2
      rw [e]
      exact this.2.2.1
  · intro x hx
    rcases List.mem_append.mp hx with c | c
    · have := hm x c
      exact ⟨this.1, this.2.1, this.2.2.2⟩
    · have e := (List.mem_replicate.mp c).2
      rw [e]
      exact ⟨by omega, by omega, by omega⟩

theorem good_set {ws : List (List Int)} (h : Good ws) {i : Nat} {r : List Int} (hr : GoodRow ws.length (i : Int) r) : Good (ws.set i r) := by
  refine ⟨by rw [List.length_set]; exact h.lo, by rw [List.length_set]; exact h.hi, fun g q hq => ?_⟩
  rw [List.length_set]
  rw [List.getElem?_set] at hq
  by_cases c : i = g
  · rw [if_pos c] at hq
    split at hq
    · cases hq
      rw [← c]
      exact hr
    · cases hq
  · rw [if_neg c] at hq
    exact h.row g q hq

theorem flat_reps (v : V) : ∀ n : Nat, (List.replicate n [v]).flatten = List.replicate n v
  | 0 => rfl
  | n + 1 => by
    rw [List.replicate_succ, List.flatten_cons, flat_reps v n, List.replicate_succ]
    rfl

section
variable {P : Program} {w : World} {K : PySem.W.Frag} {mg : Str → Option Value} {base : Heap}

/-! ### _law_turned -/
theorem sc_turned : FnScope ["_law_wishes", "_law_count", "_law_made", "_law_guest", "_law_row", "_law_one"] ["_law_wishes", "_law_count"] (defScope s_turned) := ⟨rfl, rfl, rfl, by decide +kernel, rfl, by decide +kernel, by decide +kernel⟩
def sp_turned (K : PySem.W.Frag) : Sp := fun vs H Q _ => ∃ (a : Addr) (ws : List (List Int)) (c : Int), vs = [.ref a, .int c] ∧ Tab K H a ws ∧ Good ws ∧ 1 ≤ c ∧ c ≤ 3 ∧
  ∀ (H' : Hp) (p : Addr) (ws' : List (List Int)), Same H H' → H p = none → Tab K H' p ws' → Good ws' → ws'.length = ws.length → Q (.ref p) H'
theorem ok_turned {f : Addr} {fd : FuncData} (F : Fun K "_law_turned" "_law_turned" s_turned f fd) (T : Own mg) : FnOk P w K mg base CX0 1 f fd ["_law_wishes", "_law_count"] (sp_turned K) := by
  refine F.ok sc_turned (fun vs H Q E h => ?_) (fun cdv A outer s H vs Q E hr h => ?_)
  · obtain ⟨a, ws, c, rfl, _⟩ := h
    rfl
  obtain ⟨a, ws, c, rfl, hT, hG, c1, c3, q⟩ := h
  refine ⟨_, pss_cons (ps_setLc (i := 2) (own := [("_law_row", 4)]) (g := gName 4) (tt := tYes) rfl sc_turned.nd rfl rfl (sw_true rfl rfl rfl (by decide +kernel)) (pi_list (pv 0))
      (blkOk_by (N := ["_law_wishes", "_law_count", "_law_made", "_law_guest", "_law_row", "_law_one"]) (sc := defScope s_turned) (by decide +kernel))
      (fun _ _ _ _ _ => pg_name (i := 4) sc_turned.nd rfl (Or.inl rfl)) (fun _ _ _ _ _ => pts_nil) (fun _ _ _ _ _ => pe_callTy (T := "list") (call_lof (K := K) rfl) (by rfl) T.list (by decide +kernel) (pa_cons (pv 4) pa_nil)))
    (pss_cons (ps_for PassesOwn.never rfl (pi_range2 (by rfl) T.rng (pa_cons pe_int (pa_cons (pe_callB (call_min2 rfl) (by rfl) T.min (by decide +kernel) (pa_cons (pe_callB call_len_seq (by rfl) T.len PySem.boot_len (pa_cons (pv 0) pa_nil)) (pa_cons (pe_op op_add pe_int (pv 1)) pa_nil))) pa_nil)))
      (pg_name (i := 3) sc_turned.nd rfl (Or.inr rfl))
      (pss_one (ps_asg (pe_op op_cat
          (pe_lc (own := [("_law_one", 5)]) (g := gName 5) rfl sc_turned.nd (pi_list (pe_revL (pe_ix ix_list (pv 2) (pe_op op_sub (pv 3) pe_int) (fun _ _ => rfl))))
            (blkOk_by (N := ["_law_wishes", "_law_count", "_law_made", "_law_guest", "_law_row", "_law_one"]) (sc := defScope s_turned) (by decide +kernel))
            (fun _ _ _ _ _ => pg_name (i := 5) sc_turned.nd rfl (Or.inl rfl)) (fun _ _ _ _ _ => pts_one (pt_cmpR op_ne (pv 5) (pv 3) (nomark _))) (fun _ _ _ _ _ => pv 5))
          (pe_op op_rep (pe_lst (pa_cons (pe_op op_sub (pv 3) pe_int) pa_nil)) (pe_callTy (T := "int") call_int1 (by rfl) T.int (by decide +kernel) (pa_cons (pe_cmpR op_gt (pv 1) pe_int (nomark _)) pa_nil))))
        (pg_sub (pv 2) (pv 3) set_list))))
    (pss_one (ps_ret (pv 2)))), ?_⟩
  have h6 := hG.hi
  have hlo := hG.lo
  obtain ⟨as, t1, t2, t3⟩ := id hT
  have hl : (as.map V.ref).length = ws.length := by rw [List.length_map]; exact t2
  refine ⟨_, rfl, a, rfl, ⟨_, t1⟩, fun D hD => ?_⟩
  refine lc_list (K := K) (a := a) (xs := as.map V.ref) (fun i H' => Built H D ((ws.take i).map fun r => r.map V.int) H')
    (built_start hD) (fun i H' _ h => h.1.seq t1) ?_ ?_
  · intro i x H3 hx hB
    obtain ⟨b, hb, rfl⟩ := map_ref_get hx
    have hi : i < ws.length := by rw [← t2]; exact (List.getElem?_eq_some_iff.mp hb).1
    obtain ⟨b', hb', hs⟩ := t3 i ws[i] (List.getElem?_eq_getElem hi)
    rw [hb] at hb'
    cases hb'
    refine ⟨rfl, ?_⟩
    refine ⟨_, rfl, b, _, rfl, .inl (hB.1.seq hs), fun l hl' => ?_⟩
    obtain ⟨acc, z1, z2, z3⟩ := built_step hD hB (same_new hl' _) hl' upd_same
    refine ⟨acc, z1, ?_, ?_⟩
    · rw [z2, List.length_map, List.length_take]
      exact small1000 (by omega)
    · rw [take_one (List.getElem?_eq_getElem hi), List.map_append]
      exact z3
  intro H3 hB
  rw [List.take_of_length_le (by rw [hl]; exact Nat.le_refl _)] at hB
  refine ⟨_, rfl, a, _, rfl, .inl (hB.1.seq t1), _, rfl, _, _, rfl, rfl, _, _, rfl, ?_⟩
  rw [hl]
  obtain ⟨m, hm, hm1⟩ : ∃ m : Int, (if 1 + c < ((ws.length : Nat) : Int) then 1 + c else ((ws.length : Nat) : Int)) = m ∧ 1 ≤ m ∧ m ≤ (ws.length : Int) := by
    refine ⟨_, rfl, ?_⟩
    split <;> omega
  rw [hm]
  refine ⟨_, _, rfl, ⟨by omega, by omega, by omega, by omega⟩, ?_⟩
  refine for_range (lo := 1) (n := (m - 1).toNat) (fun i σ H' => ∃ (ws' : List (List Int)) (y : Option V), σ = [some (.ref a), some (.int c), some (.ref D), y, none, none] ∧ Built H D (ws'.map fun r => r.map V.int) H' ∧ Good ws' ∧ ws'.length = ws.length)
    ⟨ws, none, rfl, hB, hG, rfl⟩ ?_ ?_
  · rintro i σ H4 hin ⟨ws', y, rfl, hB4, hG4, hl4⟩
    obtain ⟨e4, bs, d1, d2, d3⟩ := id hB4
    have hi : i < ws'.length := by omega
    have hbg : ∃ b, bs[i]? = some b ∧ H4 b = some (.lst ((rowOf ws' (i : Int)).map V.int)) := by
      have hr := rowOf_get (ws := ws') (i := (i : Int)) (by omega) (by omega)
      have e : ((i : Nat) : Int).toNat = i := by omega
      rw [e] at hr
      obtain ⟨b, b1, b2, _⟩ := d3 i ((rowOf ws' (i : Int)).map V.int) (by rw [List.getElem?_map, hr.1]; rfl)
      exact ⟨b, b1, b2⟩
    obtain ⟨b, hb, hbs⟩ := hbg
    have hat : atI (bs.map V.ref) (1 + (i : Int) - 1) = some (.ref b) := by
      have e : 1 + (i : Int) - 1 = (i : Int) := by omega
      rw [e]
      exact atI_nat (by rw [List.getElem?_map, hb]; rfl)
    refine ⟨_, rfl, _, rfl, _, _, rfl, rfl, D, _, _, _, rfl, rfl, SqL.of d1, hat, ?_⟩
    refine ⟨b, _, rfl, SqL.of hbs, fun R hR => ?_⟩
    refine ⟨R, rfl, ⟨_, SqL.of upd_same⟩, fun L hL => ?_⟩
    have eR := same_new hR (.lst ((rowOf ws' (i : Int)).map V.int).reverse)
    have hgr := rowOf_good hG4 (i := (i : Int)) (by omega) (by omega)
    have er : ((rowOf ws' (i : Int)).map V.int).reverse = (rowOf ws' (i : Int)).reverse.map V.int := by rw [List.map_reverse]
    rw [er] at hL eR ⊢
    generalize hrr : (rowOf ws' (i : Int)).reverse = rr at hL eR
    have hrl : rr.length ≤ 6 := by rw [← hrr, List.length_reverse]; exact hgr.sm
    refine lc_list (K := K) (a := R) (xs := rr.map V.int) (fun t H' => H' = upd (upd H4 R (.lst (rr.map V.int))) L (.lst (((rr.take t).filter fun x => decide (x ≠ 1 + (i : Int))).map V.int)))
      rfl (fun t H' _ h => by rw [h]; exact (same_new hL _).seq (SqL.of upd_same)) ?_ ?_
    · rintro t x H5 hx rfl
      obtain ⟨u, hu, rfl⟩ := map_int_get hx
      refine ⟨rfl, _, rfl, _, rfl, rfl, _, rfl, ?_⟩
      have ed : decide (V.int u = V.int (1 + (i : Int))) = decide (u = 1 + (i : Int)) := by
        by_cases h : u = 1 + (i : Int)
        · rw [h]; simp
        · rw [decide_eq_false h, decide_eq_false (fun z => h (by cases z; rfl))]
      rw [ed, take_one hu, List.filter_append]
      by_cases h : u = 1 + (i : Int)
      · rw [decide_eq_true h]
        have e : [u].filter (fun x => decide (x ≠ 1 + (i : Int))) = [] := by rw [List.filter_cons, if_neg (by simp [h])]; rfl
        rw [e, List.append_nil]
        rfl
      · rw [decide_eq_false h]
        have e : [u].filter (fun x => decide (x ≠ 1 + (i : Int))) = [u] := by rw [List.filter_cons, if_pos (by simp [h])]; rfl
        rw [e]
        refine ⟨_, rfl, _, upd_same, ?_, ?_⟩
        · rw [List.length_map]
          refine small1000 (Nat.le_trans (List.length_filter_le _ _) ?_)
          rw [List.length_take]
          omega
        · rw [upd_upd, List.map_append]
          rfl
    · rintro H5 rfl
      rw [List.take_of_length_le (by rw [List.length_map]; exact Nat.le_refl _)]
      generalize hfl : rr.filter (fun x => decide (x ≠ 1 + (i : Int))) = fl
      have hfll : fl.length ≤ 6 := by rw [← hfl]; exact Nat.le_trans (List.length_filter_le _ _) hrl
      refine ⟨_, rfl, _, _, rfl, rfl, (by show 1 ≤ sizeLine; decide), fun N hN => ?_⟩
      refine ⟨_, rfl, _, _, rfl, rfl, .inr ⟨_, rfl, ?_⟩⟩
      obtain ⟨k, hk, hk1⟩ : ∃ k : Nat, (if decide (c > 1) = true then (1 : Int) else 0) = (k : Int) ∧ k ≤ 1 := by
        by_cases h : c > 1
        · exact ⟨1, by rw [if_pos (decide_eq_true h)]; rfl, by omega⟩
        · exact ⟨0, by rw [if_neg (by simp [h])]; rfl, by omega⟩
      refine ⟨N, (k : Int), _, rfl, (by show V.int _ = _; exact congrArg V.int hk), upd_same, by omega, by omega, ?_, fun R2 hR2 => ?_⟩
      · show 1 * ((k : Nat) : Int).toNat ≤ sizeLine
        exact le_line (by omega)
      have ekn : ((k : Nat) : Int).toNat = k := by omega
      rw [ekn, flat_reps]
      have nLN : L ≠ N := ne_of_none upd_same hN
      have nLR2 : L ≠ R2 := fun z => by
        rw [← z, upd_ne nLN, upd_same] at hR2
        cases hR2
      refine ⟨L, R2, _, _, rfl, rfl, (by rw [upd_ne nLR2, upd_ne nLN]; exact upd_same), upd_same, ?_, fun p hp => ?_⟩
      · rw [List.length_map, List.length_replicate]
        exact le_line (by omega)
      have e5 := e4.trans (eR.trans ((same_new hL (.lst (fl.map V.int))).trans ((same_new hN _).trans ((same_new hR2 _).trans (same_new hp (.lst (fl.map V.int ++ List.replicate k (V.int (1 + (i : Int) - 1)))))))))
      have e45 := eR.trans ((same_new hL (.lst (fl.map V.int))).trans ((same_new hN _).trans ((same_new hR2 _).trans (same_new hp (.lst (fl.map V.int ++ List.replicate k (V.int (1 + (i : Int) - 1))))))))
      have hp4 : H4 p = none := (eR.trans ((same_new hL (.lst (fl.map V.int))).trans ((same_new hN _).trans (same_new hR2 _)))).free hp
      have npD : p ≠ D := (ne_of_none d1 hp4).symm
      have erow : fl.map V.int ++ List.replicate k (V.int (1 + (i : Int) - 1)) = (fl ++ List.replicate k (1 + (i : Int) - 1)).map V.int := by
        rw [List.map_append, List.map_replicate]
      have hnew : GoodRow ws'.length ((1 + i : Nat) : Int) (fl ++ List.replicate k (1 + (i : Int) - 1)) := by
        have e : ((1 + i : Nat) : Int) = 1 + (i : Int) := by omega
        rw [e, ← hfl, ← hrr]
        have e2 : (1 + (i : Int) - 1) = (i : Int) := by omega
        refine turned_row (g := 1 + (i : Int)) (by omega) (by omega) (by omega) ?_ k hk1
        rw [e2]
        exact hgr
      obtain ⟨acc, z1, z2, z3⟩ := built_set (r := (fl ++ List.replicate k (1 + (i : Int) - 1)).map V.int) (i := 1 + i) hD hB4 e45 (p := p) (by rw [upd_same, erow]) npD (e4.free hp4) (by rw [List.length_map]; omega)
      refine ⟨_, rfl, _, rfl, D, _, _, 1 + i, rfl, rfl, z1, ?_, ws'.set (1 + i) (fl ++ List.replicate k (1 + (i : Int) - 1)), _, rfl, ?_, good_set hG4 hnew, by rw [List.length_set]; exact hl4⟩
      · rw [z2, List.length_map]
        have := ixN_of (n := ws'.length) (i := 1 + (i : Int)) (by omega) (by omega)
        rw [this]
        congr 1
      · rw [List.map_set]
        exact z3
  · rintro σ H' ⟨ws', y, rfl, hB', hG', hl'⟩
    exact ⟨_, rfl, q H' D ws' hB'.1 hD hB'.tab.t hG' hl'⟩
end
end B2

namespace B2
open PySem L2
section
variable {P : Program} {w : World} {K : PySem.W.Frag} {mg : Str → Option Value} {base : Heap}

theorem sc_law : FnScope ["_law_script", "_law_many", "_law_wishes", "_law_handed", "_law_found", "_law_mates_here", "_law_guest", "_law_row"] ["_law_script"] (defScope s_law) := ⟨rfl, rfl, rfl, by decide +kernel, rfl, by decide +kernel, by decide +kernel⟩
def sp_law (K : PySem.W.Frag) : Sp := fun vs H Q _ => ∃ (a : Addr) (ns : List Int), vs = [.ref a] ∧ SqL K H a (ns.map V.int) ∧ ns.length ≤ 63 ∧ ∀ H', Q (.bl true) H'
theorem ok_law {f : Addr} {fd : FuncData} (F : Fun K "law" "law" s_law f fd) (T : Own mg) (C1 : Cal P w K mg base 1 "_law_cell_at" ["_law_script", "_law_k"] (sp_cell_at K))
    (C2 : Cal P w K mg base 2 "_law_wishes_by" ["_law_script", "_law_many"] (sp_wishes_by K))
    (C3 : Cal P w K mg base 1 "_law_turned" ["_law_wishes", "_law_count"] (sp_turned K))
    (C4 : Cal P w K mg base 5 "all_calm" ["wishes"] (sp_all_calm K))
    (C5 : Cal P w K mg base 2 "_law_mates" ["_law_wishes", "_law_mates_here"] (sp_lmates K))
    (C6 : Cal P w K mg base 3 "_law_restless" ["_law_wishes", "_law_mates_here"] (sp_pairs K)) : FnOk P w K mg base CX0 6 f fd ["_law_script"] (sp_law K) := by
  obtain ⟨g1, gd1, G1, m1, k1, b1⟩ := C1
  obtain ⟨g2, gd2, G2, m2, k2, b2⟩ := C2
  obtain ⟨g3, gd3, G3, m3, k3, b3⟩ := C3
  obtain ⟨g4, gd4, G4, m4, k4, b4⟩ := C4
  obtain ⟨g5, gd5, G5, m5, k5, b5⟩ := C5
  obtain ⟨g6, gd6, G6, m6, k6, b6⟩ := C6
  refine F.ok sc_law (fun vs H Q E h => ?_) (fun cdv A outer s H vs Q E hr h => ?_)
  · obtain ⟨a, ns, rfl, _⟩ := h
    rfl
  obtain ⟨a, ns, rfl, hS, hlen, q⟩ := h
  have hr1 : Room 1 _ := hr.mono (by decide)
  have hr2 : Room 2 _ := hr.mono (by decide)
  have hr3 : Room 3 _ := hr.mono (by decide)
  have hu := hr.units
  refine ⟨_, pss_cons (ps_set (i := 1) sc_law.nd rfl (Or.inl rfl) (pe_op op_add pe_int (pe_op op_mod (pe_call G1 hr1 (by rfl) m1 k1 b1 .nil pass0 (pa_cons (pv 0) (pa_cons pe_int pa_nil))) pe_int)))
    (Evl.pss_cut (ps_if (PW.pt (pw_and (pt_cmpR op_eq (pv 1) pe_int (nomark _)) (pw_and1 (pt_cmpR op_gt (pe_op op_mod (pe_op op_fdiv (pe_call G1 hr1 (by rfl) m1 k1 b1 .nil pass0 (pa_cons (pv 0) (pa_cons pe_int pa_nil))) pe_int) pe_int) pe_int (nomark _)))))
      (pss_one (ps_set (i := 1) sc_law.nd rfl (Or.inl rfl) pe_int)) pss_nil)
    (pss_cons (ps_set (i := 2) sc_law.nd rfl (Or.inl rfl) (pe_call G2 hr2 (by rfl) m2 k2 b2 .nil pass0 (pa_cons (pv 0) (pa_cons (pv 1) pa_nil))))
    (Evl.pss_cut (ps_if (pt_cmpR op_eq (pe_op op_mod (pe_call G1 hr1 (by rfl) m1 k1 b1 .nil pass0 (pa_cons (pv 0) (pa_cons pe_int pa_nil))) pe_int) pe_int (nomark _))
      (pss_one (ps_set (i := 2) sc_law.nd rfl (Or.inl rfl) (pe_call G3 hr1 (by rfl) m3 k3 b3 .nil pass0 (pa_cons (pv 2) (pa_cons (pe_op op_add pe_int (pe_op op_mod (pe_op op_fdiv (pe_call G1 hr1 (by rfl) m1 k1 b1 .nil pass0 (pa_cons (pv 0) (pa_cons pe_int pa_nil))) pe_int) pe_int)) pa_nil))))) pss_nil)
    (pss_cons (ps_setLc (i := 3) (own := [("_law_row", 7)]) (g := gName 7) (tt := tYes) rfl sc_law.nd rfl rfl (sw_true rfl rfl rfl (by decide +kernel)) (pi_list (pv 2))
      (blkOk_by (N := ["_law_script", "_law_many", "_law_wishes", "_law_handed", "_law_found", "_law_mates_here", "_law_guest", "_law_row"]) (sc := defScope s_law) (by decide +kernel))
      (fun _ _ _ _ _ => pg_name (i := 7) sc_law.nd rfl (Or.inl rfl)) (fun _ _ _ _ _ => pts_nil) (fun _ _ _ _ _ => pe_callTy (T := "list") (call_lof (K := K) rfl) (by rfl) T.list (by decide +kernel) (pa_cons (pv 7) pa_nil)))
    (pss_cons (ps_set (i := 4) sc_law.nd rfl (Or.inl rfl) (pe_call G4 hr (by rfl) m4 k4 b4 .nil pass0 (pa_cons (pv 3) pa_nil)))
    (pss_cons (ps_if (PW.pt (pw_or (pt_not (pt_val (pe_callB call_isi (by rfl) T.isI (by decide +kernel) (pa_cons (pv 4) (pa_cons (pe_bltn (v := .ty "list") (by rfl) T.list (by decide +kernel) rfl) pa_nil)))))
        (pw_or1 (pt_cmpR (op_neD hu) (pv 3) (pv 2) (nomark _))))) (pss_one (ps_ret pe_bl)) pss_nil)
    (pss_cons (ps_for PassesOwn.never rfl (pi_list (pv 4)) (pg_name (i := 5) sc_law.nd rfl (Or.inl rfl))
      (pss_cons (ps_if (PW.pt (pw_or (pt_not (pt_val (pe_call G5 hr2 (by rfl) m5 k5 b5 .nil pass0 (pa_cons (pv 2) (pa_cons (pv 5) pa_nil)))))
          (pw_or1 (pt_cmpR (op_neD hu) (pe_call G6 hr3 (by rfl) m6 k6 b6 .nil pass0 (pa_cons (pv 2) (pa_cons (pv 5) pa_nil))) (pe_lst pa_nil) (nomark _))))) (pss_one (ps_ret pe_bl)) pss_nil)
      (pss_one (ps_for PassesOwn.never rfl (pi_range1 rfl T.rng (pa_cons (pv 1) pa_nil)) (pg_name (i := 6) sc_law.nd rfl (Or.inl rfl))
        (pss_one (ps_if (pt_cmpR op_ne (pe_cmpR op_isN (pe_ix ix_list (pv 5) (pv 6) (fun _ _ => rfl)) pe_non (nomark _)) (pe_cmpR op_isN (pe_ix ix_list (pe_ix ix_list (pv 4) pe_int (fun _ _ => rfl)) (pv 6) (fun _ _ => rfl)) pe_non (nomark _)) (nomark _))
          (pss_one (ps_ret pe_bl)) pss_nil))))))
    (pss_one (ps_ret pe_bl)))))))))
    , ?_⟩
  refine ⟨_, rfl, a, ns, 0, rfl, hS, by decide, fun c => ?_⟩
  refine ⟨_, _, rfl, rfl, (by show (0 : Int) < 6; decide), _, _, rfl, rfl, ?_⟩
  refine ⟨fun σ H' => H' = H ∧ ∃ m : Nat, 1 ≤ m ∧ m ≤ 6 ∧ σ = [some (.ref a), some (.int m), none, none, none, none, none, none], ?_, ?_⟩
  · obtain ⟨n, hn⟩ : ∃ n : Nat, 1 + c % 6 = (n : Int) := ⟨(1 + c % 6).toNat, by omega⟩
    refine ⟨_, rfl, rfl, _, rfl, ?_⟩
    refine ite2 (fun cc => ?_) (fun cc => ?_)
    · refine ⟨_, rfl, a, ns, 0, rfl, hS, by decide, fun c1 => ?_⟩
      refine ⟨_, _, rfl, rfl, ⟨by decide, by decide⟩, _, _, rfl, rfl, (by show (0 : Int) < 3; decide), _, _, rfl, rfl, _, rfl, ?_⟩
      refine ite2 (fun c2 => ?_) (fun c2 => ?_)
      · exact ⟨rfl, 4, by omega, by omega, rfl⟩
      · exact ⟨rfl, n, by omega, by omega, by rw [← hn]; rfl⟩
    · exact ⟨rfl, n, by omega, by omega, by rw [← hn]; rfl⟩
  rintro σ H' ⟨rfl, m, hm1, hm6, rfl⟩
  refine ⟨_, rfl, _, rfl, a, ns, m, rfl, hS, hm1, hm6, fun H1 p ws e1 hp hT hG hl => ?_⟩
  refine ⟨fun σ H' => ∃ (p : Addr) (ws : List (List Int)), σ = [some (.ref a), some (.int m), some (.ref p), none, none, none, none, none] ∧ Tab K H' p ws ∧ Good ws ∧ ws.length = m, ?_, ?_⟩
  · refine ⟨_, rfl, a, ns, 2, rfl, e1.seq hS, by decide, fun c1 => ?_⟩
    refine ⟨_, _, rfl, rfl, (by show (0 : Int) < 3; decide), rfl, _, rfl, ?_⟩
    refine ite2 (fun cc => ?_) (fun cc => ?_)
    · refine ⟨_, rfl, _, rfl, a, ns, 2, rfl, e1.seq hS, by decide, fun c2 => ?_⟩
      refine ⟨_, _, rfl, rfl, ⟨by decide, by decide⟩, _, _, rfl, rfl, (by show (0 : Int) < 3; decide), _, _, rfl, rfl, ?_⟩
      refine ⟨p, ws, 1 + c2 / 3 % 3, rfl, hT, hG, by omega, by omega, fun H2 p2 ws2 e2 hp2 hT2 hG2 hl2 => ?_⟩
      exact ⟨p2, ws2, rfl, hT2, hG2, by omega⟩
    · exact ⟨p, ws, rfl, hT, hG, hl⟩
  clear hl hT hG hp e1 ws p H1
  rintro σ H2 ⟨p, ws, rfl, hT2, hG, hl⟩
  obtain ⟨as, t1, t2, t3⟩ := id hT2
  refine ⟨_, rfl, p, rfl, ⟨_, t1⟩, fun D hD => ?_⟩
  refine lc_list (K := K) (a := p) (xs := as.map V.ref) (fun i H' => Built H2 D ((ws.take i).map fun r => r.map V.int) H')
    (built_start hD) (fun i H' _ h => h.1.seq t1) ?_ ?_
  · intro i x H3 hx hB
    obtain ⟨b, hb, rfl⟩ := map_ref_get hx
    have hi : i < ws.length := by rw [← t2]; exact (List.getElem?_eq_some_iff.mp hb).1
    obtain ⟨b', hb', hs⟩ := t3 i ws[i] (List.getElem?_eq_getElem hi)
    rw [hb] at hb'
    cases hb'
    refine ⟨rfl, ?_⟩
    refine ⟨_, rfl, b, _, rfl, .inl (hB.1.seq hs), fun l hl' => ?_⟩
    obtain ⟨acc, z1, z2, z3⟩ := built_step hD hB (same_new hl' _) hl' upd_same
    refine ⟨acc, z1, ?_, ?_⟩
    · rw [z2, List.length_map, List.length_take]
      have := hG.hi
      exact small1000 (by omega)
    · rw [take_one (List.getElem?_eq_getElem hi), List.map_append]
      exact z3
  intro H3 hB
  rw [List.take_of_length_le (by rw [List.length_map, t2]; exact Nat.le_refl _)] at hB
  have hD3 : Tab K H3 D ws := hB.tab.t
  have hP3 := hT2.same hB.1
  refine ⟨_, rfl, D, ws, rfl, hD3, hG, fun H4 fa hfa hF => ?_⟩
  obtain ⟨e4, fs, r1, r2, r3⟩ := hF
  have hP4 := hP3.same e4
  refine ⟨_, rfl, _, _, _, _, _, rfl, .ty _, .base (.lst r1), kit_ll, _, rfl, iteF ?_⟩
  refine ⟨_, rfl, _, rfl, _, _, (hD3.same e4).dp, hP4.dp, dLL_shaped _, dLL_shaped _, _, rfl, ?_⟩
  rw [dLL_refl]
  refine iteF ?_
  refine ⟨_, rfl, fa, rfl, ⟨_, SqL.of r1⟩, for_list (K := K) (a := fa) (xs := fs.map V.ref) (fun i σ H' => Same H4 H' ∧ ∃ y z, σ = [some (.ref a), some (.int m), some (.ref p), some (.ref D), some (.ref fa), y, z, none])
    ⟨Same.refl H4, none, none, rfl⟩ (fun i σ H' _ h => h.1.seq (SqL.of r1)) ?_ ?_⟩
  · rintro i x σ H5 hx ⟨e5, y, z, rfl⟩
    obtain ⟨b, hb, rfl⟩ := map_ref_get hx
    have hi : i < (allCalm ws).length := by rw [← r2]; exact (List.getElem?_eq_some_iff.mp hb).1
    obtain ⟨b', hb', hs, _⟩ := r3 i (allCalm ws)[i] (List.getElem?_eq_getElem hi)
    rw [hb] at hb'
    cases hb'
    have h0 : 0 < (allCalm ws).length := by omega
    obtain ⟨b0, hb0, hs0, _⟩ := r3 0 (allCalm ws)[0] (List.getElem?_eq_getElem h0)
    have hm : ∀ ms ∈ allCalm ws, OkMates ws ms ∧ (wildAll ws ms).isEmpty = true := fun ms h => by
      obtain ⟨q1, q2⟩ := List.mem_filter.mp h
      exact ⟨stage_ok ws ws.length (Nat.le_refl _) ms q1, q2⟩
    obtain ⟨o1, w1⟩ := hm _ (List.getElem_mem hi)
    obtain ⟨o0, w0⟩ := hm _ (List.getElem_mem h0)
    generalize (allCalm ws)[i] = ms at hs o1 w1
    generalize (allCalm ws)[0] = ms0 at hs0 o0 w0
    refine ⟨_, rfl, _, rfl, p, b, ws, ms, rfl, hP4.same e5, hG.hi, SqL.of (e5 _ _ hs), o1, _, rfl, iteF ?_⟩
    refine ⟨_, rfl, _, rfl, p, b, ws, ms, rfl, hP4.same e5, hG, SqL.of (e5 _ _ hs), o1, fun H6 r hr' hR => ?_⟩
    refine ⟨(by show 0 ≤ sizeLine; decide), fun e he => ?_⟩
    have s6 : Same H6 (upd H6 e (.lst [])) := same_new he _
    have e6 := e5.trans (hR.1.trans s6)
    refine ⟨dPs (wildAll ws ms), dPs [], (hR.prs.same s6).dp, .lst (SqL.of upd_same) .nil, dPs_shaped _, dPs_shaped _, _, rfl, ?_⟩
    rw [dPs_nil, w1]
    refine iteF ?_
    have hml : ms.length = ws.length := o1.len
    have hml0 : ms0.length = ws.length := o0.len
    generalize upd H6 e (.lst []) = H7 at e6
    refine ⟨_, rfl, (m : Int), rfl, by omega, by omega, ?_⟩
    refine for_range (lo := 0) (n := ((m : Nat) : Int).toNat) (fun g σ H' => H' = H7 ∧ ∃ z, σ = [some (.ref a), some (.int m), some (.ref p), some (.ref D), some (.ref fa), some (.ref b), z, none])
      ⟨rfl, _, rfl⟩ ?_ ?_
    · rintro g σ H' hg ⟨rfl, z, rfl⟩
      have ei : (0 : Int) + (g : Int) = (g : Int) := Int.zero_add _
      rw [ei]
      have hat0 : atI (fs.map V.ref) (0 : Int) = some (.ref b0) := atI_nat (j := 0) (by rw [List.getElem?_map, hb0]; rfl)
      refine ⟨_, rfl, _, rfl, b, _, _, _, rfl, rfl, SqL.of (e6 _ _ hs), mt_at (ms := ms) (i := (g : Int)) (by omega) (by omega), rfl, ?_⟩
      refine ⟨_, rfl, fa, _, _, _, rfl, rfl, SqL.of (e6 _ _ r1), hat0, ?_⟩
      refine ⟨_, rfl, b0, _, _, _, rfl, rfl, SqL.of (e6 _ _ hs0), mt_at (ms := ms0) (i := (g : Int)) (by omega) (by omega), rfl, rfl, _, rfl, ?_⟩
      have es : decide (V.bl (decide (ov (mt ms (g : Int)) = V.non)) = V.bl (decide (ov (mt ms0 (g : Int)) = V.non))) = true := by
        rw [ov_non, ov_non, same_alone hG o1 o0 (calm_of w1) (calm_of w0) (a := (g : Int)) (by omega) (by omega)]
        exact decide_eq_true rfl
      rw [es]
      exact iteF ⟨rfl, _, rfl⟩
    · rintro σ H' ⟨rfl, z, rfl⟩
      exact ⟨e6, _, _, rfl⟩
  · rintro σ H' _
    exact q H'
end
end B2

namespace B2
open PySem L2
theorem all_mk {l : PySem.W.OpenLaw} {w : World} {K : PySem.W.Frag} {h : Heap} {mg : Str → Option Value} {fa : Addr} (X : K.In h) (G : h.Ns mainGlobals mg) (hfa : mg "law" = some (.ref fa))
    {f1 f2 f3 f4 f5 f6 f7 f8 f9 f10 f11 f12 f13 f14 f15 f16 f17 f18 f19 f20 : Addr} {od1 an1 od2 an2 od3 an3 od4 an4 od5 an5 od6 an6 od7 an7 od8 an8 od9 an9 od10 an10 od11 an11 od12 an12 od13 an13 od14 an14 od15 an15 od16 an16 od17 an17 od18 an18 od19 an19 od20 an20 : Option Addr} {sl1 sl2 sl3 sl4 sl5 sl6 sl7 sl8 sl9 sl10 sl11 sl12 sl13 sl14 sl15 sl16 sl17 sl18 sl19 sl20 : Array (Option Value)} {oc1 kV1 dc1 pm1 cd1 ct1 oc2 kV2 dc2 pm2 cd2 ct2 oc3 kV3 dc3 pm3 cd3 ct3 oc4 kV4 dc4 pm4 cd4 ct4 oc5 kV5 dc5 pm5 cd5 ct5 oc6 kV6 dc6 pm6 cd6 ct6 oc7 kV7 dc7 pm7 cd7 ct7 oc8 kV8 dc8 pm8 cd8 ct8 oc9 kV9 dc9 pm9 cd9 ct9 oc10 kV10 dc10 pm10 cd10 ct10 oc11 kV11 dc11 pm11 cd11 ct11 oc12 kV12 dc12 pm12 cd12 ct12 oc13 kV13 dc13 pm13 cd13 ct13 oc14 kV14 dc14 pm14 cd14 ct14 oc15 kV15 dc15 pm15 cd15 ct15 oc16 kV16 dc16 pm16 cd16 ct16 oc17 kV17 dc17 pm17 cd17 ct17 oc18 kV18 dc18 pm18 cd18 ct18 oc19 kV19 dc19 pm19 cd19 ct19 oc20 kV20 dc20 pm20 cd20 ct20 : Value}
    (a1 : PySem.W.nsIn K mainGlobals "is_guest" = some (some (.ref f1))) (l1 : K.lookup f1 = some ⟨oc1, od1, .func (PySem.W.fnOf "is_guest" "is_guest" (defArgs s_is_guest) (defBody s_is_guest) (defScope s_is_guest) .none kV1 dc1 pm1 an1 cd1 ct1), sl1⟩) (c1 : PySem.W.codeIn K cd1 "is_guest" = true) (k1 : PySem.W.keepIn K (.ref f1) = true)
    (a2 : PySem.W.nsIn K mainGlobals "need_row" = some (some (.ref f2))) (l2 : K.lookup f2 = some ⟨oc2, od2, .func (PySem.W.fnOf "need_row" "need_row" (defArgs s_need_row) (defBody s_need_row) (defScope s_need_row) .none kV2 dc2 pm2 an2 cd2 ct2), sl2⟩) (c2 : PySem.W.codeIn K cd2 "need_row" = true) (k2 : PySem.W.keepIn K (.ref f2) = true)
    (a3 : PySem.W.nsIn K mainGlobals "need_wishes" = some (some (.ref f3))) (l3 : K.lookup f3 = some ⟨oc3, od3, .func (PySem.W.fnOf "need_wishes" "need_wishes" (defArgs s_need_wishes) (defBody s_need_wishes) (defScope s_need_wishes) .none kV3 dc3 pm3 an3 cd3 ct3), sl3⟩) (c3 : PySem.W.codeIn K cd3 "need_wishes" = true) (k3 : PySem.W.keepIn K (.ref f3) = true)
    (a4 : PySem.W.nsIn K mainGlobals "in_both" = some (some (.ref f4))) (l4 : K.lookup f4 = some ⟨oc4, od4, .func (PySem.W.fnOf "in_both" "in_both" (defArgs s_in_both) (defBody s_in_both) (defScope s_in_both) .none kV4 dc4 pm4 an4 cd4 ct4), sl4⟩) (c4 : PySem.W.codeIn K cd4 "in_both" = true) (k4 : PySem.W.keepIn K (.ref f4) = true)
    (a5 : PySem.W.nsIn K mainGlobals "is_ahead" = some (some (.ref f5))) (l5 : K.lookup f5 = some ⟨oc5, od5, .func (PySem.W.fnOf "is_ahead" "is_ahead" (defArgs s_is_ahead) (defBody s_is_ahead) (defScope s_is_ahead) .none kV5 dc5 pm5 an5 cd5 ct5), sl5⟩) (c5 : PySem.W.codeIn K cd5 "is_ahead" = true) (k5 : PySem.W.keepIn K (.ref f5) = true)
    (a6 : PySem.W.nsIn K mainGlobals "restless_pairs" = some (some (.ref f6))) (l6 : K.lookup f6 = some ⟨oc6, od6, .func (PySem.W.fnOf "restless_pairs" "restless_pairs" (defArgs s_restless_pairs) (defBody s_restless_pairs) (defScope s_restless_pairs) .none kV6 dc6 pm6 an6 cd6 ct6), sl6⟩) (c6 : PySem.W.codeIn K cd6 "restless_pairs" = true) (k6 : PySem.W.keepIn K (.ref f6) = true)
    (a7 : PySem.W.nsIn K mainGlobals "joined" = some (some (.ref f7))) (l7 : K.lookup f7 = some ⟨oc7, od7, .func (PySem.W.fnOf "joined" "joined" (defArgs s_joined) (defBody s_joined) (defScope s_joined) .none kV7 dc7 pm7 an7 cd7 ct7), sl7⟩) (c7 : PySem.W.codeIn K cd7 "joined" = true) (k7 : PySem.W.keepIn K (.ref f7) = true)
    (a8 : PySem.W.nsIn K mainGlobals "settled" = some (some (.ref f8))) (l8 : K.lookup f8 = some ⟨oc8, od8, .func (PySem.W.fnOf "settled" "settled" (defArgs s_settled) (defBody s_settled) (defScope s_settled) .none kV8 dc8 pm8 an8 cd8 ct8), sl8⟩) (c8 : PySem.W.codeIn K cd8 "settled" = true) (k8 : PySem.W.keepIn K (.ref f8) = true)
    (a9 : PySem.W.nsIn K mainGlobals "all_twos" = some (some (.ref f9))) (l9 : K.lookup f9 = some ⟨oc9, od9, .func (PySem.W.fnOf "all_twos" "all_twos" (defArgs s_all_twos) (defBody s_all_twos) (defScope s_all_twos) .none kV9 dc9 pm9 an9 cd9 ct9), sl9⟩) (c9 : PySem.W.codeIn K cd9 "all_twos" = true) (k9 : PySem.W.keepIn K (.ref f9) = true)
    (a10 : PySem.W.nsIn K mainGlobals "all_calm" = some (some (.ref f10))) (l10 : K.lookup f10 = some ⟨oc10, od10, .func (PySem.W.fnOf "all_calm" "all_calm" (defArgs s_all_calm) (defBody s_all_calm) (defScope s_all_calm) .none kV10 dc10 pm10 an10 cd10 ct10), sl10⟩) (c10 : PySem.W.codeIn K cd10 "all_calm" = true) (k10 : PySem.W.keepIn K (.ref f10) = true)
    (a11 : PySem.W.nsIn K mainGlobals "_law_cell_at" = some (some (.ref f11))) (l11 : K.lookup f11 = some ⟨oc11, od11, .func (PySem.W.fnOf "_law_cell_at" "_law_cell_at" (defArgs s_cell_at) (defBody s_cell_at) (defScope s_cell_at) .none kV11 dc11 pm11 an11 cd11 ct11), sl11⟩) (c11 : PySem.W.codeIn K cd11 "_law_cell_at" = true) (k11 : PySem.W.keepIn K (.ref f11) = true)
    (a12 : PySem.W.nsIn K mainGlobals "_law_row_by" = some (some (.ref f12))) (l12 : K.lookup f12 = some ⟨oc12, od12, .func (PySem.W.fnOf "_law_row_by" "_law_row_by" (defArgs s_row_by) (defBody s_row_by) (defScope s_row_by) .none kV12 dc12 pm12 an12 cd12 ct12), sl12⟩) (c12 : PySem.W.codeIn K cd12 "_law_row_by" = true) (k12 : PySem.W.keepIn K (.ref f12) = true)
    (a13 : PySem.W.nsIn K mainGlobals "_law_wishes_by" = some (some (.ref f13))) (l13 : K.lookup f13 = some ⟨oc13, od13, .func (PySem.W.fnOf "_law_wishes_by" "_law_wishes_by" (defArgs s_wishes_by) (defBody s_wishes_by) (defScope s_wishes_by) .none kV13 dc13 pm13 an13 cd13 ct13), sl13⟩) (c13 : PySem.W.codeIn K cd13 "_law_wishes_by" = true) (k13 : PySem.W.keepIn K (.ref f13) = true)
    (a14 : PySem.W.nsIn K mainGlobals "_law_whole" = some (some (.ref f14))) (l14 : K.lookup f14 = some ⟨oc14, od14, .func (PySem.W.fnOf "_law_whole" "_law_whole" (defArgs s_whole) (defBody s_whole) (defScope s_whole) .none kV14 dc14 pm14 an14 cd14 ct14), sl14⟩) (c14 : PySem.W.codeIn K cd14 "_law_whole" = true) (k14 : PySem.W.keepIn K (.ref f14) = true)
    (a15 : PySem.W.nsIn K mainGlobals "_law_suits" = some (some (.ref f15))) (l15 : K.lookup f15 = some ⟨oc15, od15, .func (PySem.W.fnOf "_law_suits" "_law_suits" (defArgs s_lsuits) (defBody s_lsuits) (defScope s_lsuits) .none kV15 dc15 pm15 an15 cd15 ct15), sl15⟩) (c15 : PySem.W.codeIn K cd15 "_law_suits" = true) (k15 : PySem.W.keepIn K (.ref f15) = true)
    (a16 : PySem.W.nsIn K mainGlobals "_law_rather" = some (some (.ref f16))) (l16 : K.lookup f16 = some ⟨oc16, od16, .func (PySem.W.fnOf "_law_rather" "_law_rather" (defArgs s_lrather) (defBody s_lrather) (defScope s_lrather) .none kV16 dc16 pm16 an16 cd16 ct16), sl16⟩) (c16 : PySem.W.codeIn K cd16 "_law_rather" = true) (k16 : PySem.W.keepIn K (.ref f16) = true)
    (a17 : PySem.W.nsIn K mainGlobals "_law_restless" = some (some (.ref f17))) (l17 : K.lookup f17 = some ⟨oc17, od17, .func (PySem.W.fnOf "_law_restless" "_law_restless" (defArgs s_lrestless) (defBody s_lrestless) (defScope s_lrestless) .none kV17 dc17 pm17 an17 cd17 ct17), sl17⟩) (c17 : PySem.W.codeIn K cd17 "_law_restless" = true) (k17 : PySem.W.keepIn K (.ref f17) = true)
    (a18 : PySem.W.nsIn K mainGlobals "_law_mates" = some (some (.ref f18))) (l18 : K.lookup f18 = some ⟨oc18, od18, .func (PySem.W.fnOf "_law_mates" "_law_mates" (defArgs s_lmates) (defBody s_lmates) (defScope s_lmates) .none kV18 dc18 pm18 an18 cd18 ct18), sl18⟩) (c18 : PySem.W.codeIn K cd18 "_law_mates" = true) (k18 : PySem.W.keepIn K (.ref f18) = true)
    (a19 : PySem.W.nsIn K mainGlobals "_law_turned" = some (some (.ref f19))) (l19 : K.lookup f19 = some ⟨oc19, od19, .func (PySem.W.fnOf "_law_turned" "_law_turned" (defArgs s_turned) (defBody s_turned) (defScope s_turned) .none kV19 dc19 pm19 an19 cd19 ct19), sl19⟩) (c19 : PySem.W.codeIn K cd19 "_law_turned" = true) (k19 : PySem.W.keepIn K (.ref f19) = true)
    (a20 : PySem.W.nsIn K mainGlobals "law" = some (some (.ref f20))) (l20 : K.lookup f20 = some ⟨oc20, od20, .func (PySem.W.fnOf "law" "law" (defArgs s_law) (defBody s_law) (defScope s_law) .none kV20 dc20 pm20 an20 cd20 ct20), sl20⟩) (c20 : PySem.W.codeIn K cd20 "law" = true) (k20 : PySem.W.keepIn K (.ref f20) = true)
    (z_len : PySem.W.nsIn K mainGlobals "len" = some none)
    (z_rng : PySem.W.nsIn K mainGlobals "range" = some none)
    (z_isI : PySem.W.nsIn K mainGlobals "isinstance" = some none)
    (z_int : PySem.W.nsIn K mainGlobals "int" = some none)
    (z_bool : PySem.W.nsIn K mainGlobals "bool" = some none)
    (z_list : PySem.W.nsIn K mainGlobals "list" = some none)
    (z_set : PySem.W.nsIn K mainGlobals "set" = some none)
    (z_enm : PySem.W.nsIn K mainGlobals "enumerate" = some none)
    (z_min : PySem.W.nsIn K mainGlobals "min" = some none)
    {t_mg : Tok} (y_mg : PySem.W.nsIn K mainGlobals "MOST_GUESTS" = some (some (.int 6 t_mg)))
    :
    ∃ fd : FuncData, (∀ (s : Shared) (v : Value), BindsTo s fd ⟨[v], []⟩ [("_law_script", v)]) ∧ ∀ base : Heap, K.In base → base.Ns mainGlobals mg → FnOk l.prog w K mg base CX0 6 fa fd ["_law_script"] (sp_law K) := by
  have e := hfa.symm.trans (PySem.W.mg_of X G a20)
  cases e
  have T : Own mg := ⟨PySem.W.mg_none_of X G z_len, PySem.W.mg_none_of X G z_rng, PySem.W.mg_none_of X G z_isI, PySem.W.mg_none_of X G z_int, PySem.W.mg_none_of X G z_bool, PySem.W.mg_none_of X G z_list, PySem.W.mg_none_of X G z_set, PySem.W.mg_none_of X G z_enm, PySem.W.mg_none_of X G z_min⟩
  have F1 := fun_mk (st := s_is_guest) l1 c1 k1
  have b1 := F1.binds (ps := ["number", "many"]) fun _ _ _ _ _ _ us hl => match us, hl with | [_, _], _ => rfl
  have F2 := fun_mk (st := s_need_row) l2 c2 k2
  have b2 := F2.binds (ps := ["row", "guest", "many"]) fun _ _ _ _ _ _ us hl => match us, hl with | [_, _, _], _ => rfl
  have F3 := fun_mk (st := s_need_wishes) l3 c3 k3
  have b3 := F3.binds (ps := ["wishes"]) fun _ _ _ _ _ _ us hl => match us, hl with | [_], _ => rfl
  have F4 := fun_mk (st := s_in_both) l4 c4 k4
  have b4 := F4.binds (ps := ["wishes", "one", "other"]) fun _ _ _ _ _ _ us hl => match us, hl with | [_, _, _], _ => rfl
  have F5 := fun_mk (st := s_is_ahead) l5 c5 k5
  have b5 := F5.binds (ps := ["wishes", "guest", "one", "other"]) fun _ _ _ _ _ _ us hl => match us, hl with | [_, _, _, _], _ => rfl
  have F6 := fun_mk (st := s_restless_pairs) l6 c6 k6
  have b6 := F6.binds (ps := ["wishes", "mates"]) fun _ _ _ _ _ _ us hl => match us, hl with | [_, _], _ => rfl
  have F7 := fun_mk (st := s_joined) l7 c7 k7
  have b7 := F7.binds (ps := ["mates", "one", "other"]) fun _ _ _ _ _ _ us hl => match us, hl with | [_, _, _], _ => rfl
  have F8 := fun_mk (st := s_settled) l8 c8 k8
  have b8 := F8.binds (ps := ["wishes", "mates", "guest"]) fun _ _ _ _ _ _ us hl => match us, hl with | [_, _, _], _ => rfl
  have F9 := fun_mk (st := s_all_twos) l9 c9 k9
  have b9 := F9.binds (ps := ["wishes"]) fun _ _ _ _ _ _ us hl => match us, hl with | [_], _ => rfl
  have F10 := fun_mk (st := s_all_calm) l10 c10 k10
  have b10 := F10.binds (ps := ["wishes"]) fun _ _ _ _ _ _ us hl => match us, hl with | [_], _ => rfl
  have F11 := fun_mk (st := s_cell_at) l11 c11 k11
  have b11 := F11.binds (ps := ["_law_script", "_law_k"]) fun _ _ _ _ _ _ us hl => match us, hl with | [_, _], _ => rfl
  have F12 := fun_mk (st := s_row_by) l12 c12 k12
  have b12 := F12.binds (ps := ["_law_cell", "_law_guest", "_law_many", "_law_full"]) fun _ _ _ _ _ _ us hl => match us, hl with | [_, _, _, _], _ => rfl
  have F13 := fun_mk (st := s_wishes_by) l13 c13 k13
  have b13 := F13.binds (ps := ["_law_script", "_law_many"]) fun _ _ _ _ _ _ us hl => match us, hl with | [_, _], _ => rfl
  have F14 := fun_mk (st := s_whole) l14 c14 k14
  have b14 := F14.binds (ps := ["_law_found"]) fun _ _ _ _ _ _ us hl => match us, hl with | [_], _ => rfl
  have F15 := fun_mk (st := s_lsuits) l15 c15 k15
  have b15 := F15.binds (ps := ["_law_wishes", "_law_one", "_law_other"]) fun _ _ _ _ _ _ us hl => match us, hl with | [_, _, _], _ => rfl
  have F16 := fun_mk (st := s_lrather) l16 c16 k16
  have b16 := F16.binds (ps := ["_law_wishes", "_law_guest", "_law_one", "_law_other"]) fun _ _ _ _ _ _ us hl => match us, hl with | [_, _, _, _], _ => rfl
  have F17 := fun_mk (st := s_lrestless) l17 c17 k17
  have b17 := F17.binds (ps := ["_law_wishes", "_law_mates_here"]) fun _ _ _ _ _ _ us hl => match us, hl with | [_, _], _ => rfl
  have F18 := fun_mk (st := s_lmates) l18 c18 k18
  have b18 := F18.binds (ps := ["_law_wishes", "_law_mates_here"]) fun _ _ _ _ _ _ us hl => match us, hl with | [_, _], _ => rfl
  have F19 := fun_mk (st := s_turned) l19 c19 k19
  have b19 := F19.binds (ps := ["_law_wishes", "_law_count"]) fun _ _ _ _ _ _ us hl => match us, hl with | [_, _], _ => rfl
  have F20 := fun_mk (st := s_law) l20 c20 k20
  refine ⟨PySem.W.fnOf "law" "law" (defArgs s_law) (defBody s_law) (defScope s_law) .none kV20 dc20 pm20 an20 cd20 ct20, fun s v => .of_eq rfl, fun base _ _ => ?_⟩
  have C1 : Cal l.prog w K mg base 1 "is_guest" ["number", "many"] sp_is_guest := ⟨⟨_, _, ok_is_guest F1 T, PySem.W.mg_of X G a1, k1, b1⟩⟩
  have C2 : Cal l.prog w K mg base 2 "need_row" ["row", "guest", "many"] (sp_need_row K) := ⟨⟨_, _, ok_need_row F2 T C1, PySem.W.mg_of X G a2, k2, b2⟩⟩
  have C3 : Cal l.prog w K mg base 3 "need_wishes" ["wishes"] (sp_need_wishes K) := ⟨⟨_, _, ok_need_wishes F3 T ⟨_, PySem.W.mg_of X G y_mg⟩ C2, PySem.W.mg_of X G a3, k3, b3⟩⟩
  have C4 : Cal l.prog w K mg base 1 "in_both" ["wishes", "one", "other"] (sp_in_both K) := ⟨⟨_, _, ok_in_both F4, PySem.W.mg_of X G a4, k4, b4⟩⟩
  have C5 : Cal l.prog w K mg base 2 "is_ahead" ["wishes", "guest", "one", "other"] (sp_is_ahead K) := ⟨⟨_, _, ok_is_ahead F5 C4, PySem.W.mg_of X G a5, k5, b5⟩⟩
  have C6 : Cal l.prog w K mg base 3 "restless_pairs" ["wishes", "mates"] (sp_pairs K) := ⟨⟨_, _, ok_restless_pairs F6 T C5, PySem.W.mg_of X G a6, k6, b6⟩⟩
  have C7 : Cal l.prog w K mg base 1 "joined" ["mates", "one", "other"] (sp_joined K) := ⟨⟨_, _, ok_joined F7 T, PySem.W.mg_of X G a7, k7, b7⟩⟩
  have C8 : Cal l.prog w K mg base 2 "settled" ["wishes", "mates", "guest"] (sp_settled K) := ⟨⟨_, _, ok_settled F8 T C4 C7, PySem.W.mg_of X G a8, k8, b8⟩⟩
  have C9 : Cal l.prog w K mg base 4 "all_twos" ["wishes"] (sp_all_twos K) := ⟨⟨_, _, ok_all_twos F9 T C3 C8, PySem.W.mg_of X G a9, k9, b9⟩⟩
  have C10 : Cal l.prog w K mg base 5 "all_calm" ["wishes"] (sp_all_calm K) := ⟨⟨_, _, ok_all_calm F10 C9 C6, PySem.W.mg_of X G a10, k10, b10⟩⟩
  have C11 : Cal l.prog w K mg base 1 "_law_cell_at" ["_law_script", "_law_k"] (sp_cell_at K) := ⟨⟨_, _, ok_cell_at F11 T, PySem.W.mg_of X G a11, k11, b11⟩⟩
  have C12 : Cal l.prog w K mg base 1 "_law_row_by" ["_law_cell", "_law_guest", "_law_many", "_law_full"] sp_row_by := ⟨⟨_, _, ok_row_by F12 T, PySem.W.mg_of X G a12, k12, b12⟩⟩
  have C13 : Cal l.prog w K mg base 2 "_law_wishes_by" ["_law_script", "_law_many"] (sp_wishes_by K) := ⟨⟨_, _, ok_wishes_by F13 T C11 C12, PySem.W.mg_of X G a13, k13, b13⟩⟩
  have C14 : Cal l.prog w K mg base 1 "_law_whole" ["_law_found"] sp_whole := ⟨⟨_, _, ok_whole F14 T, PySem.W.mg_of X G a14, k14, b14⟩⟩
  have C15 : Cal l.prog w K mg base 1 "_law_suits" ["_law_wishes", "_law_one", "_law_other"] (sp_in_both K) := ⟨⟨_, _, ok_lsuits F15, PySem.W.mg_of X G a15, k15, b15⟩⟩
  have C16 : Cal l.prog w K mg base 2 "_law_rather" ["_law_wishes", "_law_guest", "_law_one", "_law_other"] (sp_lrather K) := ⟨⟨_, _, ok_lrather F16 C15, PySem.W.mg_of X G a16, k16, b16⟩⟩
  have C17 : Cal l.prog w K mg base 3 "_law_restless" ["_law_wishes", "_law_mates_here"] (sp_pairs K) := ⟨⟨_, _, ok_lrestless F17 T C16, PySem.W.mg_of X G a17, k17, b17⟩⟩
  have C18 : Cal l.prog w K mg base 2 "_law_mates" ["_law_wishes", "_law_mates_here"] (sp_lmates K) := ⟨⟨_, _, ok_lmates F18 T C14 C15, PySem.W.mg_of X G a18, k18, b18⟩⟩
  have C19 : Cal l.prog w K mg base 1 "_law_turned" ["_law_wishes", "_law_count"] (sp_turned K) := ⟨⟨_, _, ok_turned F19 T, PySem.W.mg_of X G a19, k19, b19⟩⟩
  exact ok_law F20 T C11 C13 C19 C10 C18 C17
theorem walk {l : PySem.W.OpenLaw} {q : Program} {loose : List Str} {XP : (Str → Option Value) → Heap → Prop} {YP : World → Heap → Prop} {d : DefRec} {K : Params → PySem.W.Frag} (hn : l.most = some 63) (hdf : d.params.defaults = [])
    (hY : ∀ (w : World) (h : Heap), YP w h → (K w.params).In h)
    (F : ∀ (w : World) (mg : Str → Option Value) (fa : Addr) (h : Heap), (K w.params).In h → h.Ns mainGlobals mg → mg d.name = some (.ref fa) →
      ∃ fd : FuncData, (∀ (s : Shared) (u : Value), BindsTo s fd ⟨[u], []⟩ [("_law_script", u)]) ∧ ∀ base : Heap, (K w.params).In base → base.Ns mainGlobals mg → FnOk l.prog w (K w.params) mg base CX0 6 fa fd ["_law_script"] (sp_law (K w.params))) :
    PySem.W.WalkO q loose XP YP l.row.toRowW d [] (fun f vs => PySem.call f vs) :=
  L2.walk_of (n := 63) (k := 6) (x := "_law_script") (CX := fun _ => CX0) (sp := fun w => sp_law (K w.params)) hn (by decide) hdf ⟨rfl, by decide, by decide⟩ hY F (fun _ _ a ns hl _ hS => ⟨a, ns, rfl, hS, hl, fun _ => rfl⟩) fun _ _ _ _ _ z => z
end B2

open PySem PySem.W PyProof.Rows in
set_option maxRecDepth 100000 in
set_option maxHeartbeats 0 in
theorem PySem.Challenge.cw_bedtwos_k09_whole_same_alone_holds : PySem.Challenge.rw_bedtwos_k09_whole_same_alone.Holds := by
  w_on; o_law; k_head; (case hw => w_witness2)
  k_fill
  refine B2.walk (l := PySem.Challenge.rw_bedtwos_k09_whole_same_alone) rfl rfl (fun w h Y => PySem.W.kIn_of Y) ?F
  case F =>
    intro w mg fa h KX G hmg
    refine' B2.all_mk KX G hmg ?a1 ?l1 ?c1 ?k1 ?a2 ?l2 ?c2 ?k2 ?a3 ?l3 ?c3 ?k3 ?a4 ?l4 ?c4 ?k4 ?a5 ?l5 ?c5 ?k5 ?a6 ?l6 ?c6 ?k6 ?a7 ?l7 ?c7 ?k7 ?a8 ?l8 ?c8 ?k8 ?a9 ?l9 ?c9 ?k9 ?a10 ?l10 ?c10 ?k10 ?a11 ?l11 ?c11 ?k11 ?a12 ?l12 ?c12 ?k12 ?a13 ?l13 ?c13 ?k13 ?a14 ?l14 ?c14 ?k14 ?a15 ?l15 ?c15 ?k15 ?a16 ?l16 ?c16 ?k16 ?a17 ?l17 ?c17 ?k17 ?a18 ?l18 ?c18 ?k18 ?a19 ?l19 ?c19 ?k19 ?a20 ?l20 ?c20 ?k20 ?z_len ?z_rng ?z_isI ?z_int ?z_bool ?z_list ?z_set ?z_enm ?z_min ?y_mg
    (case a1 => k_is)
    (case l1 => k_is)
    (case c1 => k_is)
    (case k1 => k_is)
    (case a2 => k_is)
    (case l2 => k_is)
    (case c2 => k_is)
    (case k2 => k_is)
    (case a3 => k_is)
    (case l3 => k_is)
    (case c3 => k_is)
    (case k3 => k_is)
    (case a4 => k_is)
    (case l4 => k_is)
    (case c4 => k_is)
    (case k4 => k_is)
    (case a5 => k_is)
    (case l5 => k_is)
    (case c5 => k_is)
    (case k5 => k_is)
    (case a6 => k_is)
    (case l6 => k_is)
    (case c6 => k_is)
    (case k6 => k_is)
    (case a7 => k_is)
    (case l7 => k_is)
    (case c7 => k_is)
    (case k7 => k_is)
    (case a8 => k_is)
    (case l8 => k_is)
    (case c8 => k_is)
    (case k8 => k_is)
    (case a9 => k_is)
    (case l9 => k_is)
    (case c9 => k_is)
    (case k9 => k_is)
    (case a10 => k_is)
    (case l10 => k_is)
    (case c10 => k_is)
    (case k10 => k_is)
    (case a11 => k_is)
    (case l11 => k_is)
    (case c11 => k_is)
    (case k11 => k_is)
    (case a12 => k_is)
    (case l12 => k_is)
    (case c12 => k_is)
    (case k12 => k_is)
    (case a13 => k_is)
    (case l13 => k_is)
    (case c13 => k_is)
    (case k13 => k_is)
    (case a14 => k_is)
    (case l14 => k_is)
    (case c14 => k_is)
    (case k14 => k_is)
    (case a15 => k_is)
    (case l15 => k_is)
    (case c15 => k_is)
    (case k15 => k_is)
    (case a16 => k_is)
    (case l16 => k_is)
    (case c16 => k_is)
    (case k16 => k_is)
    (case a17 => k_is)
    (case l17 => k_is)
    (case c17 => k_is)
    (case k17 => k_is)
    (case a18 => k_is)
    (case l18 => k_is)
    (case c18 => k_is)
    (case k18 => k_is)
    (case a19 => k_is)
    (case l19 => k_is)
    (case c19 => k_is)
    (case k19 => k_is)
    (case a20 => k_is)
    (case l20 => k_is)
    (case c20 => k_is)
    (case k20 => k_is)
    (case z_len => k_is)
    (case z_rng => k_is)
    (case z_isI => k_is)
    (case z_int => k_is)
    (case z_bool => k_is)
    (case z_list => k_is)
    (case z_set => k_is)
    (case z_enm => k_is)
    (case z_min => k_is)
    (case y_mg => k_is)
#print axioms PySem.Challenge.cw_bedtwos_k09_whole_same_alone_holds
