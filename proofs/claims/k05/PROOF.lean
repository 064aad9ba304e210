import PyProof.Rows.All
import Wide.All
import OpenK.AllK
import Wide.FinOn
import HandS.ForMost
import HandS.IsInst
import HandS.Zip
import HandS.Walk
import HandS.Evl
import HandS.Style
import HandS.Conv
import KE.LtSeq
import PySem.Challenge.RW_bedtwos_k05_whole_all_twos
set_option Elab.async false
set_option maxRecDepth 100000
set_option maxHeartbeats 4000000
namespace B2
open PySem L2

/-! ### Data: tables of wishes, rows, what stands at an address -/

/-- a row of the guest g, one of n -/
structure GoodRow (n : Nat) (g : Int) (r : List Int) : Prop where
  nd : r.Nodup
  rg : ∀ x ∈ r, 0 ≤ x ∧ x < (n : Int) ∧ x ≠ g
  sm : r.length ≤ 6

structure Good (ws : List (List Int)) : Prop where
  lo : 1 ≤ ws.length
  hi : ws.length ≤ 6
  row : ∀ (g : Nat) (r : List Int), ws[g]? = some r → GoodRow ws.length (g : Int) r

/-- the table ws stands at a -/
def Tab (K : PySem.W.Frag) (H : Hp) (a : Addr) (ws : List (List Int)) : Prop :=
  ∃ as : List Addr, SqL K H a (as.map V.ref) ∧ as.length = ws.length ∧
    ∀ (i : Nat) (r : List Int), ws[i]? = some r → ∃ b, as[i]? = some b ∧ SqL K H b (r.map V.int)

theorem Tab.same {K : PySem.W.Frag} {H H' : Hp} {a : Addr} {ws : List (List Int)} (e : Same H H') (t : Tab K H a ws) : Tab K H' a ws := by
  obtain ⟨as, h1, h2, h3⟩ := t
  refine ⟨as, e.seq h1, h2, fun i r hr => ?_⟩
  obtain ⟨b, hb, hs⟩ := h3 i r hr
  exact ⟨b, hb, e.seq hs⟩

theorem same_new {H : Hp} {p : Addr} (h : H p = none) (o : HO) : Same H (upd H p o) := fun b u q => by
  rw [upd_ne (ne_of_none q h)]; exact q

/-- what was there at the start stays, though the new object at p is changed -/
theorem same_put {H H1 : Hp} {p : Addr} (e : Same H H1) (h : H p = none) (o : HO) : Same H (upd H1 p o) := fun b u q => by
  rw [upd_ne (ne_of_none q h)]; exact e b u q

def rowOf (ws : List (List Int)) (i : Int) : List Int := ws.getD i.toNat []

theorem rowOf_get {ws : List (List Int)} {i : Int} (h0 : 0 ≤ i) (h1 : i < (ws.length : Int)) :
    ws[i.toNat]? = some (rowOf ws i) ∧ i = ((i.toNat : Nat) : Int) := by
  have h : i.toNat < ws.length := by omega
  refine ⟨?_, by omega⟩
  unfold rowOf
  rw [List.getD_eq_getElem?_getD, List.getElem?_eq_getElem h]
  rfl

theorem rowOf_good {ws : List (List Int)} (g : Good ws) {i : Int} (h0 : 0 ≤ i) (h1 : i < (ws.length : Int)) : GoodRow ws.length i (rowOf ws i) := by
  have h := rowOf_get h0 h1
  have q := g.row _ _ h.1
  rw [← h.2] at q
  exact q

/-- wishes[i], as the list rules ask it -/
theorem Tab.at {K : PySem.W.Frag} {H : Hp} {a : Addr} {ws : List (List Int)} (t : Tab K H a ws) :
    ∃ as : List Addr, SqL K H a (as.map V.ref) ∧ as.length = ws.length ∧
    ∀ i : Int, 0 ≤ i → i < (ws.length : Int) → ∃ b, atI (as.map V.ref) i = some (.ref b) ∧ SqL K H b ((rowOf ws i).map V.int) := by
  obtain ⟨as, h1, h2, h3⟩ := t
  refine ⟨as, h1, h2, fun i i0 i1 => ?_⟩
  obtain ⟨q1, q2⟩ := rowOf_get i0 i1
  obtain ⟨b, hb, hs⟩ := h3 _ _ q1
  refine ⟨b, ?_, hs⟩
  have : atI (as.map V.ref) ((i.toNat : Nat) : Int) = some (.ref b) := atI_nat (by rw [List.getElem?_map, hb]; rfl)
  rw [← q2] at this
  exact this

theorem inV_int (j : Int) : ∀ r : List Int, inV (.int j) (r.map V.int) = decide (j ∈ r)
  | [] => by simp [inV]
  | x :: r => by
    have ih := inV_int j r
    unfold inV at ih ⊢
    rw [List.map_cons, List.any_cons, ih]
    show ((x == j) || decide (j ∈ r)) = decide (j ∈ x :: r)
    by_cases h : x = j
    · simp [h]
    · have h' : ¬ j = x := fun q => h q.symm
      simp [h, h']

theorem flat_ints (r : List Int) : (r.map V.int).all flatV = true := by
  rw [List.all_eq_true]
  intro x hx
  rw [List.mem_map] at hx
  obtain ⟨i, _, rfl⟩ := hx
  rfl

/-- two guests suit each other -/
def suitsB (ws : List (List Int)) (i j : Int) : Bool := decide (j ∈ rowOf ws i) && decide (i ∈ rowOf ws j)

theorem suitsB_comm (ws : List (List Int)) (i j : Int) : suitsB ws i j = suitsB ws j i := Bool.and_comm _ _

def ov : Option Int → V
  | none => .non
  | some i => .int i

theorem ov_inj {a b : Option Int} (h : ov a = ov b) : a = b := by
  cases a <;> cases b <;> first | rfl | (cases h; rfl) | (cases h)

theorem ov_dec (a b : Option Int) : decide (ov a = ov b) = decide (a = b) := by
  by_cases h : a = b
  · rw [h]; simp
  · have h' : ¬ ov a = ov b := fun q => h (ov_inj q)
    rw [decide_eq_false h, decide_eq_false h']

theorem ov_non (a : Option Int) : decide (ov a = .non) = a.isNone := by
  cases a <;> rfl

/-- a guest or none, of n -/
def OkO (n : Nat) : Option Int → Prop
  | none => True
  | some i => 0 ≤ i ∧ i < (n : Int)

/-- whether g would rather have one than other -/
def aheadB (ws : List (List Int)) (g : Int) : Option Int → Option Int → Bool
  | none, _ => false
  | some a, none => suitsB ws g a
  | some a, some b => if a = b then false else
      if suitsB ws g a = true then (if suitsB ws g b = true then decide ((rowOf ws g).idxOf a < (rowOf ws g).idxOf b) else true) else false

/-- as the law goes through the list -/
def scanB (s : Int → Bool) (a : Int) (o : Option Int) : List Int → Bool
  | [] => false
  | t :: r => if (decide (some t = o) && s t) = true then false else if t = a then true else scanB s a o r

theorem scanB_none (s : Int → Bool) (a : Int) : ∀ r : List Int, a ∈ r → scanB s a none r = true
  | [], h => by cases h
  | t :: r, h => by
    unfold scanB
    have e : (decide (some t = (none : Option Int)) && s t) = false := by
      rw [decide_eq_false (by intro q; cases q), Bool.false_and]
    rw [e]
    by_cases q : t = a
    · rw [if_neg (by decide), if_pos q]
    · rw [if_neg (by decide), if_neg q]
      rcases List.mem_cons.mp h with h | h
      · exact absurd h.symm q
      · exact scanB_none s a r h

theorem scanB_no (s : Int → Bool) (a b : Int) (hs : s b = false) : ∀ r : List Int, a ∈ r → scanB s a (some b) r = true
  | [], h => by cases h
  | t :: r, h => by
    unfold scanB
    have e : (decide (some t = some b) && s t) = false := by
      by_cases q : t = b
      · rw [q, hs, Bool.and_false]
      · rw [decide_eq_false (by intro z; exact q (Option.some.inj z)), Bool.false_and]
    rw [e]
    by_cases q : t = a
    · rw [if_neg (by decide), if_pos q]
    · rw [if_neg (by decide), if_neg q]
      rcases List.mem_cons.mp h with h | h
      · exact absurd h.symm q
      · exact scanB_no s a b hs r h

theorem scanB_yes (s : Int → Bool) (a b : Int) (hs : s b = true) (hab : a ≠ b) : ∀ r : List Int, a ∈ r → scanB s a (some b) r = decide (r.idxOf a < r.idxOf b)
  | [], h => by cases h
  | t :: r, h => by
    unfold scanB
    by_cases q : t = b
    · have e : (decide (some t = some b) && s t) = true := by rw [q, hs]; simp
      rw [if_pos e, q, List.idxOf_cons, List.idxOf_cons]
      have e1 : (b == a) = false := by
        apply beq_eq_false_iff_ne.mpr
        exact fun z => hab z.symm
      simp [e1]
    · have e : (decide (some t = some b) && s t) = false := by
        rw [decide_eq_false (by intro z; exact q (Option.some.inj z)), Bool.false_and]
      rw [e, if_neg (by decide)]
      have e2 : (t == b) = false := beq_eq_false_iff_ne.mpr q
      by_cases q1 : t = a
      · rw [if_pos q1, List.idxOf_cons, List.idxOf_cons]
        have e1 : (t == a) = true := by rw [q1]; exact beq_self_eq_true a
        rw [e1, e2]
        simp
      · rw [if_neg q1]
        have e1 : (t == a) = false := beq_eq_false_iff_ne.mpr q1
        have ha : a ∈ r := by
          rcases List.mem_cons.mp h with h | h
          · exact absurd h.symm q1
          · exact h
        rw [scanB_yes s a b hs hab r ha, List.idxOf_cons, List.idxOf_cons, e1, e2]
        simp

def ratherB (ws : List (List Int)) (g : Int) : Option Int → Option Int → Bool
  | none, _ => false
  | some a, o => if suitsB ws g a = true then scanB (suitsB ws g) a o (rowOf ws g) else false

theorem suitsB_mem {ws : List (List Int)} {g a : Int} (h : suitsB ws g a = true) : a ∈ rowOf ws g ∧ g ∈ rowOf ws a := by
  unfold suitsB at h
  rw [Bool.and_eq_true] at h
  exact ⟨of_decide_eq_true h.1, of_decide_eq_true h.2⟩

theorem scanB_same (s : Int → Bool) (a : Int) (hs : s a = true) : ∀ r : List Int, scanB s a (some a) r = false
  | [] => rfl
  | t :: r => by
    unfold scanB
    by_cases q : t = a
    · rw [if_pos (by rw [q, hs]; simp)]
    · rw [if_neg (by rw [decide_eq_false (by intro z; exact q (Option.some.inj z)), Bool.false_and]; decide), if_neg q]
      exact scanB_same s a hs r

theorem rather_is (ws : List (List Int)) (g : Int) : ∀ a o : Option Int, ratherB ws g a o = aheadB ws g a o
  | none, _ => rfl
  | some a, none => by
    show (if suitsB ws g a = true then scanB (suitsB ws g) a none (rowOf ws g) else false) = suitsB ws g a
    by_cases h : suitsB ws g a = true
    · rw [if_pos h, scanB_none _ _ _ (suitsB_mem h).1, h]
    · rw [if_neg h]
      exact (Bool.eq_false_iff.mpr h).symm
  | some a, some b => by
    show (if suitsB ws g a = true then scanB (suitsB ws g) a (some b) (rowOf ws g) else false) = (if a = b then false else
      if suitsB ws g a = true then (if suitsB ws g b = true then decide ((rowOf ws g).idxOf a < (rowOf ws g).idxOf b) else true) else false)
    by_cases h : suitsB ws g a = true
    · rw [if_pos h, if_pos h]
      by_cases q : a = b
      · rw [if_pos q, ← q, scanB_same _ _ h]
      · rw [if_neg q]
        by_cases h2 : suitsB ws g b = true
        · rw [if_pos h2, scanB_yes _ _ _ h2 q _ (suitsB_mem h).1]
        · rw [if_neg h2, scanB_no _ _ _ (Bool.eq_false_iff.mpr h2) _ (suitsB_mem h).1]
    · rw [if_neg h, if_neg h]
      by_cases q : a = b
      · rw [if_pos q]
      · rw [if_neg q]

/-- the first place of x in a list of ints, as list.index asks it -/
theorem index_at (x : Int) : ∀ r : List Int, x ∈ r →
    (r.map V.int)[r.idxOf x]? = some (.int x) ∧ ∀ (m : Nat) (z : V), m < r.idxOf x → (r.map V.int)[m]? = some z → eqV z (.int x) = false
  | [], h => by cases h
  | t :: r, h => by
    by_cases q : t = x
    · rw [List.idxOf_cons]
      have e1 : (t == x) = true := by rw [q]; exact beq_self_eq_true x
      rw [e1]
      refine ⟨by rw [q]; rfl, fun m z hm => ?_⟩
      simp at hm
    · have e1 : (t == x) = false := beq_eq_false_iff_ne.mpr q
      have ha : x ∈ r := by
        rcases List.mem_cons.mp h with h | h
        · exact absurd h.symm q
        · exact h
      obtain ⟨i1, i2⟩ := index_at x r ha
      rw [List.idxOf_cons, e1]
      refine ⟨?_, fun m z hm hz => ?_⟩
      · show (V.int t :: r.map V.int)[r.idxOf x + 1]? = _
        rw [List.getElem?_cons_succ]
        exact i1
      · cases m with
        | zero =>
          rw [List.map_cons, List.getElem?_cons_zero] at hz
          cases hz
          exact e1
        | succ m =>
          rw [List.map_cons, List.getElem?_cons_succ] at hz
          have hm' : m + 1 < r.idxOf x + 1 := hm
          exact i2 m z (by omega) hz
end B2

namespace B2
open PySem L2

/-! ### Data of nested lists -/
theorem canLayAll_of : ∀ ds : List PyData, (∀ d ∈ ds, d.canLay0 = true) → PyData.canLayAll0 ds = true
  | [], _ => by simp [PyData.canLayAll0]
  | d :: ds, h => by
    have h1 := h d (List.mem_cons_self ..)
    have h2 := canLayAll_of ds (fun e he => h e (List.mem_cons_of_mem _ he))
    simp [PyData.canLayAll0, h1, h2]
theorem depthAll_of (k : Nat) : ∀ ds : List PyData, (∀ d ∈ ds, d.depth ≤ k) → PyData.depthAll ds ≤ k
  | [], _ => by simp [PyData.depthAll]
  | d :: ds, h => by
    have h1 := h d (List.mem_cons_self ..)
    have h2 := depthAll_of k ds (fun e he => h e (List.mem_cons_of_mem _ he))
    simp only [PyData.depthAll]
    omega

def dV : V → PyData
  | .bl b => .bool b
  | .int i => .int i
  | _ => .none
/-- None, truths and numbers -/
def plainV : V → Bool
  | .non => true
  | .bl _ => true
  | .int _ => true
  | _ => false
theorem dV_dp {K : PySem.W.Frag} {H : Hp} : ∀ v : V, plainV v = true → Dp K H v (dV v)
  | .non, _ => .non
  | .bl b, _ => .bl b
  | .int i, _ => .int i
  | .str _, h | .byt _, h | .flt _, h | .ref _, h | .ty _, h => by cases h
theorem dV_lay : ∀ v : V, (dV v).canLay0 = true ∧ (dV v).depth ≤ 1
  | .non | .bl _ | .int _ | .str _ | .byt _ | .flt _ | .ref _ | .ty _ => by simp [dV, PyData.canLay0, PyData.depth]
theorem dpAll_plain {K : PySem.W.Frag} {H : Hp} : ∀ vs : List V, (∀ v ∈ vs, plainV v = true) → DpAll K H vs (vs.map dV)
  | [], _ => .nil
  | v :: vs, h => .cons (dV_dp v (h v (List.mem_cons_self ..))) (dpAll_plain vs fun u hu => h u (List.mem_cons_of_mem _ hu))
/-- what a list of plain things, a list of such lists is as data -/
def dL (vs : List V) : PyData := .list (vs.map dV)
def dLL (vss : List (List V)) : PyData := .list (vss.map dL)
theorem dL_lay (vs : List V) : (dL vs).canLay0 = true ∧ (dL vs).depth ≤ 2 := by
  have h1 := canLayAll_of (vs.map dV) (fun d hd => by
    obtain ⟨v, _, rfl⟩ := List.mem_map.mp hd
    exact (dV_lay v).1)
  have h2 := depthAll_of 1 (vs.map dV) (fun d hd => by
    obtain ⟨v, _, rfl⟩ := List.mem_map.mp hd
    exact (dV_lay v).2)
  unfold dL
  simp only [PyData.canLay0, PyData.depth]
  exact ⟨h1, by omega⟩
theorem dLL_lay (vss : List (List V)) : (dLL vss).canLay0 = true ∧ (dLL vss).depth ≤ 3 := by
  have h1 := canLayAll_of (vss.map dL) (fun d hd => by
    obtain ⟨v, _, rfl⟩ := List.mem_map.mp hd
    exact (dL_lay v).1)
  have h2 := depthAll_of 2 (vss.map dL) (fun d hd => by
    obtain ⟨v, _, rfl⟩ := List.mem_map.mp hd
    exact (dL_lay v).2)
  unfold dLL
  simp only [PyData.canLay0, PyData.depth]
  exact ⟨h1, by omega⟩
theorem shaped_of {d : PyData} (h : d.canLay0 = true) (k : d.depth ≤ 64) : SeqAt.shaped d = true := by
  unfold SeqAt.shaped
  rw [h, decide_eq_true k]
  rfl
theorem dL_shaped (vs : List V) : SeqAt.shaped (dL vs) = true := shaped_of (dL_lay vs).1 (Nat.le_trans (dL_lay vs).2 (by decide))
theorem dLL_shaped (vss : List (List V)) : SeqAt.shaped (dLL vss) = true := shaped_of (dLL_lay vss).1 (Nat.le_trans (dLL_lay vss).2 (by decide))
theorem dL_refl (vs : List V) : (dL vs).eqv (dL vs) = true := SeqAt.eqv_refl _ (dL_lay vs).1
theorem dLL_refl (vss : List (List V)) : (dLL vss).eqv (dLL vss) = true := SeqAt.eqv_refl _ (dLL_lay vss).1

/-! ### Lists of lists in the heap -/
/-- at a a list of lists, whose items are the values vss -/
def TabV (K : PySem.W.Frag) (H : Hp) (a : Addr) (vss : List (List V)) : Prop :=
  ∃ as : List Addr, SqL K H a (as.map V.ref) ∧ as.length = vss.length ∧
    ∀ (i : Nat) (r : List V), vss[i]? = some r → ∃ b, as[i]? = some b ∧ SqL K H b r

theorem TabV.same {K : PySem.W.Frag} {H H' : Hp} {a : Addr} {vss : List (List V)} (e : Same H H') (t : TabV K H a vss) : TabV K H' a vss := by
  obtain ⟨as, h1, h2, h3⟩ := t
  refine ⟨as, e.seq h1, h2, fun i r hr => ?_⟩
  obtain ⟨b, hb, hs⟩ := h3 i r hr
  exact ⟨b, hb, e.seq hs⟩

theorem Tab.v {K : PySem.W.Frag} {H : Hp} {a : Addr} {ws : List (List Int)} (t : Tab K H a ws) : TabV K H a (ws.map fun r => r.map V.int) := by
  obtain ⟨as, h1, h2, h3⟩ := t
  refine ⟨as, h1, by rw [List.length_map]; exact h2, fun i r hr => ?_⟩
  rw [List.getElem?_map] at hr
  cases e : ws[i]? with
  | none => rw [e] at hr; cases hr
  | some q =>
    rw [e] at hr
    cases hr
    exact h3 i q e

theorem TabV.t {K : PySem.W.Frag} {H : Hp} {a : Addr} {ws : List (List Int)} (t : TabV K H a (ws.map fun r => r.map V.int)) : Tab K H a ws := by
  obtain ⟨as, h1, h2, h3⟩ := t
  refine ⟨as, h1, by rw [h2, List.length_map], fun i r hr => ?_⟩
  exact h3 i _ (by rw [List.getElem?_map, hr]; rfl)

theorem dpAll_refs {K : PySem.W.Frag} {H : Hp} : ∀ (as : List Addr) (vss : List (List V)), as.length = vss.length →
    (∀ (i : Nat) (r : List V), vss[i]? = some r → ∃ b, as[i]? = some b ∧ SqL K H b r) → (∀ r ∈ vss, ∀ v ∈ r, plainV v = true) →
    DpAll K H (as.map V.ref) (vss.map dL)
  | [], [], _, _, _ => .nil
  | [], _ :: _, h, _, _ => by cases h
  | _ :: _, [], h, _, _ => by cases h
  | a :: as, r :: vss, h, g, p => by
    obtain ⟨b, hb, hs⟩ := g 0 r rfl
    cases hb
    refine .cons (.lst hs (dpAll_plain r (p r (List.mem_cons_self ..)))) (dpAll_refs as vss (Nat.succ.inj h) (fun i q hq => ?_) fun q hq => p q (List.mem_cons_of_mem _ hq))
    exact g (i + 1) q hq

theorem TabV.dp {K : PySem.W.Frag} {H : Hp} {a : Addr} {vss : List (List V)} (t : TabV K H a vss) (p : ∀ r ∈ vss, ∀ v ∈ r, plainV v = true) : Dp K H (.ref a) (dLL vss) := by
  obtain ⟨as, h1, h2, h3⟩ := t
  exact .lst h1 (dpAll_refs as vss h2 h3 p)

theorem plain_ints (ws : List (List Int)) : ∀ r ∈ (ws.map fun r => r.map V.int), ∀ v ∈ r, plainV v = true := by
  intro r hr v hv
  obtain ⟨q, _, rfl⟩ := List.mem_map.mp hr
  obtain ⟨i, _, rfl⟩ := List.mem_map.mp hv
  rfl

theorem Tab.dp {K : PySem.W.Frag} {H : Hp} {a : Addr} {ws : List (List Int)} (t : Tab K H a ws) : Dp K H (.ref a) (dLL (ws.map fun r => r.map V.int)) := t.v.dp (plain_ints ws)

/-- a list of new objects (f r for the items r) that is being built at D: all that stood in H stands -/
def BuiltF {α : Type} (f : α → HO) (H : Hp) (D : Addr) (vss : List α) (H' : Hp) : Prop :=
  Same H H' ∧ ∃ as : List Addr, H' D = some (.lst (as.map V.ref)) ∧ as.length = vss.length ∧
    ∀ (i : Nat) (r : α), vss[i]? = some r → ∃ b, as[i]? = some b ∧ H' b = some (f r) ∧ b ≠ D ∧ H b = none

abbrev Built (H : Hp) (D : Addr) (vss : List (List V)) (H' : Hp) : Prop := BuiltF HO.lst H D vss H'

theorem built_start {α : Type} {f : α → HO} {H : Hp} {D : Addr} (h : H D = none) : BuiltF f H D [] (upd H D (.lst [])) :=
  ⟨same_new h _, [], upd_same, rfl, fun i r hr => by cases hr⟩

theorem built_step {α : Type} {f : α → HO} {H H1 H2 : Hp} {D p : Addr} {vss : List α} {r : α} (hD : H D = none) (b : BuiltF f H D vss H1) (e : Same H1 H2) (hp : H1 p = none) (hp2 : H2 p = some (f r)) :
    ∃ acc, H2 D = some (.lst acc) ∧ acc.length = vss.length ∧ BuiltF f H D (vss ++ [r]) (upd H2 D (.lst (acc ++ [.ref p]))) := by
  obtain ⟨s, as, h1, h2, h3⟩ := b
  have npD : p ≠ D := (ne_of_none h1 hp).symm
  refine ⟨_, e _ _ h1, by rw [List.length_map]; exact h2, same_put (s.trans e) hD _, as ++ [p], ?_, ?_, fun i q hq => ?_⟩
  · rw [upd_same, List.map_append]
    rfl
  · rw [List.length_append, List.length_append, h2]
    rfl
  · rw [List.getElem?_append] at hq
    rw [List.getElem?_append]
    by_cases c : i < vss.length
    · rw [if_pos c] at hq
      rw [if_pos (by rw [h2]; exact c)]
      obtain ⟨b, b1, b2, b3, b4⟩ := h3 i q hq
      exact ⟨b, b1, by rw [upd_ne b3]; exact e _ _ b2, b3, b4⟩
    · rw [if_neg c] at hq
      rw [if_neg (by rw [h2]; exact c)]
      have i0 : i - vss.length = 0 := by
        have := (List.getElem?_eq_some_iff.mp hq).1
        simp at this
        omega
      rw [i0] at hq
      cases hq
      rw [h2, i0]
      exact ⟨p, rfl, by rw [upd_ne npD]; exact hp2, npD, s.free hp⟩

theorem Built.tab {K : PySem.W.Frag} {H H' : Hp} {D : Addr} {vss : List (List V)} (b : Built H D vss H') : TabV K H' D vss := by
  obtain ⟨s, as, h1, h2, h3⟩ := b
  refine ⟨as, SqL.of h1, h2, fun i r hr => ?_⟩
  obtain ⟨b, b1, b2, _⟩ := h3 i r hr
  exact ⟨b, b1, SqL.of b2⟩

theorem map_int_get {r : List Int} {i : Nat} {x : V} (h : (r.map V.int)[i]? = some x) : ∃ y, r[i]? = some y ∧ x = .int y := by
  rw [List.getElem?_map] at h
  cases e : r[i]? with
  | none => rw [e] at h; cases h
  | some y =>
    rw [e] at h
    exact ⟨y, rfl, (Option.some.inj h).symm⟩

theorem map_ref_get {r : List Addr} {i : Nat} {x : V} (h : (r.map V.ref)[i]? = some x) : ∃ y, r[i]? = some y ∧ x = .ref y := by
  rw [List.getElem?_map] at h
  cases e : r[i]? with
  | none => rw [e] at h; cases h
  | some y =>
    rw [e] at h
    exact ⟨y, rfl, (Option.some.inj h).symm⟩

theorem take_one {α : Type} {xs : List α} {i : Nat} {x : α} (h : xs[i]? = some x) : xs.take (i + 1) = xs.take i ++ [x] := by
  rw [List.take_add_one, h]
  rfl

theorem seqIx {i : Int} {n : Nat} (h0 : 0 ≤ i) (h1 : i < (n : Int)) : seqIndex? i n = some i.toNat := by
  have e1 : ¬ (i < 0) := by omega
  unfold seqIndex?
  simp only [if_neg e1]
  rw [decide_eq_true h0, decide_eq_true h1]
  rfl

theorem map_erase {α β : Type} (f : α → β) : ∀ (l : List α) (k : Nat), (l.map f).eraseIdx k = (l.eraseIdx k).map f
  | [], _ => rfl
  | _ :: _, 0 => rfl
  | a :: l, k + 1 => by
    show f a :: (l.map f).eraseIdx k = f a :: (l.eraseIdx k).map f
    rw [map_erase f l k]

theorem le_line {n : Nat} (h : n ≤ 1000) : n ≤ sizeLine := Nat.le_of_lt (small1000 h)

theorem cut_take (r : List Int) (k : Int) : ∃ m, cutV (r.map V.int) none (some k) = (r.take m).map V.int := by
  refine ⟨HT.sIx (r.map V.int).length (r.map V.int).length (some k) - 0, ?_⟩
  unfold cutV
  have e0 : HT.sIx (r.map V.int).length 0 none = 0 := rfl
  rw [e0, List.drop_zero, List.map_take]
/-! ### Rules within a comprehension's block, whose K is the def's -/
def rLof (K : PySem.W.Frag) : List V → Hp → VK → Prop := fun xs H Q => ∃ p ys, xs = [.ref p] ∧ (SqL K H p ys ∨ SqT K H p ys) ∧ ∀ l, H l = none → Q (.ref l) (upd H l (.lst ys))
theorem call_lof {X : Cx} {K : PySem.W.Frag} (h : X.K = K) : CallR X (.type "list") (rLof K) := by
  subst h
  exact call_list_of

theorem ix_lst {X : Cx} {K : PySem.W.Frag} (h : X.K = K) : IxR X (rIxL K) := by
  subst h
  exact ix_list
theorem in_lst {X : Cx} {K : PySem.W.Frag} (h : X.K = K) : OpR X (compareOp .In) (rIn K false) := by
  subst h
  exact op_in_seq
def rLenOf (K : PySem.W.Frag) : List V → Hp → VK → Prop := fun xs H Q => ∃ p ys, xs = [.ref p] ∧ (SqL K H p ys ∨ SqT K H p ys) ∧ Q (.int ys.length) H
theorem len_lst {X : Cx} {K : PySem.W.Frag} (h : X.K = K) : CallR X (.builtin "len") (rLenOf K) := by
  subst h
  exact call_len_seq

theorem suitsB_self {ws : List (List Int)} (hG : Good ws) {g : Int} (h0 : 0 ≤ g) (h1 : g < (ws.length : Int)) : suitsB ws g g = false := by
  have : ¬ g ∈ rowOf ws g := fun h => ((rowOf_good hG h0 h1).rg g h).2.2 rfl
  unfold suitsB
  rw [decide_eq_false this]
  rfl

end B2

namespace B2
open PySem L2

/-- a walk within a comprehension, a loop: what holds between the turns -/
theorem in_it {J : It} {n : Nat} {G : Hp → Prop} {Y : Nat → Hp → V → Hp → Prop} (w : Walk J n G Y) {H1 : Hp} {Qd : Hp → Prop} {Body : (Hp → Prop) → V → Hp → Prop} (Pv : Nat → Hp → Prop)
    (h0 : Pv 0 H1) (hG : ∀ i H, i ≤ n → Pv i H → G H) (hs : ∀ i x H H', i < n → Pv i H → Y i H x H' → Body (Pv (i + 1)) x H') (hd : ∀ H, Pv n H → Qd H) :
    ∃ W : Nat → Nat → Hp → Prop, (∃ m, W 0 m H1) ∧ ∀ j k H, W j k H → (J.stop j H ∧ Qd H) ∨ (J.go j H ∧ ∃ Nx : Hp → Prop, (∀ H', Nx H' → ∃ k', k' < k ∧ W (j + 1) k' H') ∧ ∀ x H', J.yld j H x H' → Body Nx x H') := by
  refine ⟨fun j k H => k = n - j ∧ j ≤ n ∧ Pv j H, ⟨n, rfl, Nat.zero_le _, h0⟩, ?_⟩
  rintro j k H ⟨rfl, hj, p⟩
  have g := hG j H hj p
  by_cases c : j < n
  · refine .inr ⟨w.goes j H c g, Pv (j + 1), fun H' p' => ⟨n - (j + 1), by omega, rfl, c, p'⟩, fun x H' y => ?_⟩
    exact hs j x H H' c p (w.yields j H x H' c g y)
  · have e : j = n := by omega
    subst e
    exact .inl ⟨w.stops H g, hd H p⟩

/-! ### Mates -/
def mt (ms : List (Option Int)) (i : Int) : Option Int := ms.getD i.toNat none

structure OkMates (ws : List (List Int)) (ms : List (Option Int)) : Prop where
  len : ms.length = ws.length
  pr : ∀ i m : Int, 0 ≤ i → i < (ws.length : Int) → mt ms i = some m → 0 ≤ m ∧ m < (ws.length : Int) ∧ mt ms m = some i ∧ suitsB ws i m = true

theorem mt_get {ms : List (Option Int)} {i : Int} (h0 : 0 ≤ i) (h1 : i < (ms.length : Int)) : ms[i.toNat]? = some (mt ms i) := by
  have h : i.toNat < ms.length := by omega
  unfold mt
  rw [List.getD_eq_getElem?_getD, List.getElem?_eq_getElem h]
  rfl

theorem mt_at {ms : List (Option Int)} {i : Int} (h0 : 0 ≤ i) (h1 : i < (ms.length : Int)) : atI (ms.map ov) i = some (ov (mt ms i)) := by
  have e : i = ((i.toNat : Nat) : Int) := by omega
  have h : atI (ms.map ov) ((i.toNat : Nat) : Int) = some (ov (mt ms i)) := atI_nat (by rw [List.getElem?_map, mt_get h0 h1]; rfl)
  rw [← e] at h
  exact h

theorem OkMates.oko {ws : List (List Int)} {ms : List (Option Int)} (o : OkMates ws ms) {i : Int} (h0 : 0 ≤ i) (h1 : i < (ws.length : Int)) : OkO ws.length (mt ms i) := by
  cases e : mt ms i with
  | none => trivial
  | some m =>
    have := o.pr i m h0 h1 e
    exact ⟨this.1, this.2.1⟩

def tupO (p : Int × Int) : HO := .tup [.int p.1, .int p.2]

/-- the two are restless -/
def wild (ws : List (List Int)) (ms : List (Option Int)) (i j : Int) : Bool := aheadB ws i (some j) (mt ms i) && aheadB ws j (some i) (mt ms j)
/-- the restless pairs of i and the t guests behind it -/
def wildIn (ws : List (List Int)) (ms : List (Option Int)) (i : Nat) : Nat → List (Int × Int)
  | 0 => []
  | t + 1 => wildIn ws ms i t ++ (if wild ws ms (i : Int) ((i : Int) + 1 + (t : Int)) = true then [((i : Int), (i : Int) + 1 + (t : Int))] else [])
/-- the restless pairs of the first k guests, of n -/
def wildUp (ws : List (List Int)) (ms : List (Option Int)) (n : Nat) : Nat → List (Int × Int)
  | 0 => []
  | k + 1 => wildUp ws ms n k ++ wildIn ws ms k (n - (k + 1))
def wildAll (ws : List (List Int)) (ms : List (Option Int)) : List (Int × Int) := wildUp ws ms ws.length ws.length

theorem wildIn_le (ws : List (List Int)) (ms : List (Option Int)) (i : Nat) : ∀ t, (wildIn ws ms i t).length ≤ t
  | 0 => Nat.le_refl _
  | t + 1 => by
    have := wildIn_le ws ms i t
    unfold wildIn
    rw [List.length_append]
    split
    · rw [List.length_singleton]; omega
    · rw [List.length_nil]; omega
theorem wildUp_le (ws : List (List Int)) (ms : List (Option Int)) (n : Nat) : ∀ k, (wildUp ws ms n k).length ≤ k * n
  | 0 => Nat.zero_le _
  | k + 1 => by
    have h1 := wildUp_le ws ms n k
    have h2 := wildIn_le ws ms k (n - (k + 1))
    unfold wildUp
    rw [List.length_append, Nat.succ_mul]
    omega

theorem flat_ovs (ms : List (Option Int)) : ∀ v ∈ ms.map ov, plainV v = true := by
  intro v hv
  obtain ⟨i, _, rfl⟩ := List.mem_map.mp hv
  cases i <;> rfl

/-! ### Pairs as data -/
def dP (p : Int × Int) : PyData := .tuple [.int p.1, .int p.2]
def dPs (ps : List (Int × Int)) : PyData := .list (ps.map dP)
theorem dP_lay (p : Int × Int) : (dP p).canLay0 = true ∧ (dP p).depth ≤ 2 := by
  simp [dP, PyData.canLay0, PyData.canLayAll0, PyData.depth, PyData.depthAll]
theorem dPs_lay (ps : List (Int × Int)) : (dPs ps).canLay0 = true ∧ (dPs ps).depth ≤ 3 := by
  have h1 := canLayAll_of (ps.map dP) (fun d hd => by
    obtain ⟨v, _, rfl⟩ := List.mem_map.mp hd
    exact (dP_lay v).1)
  have h2 := depthAll_of 2 (ps.map dP) (fun d hd => by
    obtain ⟨v, _, rfl⟩ := List.mem_map.mp hd
    exact (dP_lay v).2)
  unfold dPs
  simp only [PyData.canLay0, PyData.depth]
  exact ⟨h1, by omega⟩
theorem dPs_shaped (ps : List (Int × Int)) : SeqAt.shaped (dPs ps) = true := shaped_of (dPs_lay ps).1 (Nat.le_trans (dPs_lay ps).2 (by decide))
theorem dPs_refl (ps : List (Int × Int)) : (dPs ps).eqv (dPs ps) = true := SeqAt.eqv_refl _ (dPs_lay ps).1
theorem dPs_nil (ps : List (Int × Int)) : (dPs ps).eqv (dPs []) = ps.isEmpty := by
  cases ps <;> simp [dPs, PyData.eqv, PyData.eqvAll]

/-- at a a list of pairs -/
def PrsAt (H : Hp) (a : Addr) (ps : List (Int × Int)) : Prop :=
  ∃ as : List Addr, H a = some (.lst (as.map V.ref)) ∧ as.length = ps.length ∧ ∀ (i : Nat) (p : Int × Int), ps[i]? = some p → ∃ b, as[i]? = some b ∧ H b = some (tupO p)
theorem PrsAt.same {H H' : Hp} {a : Addr} {ps : List (Int × Int)} (e : Same H H') (t : PrsAt H a ps) : PrsAt H' a ps := by
  obtain ⟨as, h1, h2, h3⟩ := t
  refine ⟨as, e _ _ h1, h2, fun i r hr => ?_⟩
  obtain ⟨b, hb, hs⟩ := h3 i r hr
  exact ⟨b, hb, e _ _ hs⟩
theorem BuiltF.prs {H H' : Hp} {D : Addr} {ps : List (Int × Int)} (b : BuiltF tupO H D ps H') : PrsAt H' D ps := by
  obtain ⟨s, as, h1, h2, h3⟩ := b
  refine ⟨as, h1, h2, fun i r hr => ?_⟩
  obtain ⟨b, b1, b2, _⟩ := h3 i r hr
  exact ⟨b, b1, b2⟩
theorem dpAll_prs {K : PySem.W.Frag} {H : Hp} : ∀ (as : List Addr) (ps : List (Int × Int)), as.length = ps.length →
    (∀ (i : Nat) (p : Int × Int), ps[i]? = some p → ∃ b, as[i]? = some b ∧ H b = some (tupO p)) → DpAll K H (as.map V.ref) (ps.map dP)
  | [], [], _, _ => .nil
  | [], _ :: _, h, _ => by cases h
  | _ :: _, [], h, _ => by cases h
  | a :: as, r :: ps, h, g => by
    obtain ⟨b, hb, hs⟩ := g 0 r rfl
    cases hb
    exact .cons (.tup (SqT.of hs) (.cons (.int _) (.cons (.int _) .nil))) (dpAll_prs as ps (Nat.succ.inj h) fun i q hq => g (i + 1) q hq)
theorem PrsAt.dp {K : PySem.W.Frag} {H : Hp} {a : Addr} {ps : List (Int × Int)} (t : PrsAt H a ps) : Dp K H (.ref a) (dPs ps) := by
  obtain ⟨as, h1, h2, h3⟩ := t
  exact .lst (SqL.of h1) (dpAll_prs as ps h2 h3)
end B2

namespace B2
open PySem L2

/-! ### All mates -/
def joinL (ms : List (Option Int)) (g o : Int) : List (Option Int) := (ms.set g.toNat (some o)).set o.toNat (some g)
def joinsL (ws : List (List Int)) (ms : List (Option Int)) (g : Nat) : Nat → List (List (Option Int))
  | 0 => []
  | t + 1 => joinsL ws ms g t ++ (if (mt ms ((g : Int) + 1 + (t : Int)) = none ∧ suitsB ws (g : Int) ((g : Int) + 1 + (t : Int)) = true) then [joinL ms (g : Int) ((g : Int) + 1 + (t : Int))] else [])
/-- what may come of these mates by what guest g does, behind that it stays as it is -/
def moreL (ws : List (List Int)) (ms : List (Option Int)) (g : Nat) : List (List (Option Int)) := if mt ms (g : Int) = none then joinsL ws ms g (ws.length - (g + 1)) else []
def settledL (ws : List (List Int)) (ms : List (Option Int)) (g : Nat) : List (List (Option Int)) := ms :: moreL ws ms g
def stageL (ws : List (List Int)) : Nat → List (List (Option Int))
  | 0 => [List.replicate ws.length none]
  | g + 1 => (stageL ws g).flatMap fun ms => settledL ws ms g
def allTwos (ws : List (List Int)) : List (List (Option Int)) := stageL ws ws.length
def allCalm (ws : List (List Int)) : List (List (Option Int)) := (allTwos ws).filter fun ms => (wildAll ws ms).isEmpty

theorem mt_none (n : Nat) (i : Int) : mt (List.replicate n none) i = none := by
  unfold mt
  rw [List.getD_eq_getElem?_getD, List.getElem?_replicate]
  split <;> rfl
theorem mt_set {ms : List (Option Int)} {k : Nat} {v : Option Int} {i : Int} (hk : k < ms.length) : mt (ms.set k v) i = if i.toNat = k then v else mt ms i := by
  unfold mt
  rw [List.getD_eq_getElem?_getD, List.getD_eq_getElem?_getD, List.getElem?_set]
  by_cases c : k = i.toNat
  · rw [if_pos c, if_pos c.symm, if_pos hk]; rfl
  · rw [if_neg c, if_neg (fun z => c z.symm)]

theorem OkMates.put {ws : List (List Int)} {ms : List (Option Int)} (o : OkMates ws ms) {g m : Int} (g0 : 0 ≤ g) (g1 : g < (ws.length : Int)) (m0 : 0 ≤ m) (m1 : m < (ws.length : Int)) (ne : m ≠ g)
    (hg : mt ms g = none) (hm : mt ms m = none) (hs : suitsB ws g m = true) : OkMates ws ((ms.set g.toNat (some m)).set m.toNat (some g)) := by
  have hl := o.len
  refine ⟨by rw [List.length_set, List.length_set]; exact hl, fun i k i0 i1 h => ?_⟩
  have h1 : m.toNat < (ms.set g.toNat (some m)).length := by rw [List.length_set]; omega
  have h2 : g.toNat < ms.length := by omega
  rw [mt_set h1, mt_set h2] at h
  by_cases c1 : i.toNat = m.toNat
  · rw [if_pos c1] at h
    cases h
    have e : i = m := by omega
    subst e
    refine ⟨g0, g1, ?_, by rw [suitsB_comm]; exact hs⟩
    rw [mt_set h1, mt_set h2, if_neg (by omega), if_pos rfl]
  · rw [if_neg c1] at h
    by_cases c2 : i.toNat = g.toNat
    · rw [if_pos c2] at h
      cases h
      have e : i = g := by omega
      subst e
      refine ⟨m0, m1, ?_, hs⟩
      rw [mt_set h1, if_pos rfl]
    · rw [if_neg c2] at h
      obtain ⟨p0, p1, p2, p3⟩ := o.pr i k i0 i1 h
      refine ⟨p0, p1, ?_, p3⟩
      have n1 : ¬ k.toNat = m.toNat := fun z => by
        have e : k = m := by omega
        rw [e, hm] at p2
        cases p2
      have n2 : ¬ k.toNat = g.toNat := fun z => by
        have e : k = g := by omega
        rw [e, hg] at p2
        cases p2
      rw [mt_set h1, mt_set h2, if_neg n1, if_neg n2]
      exact p2

theorem ixN_of {n : Nat} {i : Int} (h0 : 0 ≤ i) (h1 : i < (n : Int)) : ixN n i = some i.toNat := by
  unfold ixN
  rw [if_pos h0, if_pos h1]
theorem flat_nones : ∀ n : Nat, (List.replicate n [V.non]).flatten = (List.replicate n (none : Option Int)).map ov
  | 0 => rfl
  | n + 1 => by
    rw [List.replicate_succ, List.flatten_cons, flat_nones n, List.replicate_succ]
    rfl

theorem joins_ok {ws : List (List Int)} {ms : List (Option Int)} (o : OkMates ws ms) {g : Nat} (hn : mt ms (g : Int) = none) (hg : g < ws.length) : ∀ t, g + 1 + t ≤ ws.length → ∀ m ∈ joinsL ws ms g t, OkMates ws m
  | 0, _, m, h => by cases h
  | t + 1, ht, m, h => by
    unfold joinsL at h
    rcases List.mem_append.mp h with h | h
    · exact joins_ok o hn hg t (by omega) m h
    · split at h
      · rename_i c
        rw [List.mem_singleton] at h
        rw [h]
        exact o.put (by omega) (by omega) (by omega) (by omega) (by omega) hn c.1 c.2
      · cases h
theorem joins_le (ws : List (List Int)) (ms : List (Option Int)) (g : Nat) : ∀ t, (joinsL ws ms g t).length ≤ t
  | 0 => Nat.le_refl _
  | t + 1 => by
    have := joins_le ws ms g t
    unfold joinsL
    rw [List.length_append]
    split
    · rw [List.length_singleton]; omega
    · rw [List.length_nil]; omega
theorem settled_ok {ws : List (List Int)} {ms : List (Option Int)} (o : OkMates ws ms) {g : Nat} (hg : g < ws.length) : ∀ m ∈ settledL ws ms g, OkMates ws m := by
  intro m h
  unfold settledL at h
  rcases List.mem_cons.mp h with h | h
  · rw [h]; exact o
  · unfold moreL at h
    split at h
    · rename_i c
      exact joins_ok o c hg _ (by omega) m h
    · cases h
theorem settled_le {ws : List (List Int)} {ms : List (Option Int)} {g : Nat} (hg : g < ws.length) : (settledL ws ms g).length ≤ ws.length := by
  unfold settledL moreL
  rw [List.length_cons]
  split
  · have := joins_le ws ms g (ws.length - (g + 1)); omega
  · rw [List.length_nil]; omega
theorem stage_ok (ws : List (List Int)) : ∀ g, g ≤ ws.length → ∀ m ∈ stageL ws g, OkMates ws m
  | 0, _, m, h => by
    unfold stageL at h
    rw [List.mem_singleton] at h
    rw [h]
    exact ⟨List.length_replicate, fun i k _ _ h => by rw [mt_none] at h; cases h⟩
  | g + 1, hg, m, h => by
    unfold stageL at h
    obtain ⟨a, ha, hm⟩ := List.mem_flatMap.mp h
    exact settled_ok (stage_ok ws g (by omega) a ha) (by omega) m hm
theorem flatMap_le {α β : Type} (f : α → List β) (k : Nat) : ∀ l : List α, (∀ a ∈ l, (f a).length ≤ k) → (l.flatMap f).length ≤ l.length * k
  | [], _ => Nat.zero_le _
  | a :: l, h => by
    have h1 := h a (List.mem_cons_self ..)
    have h2 := flatMap_le f k l fun b hb => h b (List.mem_cons_of_mem _ hb)
    rw [List.flatMap_cons, List.length_append, List.length_cons, Nat.succ_mul]
    omega
theorem stage_le (ws : List (List Int)) (h6 : ws.length ≤ 6) : ∀ g, g ≤ ws.length → (stageL ws g).length ≤ 6 ^ g
  | 0, _ => Nat.le_refl _
  | g + 1, hg => by
    have h1 := stage_le ws h6 g (by omega)
    have h2 := flatMap_le (fun ms => settledL ws ms g) 6 (stageL ws g) fun a _ => Nat.le_trans (settled_le (by omega)) h6
    unfold stageL
    rw [Nat.pow_succ]
    exact Nat.le_trans h2 (Nat.mul_le_mul_right 6 h1)
theorem stage_small (ws : List (List Int)) (h6 : ws.length ≤ 6) (g : Nat) (hg : g ≤ ws.length) : (stageL ws g).length ≤ 46656 :=
  Nat.le_trans (stage_le ws h6 g hg) (Nat.le_trans (Nat.pow_le_pow_right (by decide) (Nat.le_trans hg h6)) (by decide))

/-- mates as an object -/
def fm (ms : List (Option Int)) : HO := .lst (ms.map ov)

theorem built_put {α : Type} {f : α → HO} {H H1 : Hp} {D b : Addr} {vss : List α} {r : α} (hD : H D = none) (B : BuiltF f H D vss H1) (hb : H1 b = some (f r)) (nb : b ≠ D) (h0 : H b = none) :
    ∃ acc, H1 D = some (.lst acc) ∧ acc.length = vss.length ∧ BuiltF f H D (vss ++ [r]) (upd H1 D (.lst (acc ++ [.ref b]))) := by
  obtain ⟨s, as, h1, h2, h3⟩ := B
  refine ⟨_, h1, by rw [List.length_map]; exact h2, same_put s hD _, as ++ [b], ?_, ?_, fun i q hq => ?_⟩
  · rw [upd_same, List.map_append]
    rfl
  · rw [List.length_append, List.length_append, h2]
    rfl
  · rw [List.getElem?_append] at hq
    rw [List.getElem?_append]
    by_cases c : i < vss.length
    · rw [if_pos c] at hq
      rw [if_pos (by rw [h2]; exact c)]
      obtain ⟨b, b1, b2, b3, b4⟩ := h3 i q hq
      exact ⟨b, b1, by rw [upd_ne b3]; exact b2, b3, b4⟩
    · rw [if_neg c] at hq
      rw [if_neg (by rw [h2]; exact c)]
      have i0 : i - vss.length = 0 := by
        have := (List.getElem?_eq_some_iff.mp hq).1
        simp at this
        omega
      rw [i0] at hq
      cases hq
      rw [h2, i0]
      exact ⟨b, rfl, by rw [upd_ne nb]; exact hb, nb, h0⟩

theorem BuiltF.on {α : Type} {f : α → HO} {H H1 H2 : Hp} {D : Addr} {vss : List α} (B : BuiltF f H D vss H1) (e : Same H1 H2) : BuiltF f H D vss H2 := by
  obtain ⟨s, as, h1, h2, h3⟩ := B
  refine ⟨s.trans e, as, e _ _ h1, h2, fun i r hr => ?_⟩
  obtain ⟨b, b1, b2, b3, b4⟩ := h3 i r hr
  exact ⟨b, b1, e _ _ b2, b3, b4⟩

theorem BuiltF.back {α : Type} {f : α → HO} {H0 H H1 : Hp} {D : Addr} {vss : List α} (s : Same H0 H) (B : BuiltF f H D vss H1) : BuiltF f H0 D vss H1 := by
  obtain ⟨e, as, h1, h2, h3⟩ := B
  refine ⟨s.trans e, as, h1, h2, fun i r hr => ?_⟩
  obtain ⟨b, b1, b2, b3, b4⟩ := h3 i r hr
  exact ⟨b, b1, b2, b3, s.free b4⟩

theorem big_line {n : Nat} (h : n ≤ 1000000) : n < sizeLine := by
  unfold sizeLine
  omega
theorem pi_lst {X : Cx} {K : PySem.W.Frag} (h : X.K = K) {tg l : Expr} {tl : TE} (e : PE X l tl) : PI X tg l (iList K tl) := by
  subst h
  exact pi_list e
theorem eq_dat {X : Cx} {K : PySem.W.Frag} (h : X.K = K) (hu : X.A.units + 64 < cLine) : OpR X (compareOp .Eq) (rEqD K) := by
  subst h
  exact op_eqD hu
end B2

namespace B2
open PySem L2

/-! ### How many mates, and in which order: the mathematics -/
def rngL (lo : Int) (k : Nat) : List Int := (List.range k).map fun (j : Nat) => lo + (j : Int)
def sumL (f : Int → Int) : List Int → Int
  | [] => 0
  | x :: r => f x + sumL f r
theorem sumL_append (f : Int → Int) : ∀ a b : List Int, sumL f (a ++ b) = sumL f a + sumL f b
  | [], b => by show sumL f b = 0 + sumL f b; omega
  | x :: a, b => by
    show f x + sumL f (a ++ b) = f x + sumL f a + sumL f b
    rw [sumL_append f a b]
    omega
theorem sumL_congr {f h : Int → Int} : ∀ l : List Int, (∀ x ∈ l, f x = h x) → sumL f l = sumL h l
  | [], _ => rfl
  | x :: r, e => by
    show f x + sumL f r = h x + sumL h r
    rw [e x (List.mem_cons_self ..), sumL_congr r fun y hy => e y (List.mem_cons_of_mem _ hy)]
theorem sumL_if (p : Int → Bool) (f : Int → Int) : ∀ l : List Int, sumL (fun m => if p m = true then f m else 0) l = sumL f (l.filter p)
  | [] => rfl
  | x :: r => by
    have ih := sumL_if p f r
    show (if p x = true then f x else 0) + sumL _ r = _
    rw [ih, List.filter_cons]
    by_cases c : p x = true
    · rw [if_pos c, if_pos c]; rfl
    · rw [if_neg c, if_neg c]; omega

theorem rngL_succ (lo : Int) (k : Nat) : rngL lo (k + 1) = rngL lo k ++ [lo + (k : Int)] := by
  unfold rngL
  rw [List.range_succ, List.map_append]
  rfl
theorem rngL_cons (lo : Int) (k : Nat) : rngL lo (k + 1) = lo :: rngL (lo + 1) k := by
  unfold rngL
  rw [List.range_succ_eq_map, List.map_cons, List.map_map]
  congr 1
  · show lo + 0 = lo
    omega
  · apply List.map_congr_left
    intro j _
    show lo + ((j + 1 : Nat) : Int) = lo + 1 + (j : Int)
    omega
theorem rngL_mem {lo : Int} {k : Nat} {x : Int} (h : x ∈ rngL lo k) : lo ≤ x ∧ x < lo + (k : Int) := by
  unfold rngL at h
  obtain ⟨j, hj, rfl⟩ := List.mem_map.mp h
  have := List.mem_range.mp hj
  omega
theorem rngL_len (lo : Int) (k : Nat) : (rngL lo k).length = k := by
  unfold rngL
  rw [List.length_map, List.length_range]
theorem rngL_lt (lo : Int) (k : Nat) : (rngL lo k).Pairwise (· < ·) := by
  unfold rngL
  rw [List.pairwise_map]
  exact List.Pairwise.imp (fun {i j} (h : i < j) => by omega) List.pairwise_lt_range

/-- may g share with o -/
def mayJ (ws : List (List Int)) (ms : List (Option Int)) (g : Int) (o : Int) : Bool := suitsB ws g o && (mt ms o).isNone
theorem joins_is (ws : List (List Int)) (ms : List (Option Int)) (g : Nat) : ∀ t, joinsL ws ms g t = ((rngL ((g : Int) + 1) t).filter (mayJ ws ms (g : Int))).map fun o => joinL ms (g : Int) o
  | 0 => rfl
  | t + 1 => by
    rw [rngL_succ, List.filter_append, List.map_append, ← joins_is ws ms g t]
    have e : joinsL ws ms g (t + 1) = joinsL ws ms g t ++ (if (mt ms ((g : Int) + 1 + (t : Int)) = none ∧ suitsB ws (g : Int) ((g : Int) + 1 + (t : Int)) = true) then [joinL ms (g : Int) ((g : Int) + 1 + (t : Int))] else []) := rfl
    rw [e]
    congr 1
    rw [List.filter_cons]
    unfold mayJ
    by_cases c : mt ms ((g : Int) + 1 + (t : Int)) = none ∧ suitsB ws (g : Int) ((g : Int) + 1 + (t : Int)) = true
    · rw [if_pos c, c.1, c.2]
      rfl
    · rw [if_neg c, if_neg]
      · rfl
      · intro z
        rw [Bool.and_eq_true] at z
        exact c ⟨Option.isNone_iff_eq_none.mp z.2, z.1⟩

/-- all that comes of these mates by what the last k guests do -/
def procL (ws : List (List Int)) : Nat → List (Option Int) → List (List (Option Int))
  | 0, ms => [ms]
  | k + 1, ms => (settledL ws ms (ws.length - (k + 1))).flatMap (procL ws k)
theorem proc_stage (ws : List (List Int)) : ∀ k, k ≤ ws.length → (stageL ws (ws.length - k)).flatMap (procL ws k) = allTwos ws
  | 0, _ => by
    show (stageL ws ws.length).flatMap (fun ms => [ms]) = stageL ws ws.length
    induction stageL ws ws.length with
    | nil => rfl
    | cons a l ih => rw [List.flatMap_cons, ih]; rfl
  | k + 1, h => by
    rw [← proc_stage ws k (by omega)]
    have e : ws.length - k = (ws.length - (k + 1)) + 1 := by omega
    have e2 : stageL ws ((ws.length - (k + 1)) + 1) = (stageL ws (ws.length - (k + 1))).flatMap fun ms => settledL ws ms (ws.length - (k + 1)) := rfl
    rw [e, e2, List.flatMap_assoc]
    rfl
theorem all_proc (ws : List (List Int)) : allTwos ws = procL ws ws.length (List.replicate ws.length none) := by
  have h := proc_stage ws ws.length (Nat.le_refl _)
  rw [Nat.sub_self] at h
  have e : stageL ws 0 = [List.replicate ws.length none] := rfl
  rw [e, List.flatMap_cons, List.flatMap_nil, List.append_nil] at h
  exact h.symm

/-- how many mates there are of those in the list -/
def countL (ws : List (List Int)) : Nat → List Int → Int
  | 0, _ => 1
  | _ + 1, [] => 1
  | k + 1, x :: r => countL ws k r + sumL (fun m => if suitsB ws x m = true then countL ws k (r.filter fun y => decide (y ≠ m)) else 0) r
theorem count_fuel (ws : List (List Int)) : ∀ (k : Nat) (l : List Int), l.length ≤ k → countL ws (k + 1) l = countL ws k l
  | 0, [], _ => rfl
  | 0, _ :: _, h => by simp at h
  | k + 1, [], _ => rfl
  | k + 1, x :: r, h => by
    have hr : r.length ≤ k := Nat.le_of_succ_le_succ h
    show countL ws (k + 1) r + sumL (fun m => if suitsB ws x m = true then countL ws (k + 1) (r.filter fun y => decide (y ≠ m)) else 0) r =
      countL ws k r + sumL (fun m => if suitsB ws x m = true then countL ws k (r.filter fun y => decide (y ≠ m)) else 0) r
    rw [count_fuel ws k r hr]
    congr 1
    apply sumL_congr
    intro m _
    by_cases c : suitsB ws x m = true
    · rw [if_pos c, if_pos c, count_fuel ws k _ (Nat.le_trans (List.length_filter_le _ _) hr)]
    · rw [if_neg c, if_neg c]

def freeL (ms : List (Option Int)) (lo : Int) (k : Nat) : List Int := (rngL lo k).filter fun i => (mt ms i).isNone

theorem mt_join {ms : List (Option Int)} {g o i : Int} (g0 : 0 ≤ g) (g1 : g < (ms.length : Int)) (o0 : 0 ≤ o) (o1 : o < (ms.length : Int)) (i0 : 0 ≤ i) :
    mt (joinL ms g o) i = if i = o then some g else if i = g then some o else mt ms i := by
  unfold joinL
  rw [mt_set (by rw [List.length_set]; omega), mt_set (by omega)]
  by_cases c : i = o
  · rw [if_pos c, if_pos (by rw [c])]
  · rw [if_neg c, if_neg (by omega)]
    by_cases c2 : i = g
    · rw [if_pos c2, if_pos (by rw [c2])]
    · rw [if_neg c2, if_neg (by omega)]

theorem free_join {ms : List (Option Int)} {g : Nat} {o : Int} {k : Nat} (hk : g + 1 + k = ms.length) (ho : o ∈ rngL ((g : Int) + 1) k) :
    freeL (joinL ms (g : Int) o) ((g : Int) + 1) k = (freeL ms ((g : Int) + 1) k).filter fun y => decide (y ≠ o) := by
  unfold freeL
  rw [List.filter_filter]
  apply List.filter_congr
  intro x hx
  have hx' := rngL_mem hx
  have ho' := rngL_mem ho
  rw [mt_join (by omega) (by omega) (by omega) (by omega) (by omega)]
  by_cases c : x = o
  · rw [if_pos c, decide_eq_false (fun z => z c)]
    rfl
  · rw [if_neg c, if_neg (by omega), decide_eq_true c, Bool.true_and]

theorem join_len (ms : List (Option Int)) (g o : Int) : (joinL ms g o).length = ms.length := by
  unfold joinL
  rw [List.length_set, List.length_set]

theorem len_flat (f : List (Option Int) → List (List (Option Int))) : ∀ (l : List Int) (h : Int → List (Option Int)), (((l.map h).flatMap f).length : Int) = sumL (fun m => ((f (h m)).length : Int)) l
  | [], _ => rfl
  | x :: r, h => by
    rw [List.map_cons, List.flatMap_cons, List.length_append]
    have := len_flat f r h
    show (((f (h x)).length + ((r.map h).flatMap f).length : Nat) : Int) = ((f (h x)).length : Int) + sumL (fun m => ((f (h m)).length : Int)) r
    omega

/-- as many as are counted -/
theorem proc_count (ws : List (List Int)) : ∀ (k : Nat) (ms : List (Option Int)), k ≤ ws.length → ms.length = ws.length →
    ((procL ws k ms).length : Int) = countL ws k (freeL ms (((ws.length - k : Nat)) : Int) k)
  | 0, ms, _, _ => rfl
  | k + 1, ms, hk, hl => by
    have hg : ∃ g : Nat, ws.length - (k + 1) = g ∧ ws.length - k = g + 1 ∧ g + 1 + k = ws.length := ⟨ws.length - (k + 1), rfl, by omega, by omega⟩
    obtain ⟨g, eg, eg1, egk⟩ := hg
    have ih : ∀ ms : List (Option Int), ms.length = ws.length → ((procL ws k ms).length : Int) = countL ws k (freeL ms ((g : Int) + 1) k) := fun ms h => by
      have := proc_count ws k ms (by omega) h
      rw [eg1] at this
      exact this
    show ((((settledL ws ms (ws.length - (k + 1))).flatMap (procL ws k)).length : Nat) : Int) = _
    rw [eg]
    have ekg : ws.length - (g + 1) = k := by omega
    unfold settledL moreL
    rw [ekg, List.flatMap_cons, List.length_append]
    have ef : freeL ms ((g : Nat) : Int) (k + 1) = if mt ms (g : Int) = none then (g : Int) :: freeL ms ((g : Int) + 1) k else freeL ms ((g : Int) + 1) k := by
      unfold freeL
      rw [rngL_cons, List.filter_cons]
      by_cases c : mt ms (g : Int) = none
      · rw [if_pos c, c]; rfl
      · rw [if_neg c, if_neg (fun z => c (Option.isNone_iff_eq_none.mp z))]
    rw [ef]
    have h1 := ih ms hl
    have hfl : (freeL ms ((g : Int) + 1) k).length ≤ k := by
      unfold freeL
      exact Nat.le_trans (List.length_filter_le _ _) (by rw [rngL_len]; exact Nat.le_refl _)
    by_cases c : mt ms (g : Int) = none
    · rw [if_pos c, if_pos c, joins_is]
      have h2 := len_flat (procL ws k) ((rngL ((g : Int) + 1) k).filter (mayJ ws ms (g : Int))) (fun o => joinL ms (g : Int) o)
      show (((procL ws k ms).length + _ : Nat) : Int) = countL ws k (freeL ms ((g : Int) + 1) k) + sumL (fun m => if suitsB ws (g : Int) m = true then countL ws k ((freeL ms ((g : Int) + 1) k).filter fun y => decide (y ≠ m)) else 0) (freeL ms ((g : Int) + 1) k)
      rw [sumL_if]
      have e3 : (freeL ms ((g : Int) + 1) k).filter (suitsB ws (g : Int)) = (rngL ((g : Int) + 1) k).filter (mayJ ws ms (g : Int)) := by
        unfold freeL
        rw [List.filter_filter]
        rfl
      rw [e3]
      have e4 : sumL (fun m => ((procL ws k (joinL ms (g : Int) m)).length : Int)) ((rngL ((g : Int) + 1) k).filter (mayJ ws ms (g : Int))) =
          sumL (fun m => countL ws k ((freeL ms ((g : Int) + 1) k).filter fun y => decide (y ≠ m))) ((rngL ((g : Int) + 1) k).filter (mayJ ws ms (g : Int))) := by
        apply sumL_congr
        intro m hm
        have hm' := (List.mem_filter.mp hm).1
        rw [ih (joinL ms (g : Int) m) (by rw [join_len]; exact hl), free_join (by omega) hm']
      omega
    · rw [if_neg c, if_neg c, List.flatMap_nil, count_fuel ws k _ hfl]
      show (((procL ws k ms).length + 0 : Nat) : Int) = _
      omega

theorem all_count (ws : List (List Int)) : ((allTwos ws).length : Int) = countL ws ws.length (rngL 0 ws.length) := by
  rw [all_proc, proc_count ws ws.length _ (Nat.le_refl _) List.length_replicate, Nat.sub_self]
  congr 1
  unfold freeL
  apply List.filter_eq_self.mpr
  intro x _
  rw [mt_none]
  rfl

/-! the order -/
def keyO (o : Option Int) : Int := o.getD (-1)
/-- the first place at which they differ has less at a -/
def ltK (n : Nat) (a b : List (Option Int)) : Prop := ∃ i : Nat, i < n ∧ (∀ j : Nat, j < i → mt a (j : Int) = mt b (j : Int)) ∧ keyO (mt a (i : Int)) < keyO (mt b (i : Int))

theorem proc_order (ws : List (List Int)) : ∀ (k : Nat) (ms : List (Option Int)), k ≤ ws.length → ms.length = ws.length →
    (∀ m ∈ procL ws k ms, m.length = ws.length ∧ ∀ i : Nat, i < ws.length - k → mt m (i : Int) = mt ms (i : Int)) ∧ (procL ws k ms).Pairwise (ltK ws.length)
  | 0, ms, _, hl => by
    refine ⟨fun m h => ?_, List.pairwise_singleton _ _⟩
    have e : m = ms := List.mem_singleton.mp h
    rw [e]
    exact ⟨hl, fun i _ => rfl⟩
  | k + 1, ms, hk, hl => by
    obtain ⟨g, eg, eg1, egk⟩ : ∃ g : Nat, ws.length - (k + 1) = g ∧ ws.length - k = g + 1 ∧ g + 1 + k = ws.length := ⟨ws.length - (k + 1), rfl, by omega, by omega⟩
    have ih := fun m h => proc_order ws k m (by omega) h
    rw [eg1] at ih
    rw [eg]
    have eP : procL ws (k + 1) ms = (settledL ws ms g).flatMap (procL ws k) := by
      rw [← eg]
      rfl
    rw [eP]
    have ekg : ws.length - (g + 1) = k := by omega
    -- what a choice changes
    have hs : ∀ s ∈ settledL ws ms g, s.length = ws.length ∧ ∀ i : Nat, i < g → mt s (i : Int) = mt ms (i : Int) := by
      intro s h
      unfold settledL moreL at h
      rw [ekg] at h
      rcases List.mem_cons.mp h with h | h
      · rw [h]; exact ⟨hl, fun i _ => rfl⟩
      · split at h
        · rw [joins_is] at h
          obtain ⟨o, ho, rfl⟩ := List.mem_map.mp h
          have ho' := rngL_mem (List.mem_filter.mp ho).1
          refine ⟨by rw [join_len]; exact hl, fun i hi => ?_⟩
          rw [mt_join (by omega) (by omega) (by omega) (by omega) (by omega), if_neg (by omega), if_neg (by omega)]
        · cases h
    have hp : (settledL ws ms g).Pairwise fun s t => keyO (mt s (g : Int)) < keyO (mt t (g : Int)) := by
      unfold settledL moreL
      rw [ekg]
      refine List.pairwise_cons.mpr ⟨fun t ht => ?_, ?_⟩
      · split at ht
        · rename_i c
          rw [joins_is] at ht
          obtain ⟨o, ho, rfl⟩ := List.mem_map.mp ht
          have ho' := rngL_mem (List.mem_filter.mp ho).1
          rw [c, mt_join (by omega) (by omega) (by omega) (by omega) (by omega), if_neg (by omega), if_pos rfl]
          show (-1 : Int) < o
          omega
        · cases ht
      · split
        · rw [joins_is, List.pairwise_map]
          refine List.Pairwise.imp_of_mem (fun {a b} ha hb hab => ?_) ((rngL_lt ((g : Int) + 1) k).sublist List.filter_sublist)
          have ha' := rngL_mem (List.mem_filter.mp ha).1
          have hb' := rngL_mem (List.mem_filter.mp hb).1
          rw [mt_join (by omega) (by omega) (by omega) (by omega) (by omega), mt_join (by omega) (by omega) (by omega) (by omega) (by omega), if_neg (by omega), if_pos rfl, if_neg (by omega), if_pos rfl]
          exact hab
        · exact List.Pairwise.nil
    refine ⟨fun m h => ?_, ?_⟩
    · obtain ⟨s, hs1, hm⟩ := List.mem_flatMap.mp h
      obtain ⟨q1, q2⟩ := hs s hs1
      obtain ⟨p1, p2⟩ := (ih s q1).1 m hm
      exact ⟨p1, fun i hi => (p2 i (by omega)).trans (q2 i hi)⟩
    · rw [List.pairwise_flatMap]
      refine ⟨fun s h => (ih s (hs s h).1).2, List.Pairwise.imp_of_mem (fun {s t} h1 h2 hst => ?_) hp⟩
      intro x hx y hy
      obtain ⟨a1, a2⟩ := hs s h1
      obtain ⟨b1, b2⟩ := hs t h2
      obtain ⟨c1, c2⟩ := (ih s a1).1 x hx
      obtain ⟨d1, d2⟩ := (ih t b1).1 y hy
      refine ⟨g, by omega, fun j hj => ?_, ?_⟩
      · rw [c2 j (by omega), d2 j (by omega), a2 j hj, b2 j hj]
      · rw [c2 g (by omega), d2 g (by omega)]
        exact hst

theorem all_order (ws : List (List Int)) : (allTwos ws).Pairwise (ltK ws.length) := by
  rw [all_proc]
  exact (proc_order ws ws.length _ (Nat.le_refl _) List.length_replicate).2
end B2

namespace B2
open PySem L2 PyProof.Rows

/-! ### xs < ys for two lists of numbers -/
def rLtL (K : PySem.W.Frag) : R2 := fun x y H Q => ∃ (p r : Addr) (us vs : List Int), x = .ref p ∧ y = .ref r ∧ SqL K H p (us.map V.int) ∧ SqL K H r (vs.map V.int) ∧
  Q (.bl (SeqAt.firstLt (fun j => decide (us.getD j 0 = vs.getD j 0)) (fun j => decide (us.getD j 0 < vs.getD j 0)) (decide (us.length < vs.length)) (List.range (min us.length vs.length)))) H
theorem op_ltL {X : Cx} (room : X.A.units < cLine) : OpR X (compareOp .Lt) (rLtL X.K) := by
  intro pins s σ H x y v u Q I ex ey ⟨p, r, us, vs, e1, e2, h1, h2, fin⟩
  subst e1 e2
  cases ex; cases ey
  obtain ⟨xs, w1, ⟨o1, n1, l1, l2, _, l3⟩, _⟩ := I.list h1
  obtain ⟨ys, w2, ⟨o2, n2, l4, l5, _, l6⟩, _⟩ := I.list h2
  have q1 : IntsAre xs us := Vals.ints w1
  have q2 : IntsAre ys vs := Vals.ints w2
  have z1 : xs.toArray.size = us.length := (List.size_toArray ..).trans q1.length
  have z2 : ys.toArray.size = vs.length := (List.size_toArray ..).trans q2.length
  have g1 : ∀ j (hj : j < xs.toArray.size), ∃ t, xs.toArray[j] = .int (us.getD j 0) t := fun j hj => IntsAre.int_at q1 _ _ (by simp at hj; simp [hj])
  have g2 : ∀ j (hj : j < ys.toArray.size), ∃ t, ys.toArray[j] = .int (vs.getD j 0) t := fun j hj => IntsAre.int_at q2 _ _ (by simp at hj; simp [hj])
  have main := SeqAt.RcLt.lists (A := X.A) (s := s) (e := fun j => decide (us.getD j 0 = vs.getD j 0)) (r := fun j => decide (us.getD j 0 < vs.getD j 0))
    ⟨o1, l1, l2, n1, l3⟩ ⟨o2, l4, l5, n2, l6⟩ room (fun j ha hb => by
      obtain ⟨t, et⟩ := g1 j ha
      obtain ⟨t', et'⟩ := g2 j hb
      rw [et, et']
      obtain ⟨k, ek, hk⟩ := HT.eqAt_int X.A.in1 s (us.getD j 0) t (vs.getD j 0) t'
      have : k = decide (us.getD j 0 = vs.getD j 0) := by
        by_cases c : us.getD j 0 = vs.getD j 0
        · rw [decide_eq_true c, hk.mpr c]
        · rw [decide_eq_false c]
          exact Bool.eq_false_iff.mpr fun z => c (hk.mp z)
      rw [← this]
      exact ek) (fun j ha hb _ => by
      obtain ⟨t, et⟩ := g1 j ha
      obtain ⟨t', et'⟩ := g2 j hb
      rw [et, et']
      exact fun prog w E Q => HT.rcLt_int X.A.in1 s _ _ _ _ prog w E Q)
  rw [z1, z2] at main
  exact (main X.prog X.w X.xe (EP X pins σ Q) ⟨.bl _, H, I, rfl, fin⟩ : wpAny (model X.prog X.w) X.A (compareOp .Lt (.ref p) (.ref r)) (EP X pins σ Q) X.xe s)

theorem first_yes {e r : Nat → Bool} {fin : Bool} : ∀ (k s i : Nat), s ≤ i → i < s + k → (∀ j, s ≤ j → j < i → e j = true) → e i = false → r i = true → SeqAt.firstLt e r fin (List.range' s k) = true
  | 0, s, i, h0, h1, _, _, _ => by omega
  | k + 1, s, i, h0, h1, he, hi, hr => by
    rw [List.range'_succ]
    by_cases c : s = i
    · subst c
      rw [SeqAt.firstLt_no hi]
      exact hr
    · rw [SeqAt.firstLt_yes (he s (Nat.le_refl _) (by omega))]
      exact first_yes k (s + 1) i (by omega) (by omega) (fun j a b => he j (by omega) b) hi hr

def keyL (ms : List (Option Int)) : List Int := ms.map keyO
theorem key_get {ms : List (Option Int)} {j : Nat} (h : j < ms.length) : (keyL ms).getD j 0 = keyO (mt ms (j : Int)) := by
  have := mt_get (ms := ms) (i := (j : Int)) (by omega) (by omega)
  have e : ((j : Nat) : Int).toNat = j := by omega
  rw [e] at this
  unfold keyL
  rw [List.getD_eq_getElem?_getD, List.getElem?_map, this]
  rfl
theorem key_less {n : Nat} {a b : List (Option Int)} (ha : a.length = n) (hb : b.length = n) (h : ltK n a b) :
    SeqAt.firstLt (fun j => decide ((keyL a).getD j 0 = (keyL b).getD j 0)) (fun j => decide ((keyL a).getD j 0 < (keyL b).getD j 0)) (decide ((keyL a).length < (keyL b).length)) (List.range (min (keyL a).length (keyL b).length)) = true := by
  obtain ⟨i, hi, h1, h2⟩ := h
  have la : (keyL a).length = n := by unfold keyL; rw [List.length_map]; exact ha
  have lb : (keyL b).length = n := by unfold keyL; rw [List.length_map]; exact hb
  rw [la, lb, Nat.min_self, List.range_eq_range']
  refine first_yes n 0 i (Nat.zero_le _) (by omega) (fun j _ hj => ?_) ?_ ?_
  · apply decide_eq_true
    rw [key_get (by omega), key_get (by omega), h1 j hj]
  · apply decide_eq_false
    rw [key_get (by omega), key_get (by omega)]
    omega
  · apply decide_eq_true
    rw [key_get (by omega), key_get (by omega)]
    exact h2
theorem key_first {b : List (Option Int)} (h : 0 < b.length) :
    SeqAt.firstLt (fun j => decide (([] : List Int).getD j 0 = (keyL b).getD j 0)) (fun j => decide (([] : List Int).getD j 0 < (keyL b).getD j 0)) (decide (([] : List Int).length < (keyL b).length)) (List.range (min ([] : List Int).length (keyL b).length)) = true := by
  have lb : (keyL b).length = b.length := by unfold keyL; rw [List.length_map]
  rw [lb]
  show SeqAt.firstLt _ _ (decide (0 < b.length)) (List.range (min 0 b.length)) = true
  rw [Nat.zero_min, decide_eq_true h]
  rfl
end B2

namespace B2
open PySem L2
def top (i : Nat) : Stmt := PySem.Challenge.pw_bedtwos_k05_whole_all_twos.main.body.getD i (.Pass ⟨0, 0, 0, 0⟩)
abbrev s_is_guest : Stmt := top 5
abbrev s_need_row : Stmt := top 6
abbrev s_need_wishes : Stmt := top 7
abbrev s_in_both : Stmt := top 8
abbrev s_is_ahead : Stmt := top 9
abbrev s_restless_pairs : Stmt := top 11
abbrev s_joined : Stmt := top 12
abbrev s_settled : Stmt := top 13
abbrev s_all_twos : Stmt := top 14
abbrev s_all_calm : Stmt := top 15
abbrev s_cell_at : Stmt := top 17
abbrev s_row_by : Stmt := top 18
abbrev s_wishes_by : Stmt := top 19
abbrev s_whole : Stmt := top 20
abbrev s_lsuits : Stmt := top 21
abbrev s_lrather : Stmt := top 22
abbrev s_lrestless : Stmt := top 23
abbrev s_lmates : Stmt := top 24
abbrev s_count : Stmt := top 25
abbrev s_key : Stmt := top 26
abbrev s_law : Stmt := top 27
/-- the names of the machine's own -/
structure Own (mg : Str → Option Value) : Prop where
  len : mg "len" = none
  rng : mg "range" = none
  isI : mg "isinstance" = none
  int : mg "int" = none
  bool : mg "bool" = none
  list : mg "list" = none
  set : mg "set" = none
  enm : mg "enumerate" = none
end B2

namespace B2
open PySem L2

/-- what a caller wants of a def: it stands under its name, it keeps its promise -/
structure Cal (P : Program) (w : World) (K : PySem.W.Frag) (mg : Str → Option Value) (base : Heap) (k : Nat) (x : Str) (ps : List Str) (sp : Sp) : Prop where
  ex : ∃ (g : Addr) (gd : FuncData), FnOk P w K mg base CX0 k g gd ps sp ∧ mg x = some (.ref g) ∧ PySem.W.keepIn K (.ref g) = true ∧ Binds K gd ps []

theorem kit_ii {K : PySem.W.Frag} : PySem.W.kitOne K (.type "int") (.type "int") = some true := kit_ty (by decide +kernel)
theorem kit_ib {K : PySem.W.Frag} : PySem.W.kitOne K (.type "int") (.type "bool") = some false := kit_ty (by decide +kernel)
theorem kit_bb {K : PySem.W.Frag} : PySem.W.kitOne K (.type "bool") (.type "bool") = some true := kit_ty (by decide +kernel)
theorem kit_ll {K : PySem.W.Frag} : PySem.W.kitOne K (.type "list") (.type "list") = some true := kit_ty (by decide +kernel)
theorem ty_list {K : PySem.W.Frag} {H : Hp} {a : Addr} {xs : List V} (h : SqL K H a xs) : TyX K H (.ref a) (.type "list") := by
  rcases h with h | ⟨o, its, n, h, hc, _⟩
  · rcases h with h | ⟨o, h⟩
    · exact .base (.lst h)
    · exact .base (.frz h)
  · exact .kList h hc

section
variable {P : Program} {w : World} {K : PySem.W.Frag} {mg : Str → Option Value} {base : Heap}

/-! ### is_guest -/
theorem sc_is_guest : FnScope ["number", "many"] ["number", "many"] (defScope s_is_guest) := ⟨rfl, rfl, rfl, by decide +kernel, rfl, by decide +kernel, by decide +kernel⟩
def sp_is_guest : Sp := fun vs H Q _ => ∃ (i n : Int), vs = [.int i, .int n] ∧ Q (.bl (decide (0 ≤ i ∧ i < n))) H
theorem ok_is_guest {f : Addr} {fd : FuncData} (F : Fun K "is_guest" "is_guest" s_is_guest f fd) (T : Own mg) : FnOk P w K mg base CX0 1 f fd ["number", "many"] sp_is_guest := by
  refine F.ok sc_is_guest (fun vs H Q E h => ?_) (fun cdv A outer s H vs Q E hr h => ?_)
  · obtain ⟨i, n, rfl, _⟩ := h
    rfl
  obtain ⟨i, n, rfl, q⟩ := h
  refine ⟨_, pss_cons (ps_if (PW.pt (pw_or (pt_not (pt_val (pe_callB call_isi (by rfl) T.isI (by decide +kernel) (pa_cons (pv 0) (pa_cons (pe_bltn (v := .ty "int") (by rfl) T.int (by decide +kernel) rfl) pa_nil)))))
      (pw_or1 (pt_val (pe_callB call_isi (by rfl) T.isI (by decide +kernel) (pa_cons (pv 0) (pa_cons (pe_bltn (v := .ty "bool") (by rfl) T.bool (by decide +kernel) rfl) pa_nil))))))) (pss_one (ps_ret pe_bl)) pss_nil)
    (pss_one (ps_ret (pe_chain op_le op_lt pe_int (pv 0) (pv 1)))), ?_⟩
  refine ⟨_, rfl, _, _, _, _, _, rfl, .ty _, .base (.int i), kit_ii, _, rfl, iteF ⟨_, rfl, _, _, _, _, _, rfl, .ty _, .base (.int i), kit_ib, _, rfl, iteF ⟨_, rfl, _, _, rfl, rfl, _, rfl, ?_⟩⟩⟩
  refine ite2 (fun c => ?_) (fun c => ?_)
  · have c' : (0 : Int) ≤ i := of_decide_eq_true c
    refine ⟨_, rfl, _, _, rfl, rfl, ?_⟩
    have e : decide (i < n) = decide (0 ≤ i ∧ i < n) := by
      by_cases h : i < n
      · rw [decide_eq_true h, decide_eq_true ⟨c', h⟩]
      · rw [decide_eq_false h, decide_eq_false (fun z => h z.2)]
    show Q (.bl (decide (i < n))) H
    rw [e]; exact q
  · have c' : ¬ (0 : Int) ≤ i := of_decide_eq_false (Bool.eq_false_iff.mpr c)
    have e : decide (0 ≤ i ∧ i < n) = false := decide_eq_false (fun z => c' z.1)
    rw [e] at q; exact q
end
end B2

namespace B2
open PySem L2
section
variable {P : Program} {w : World} {K : PySem.W.Frag} {mg : Str → Option Value} {base : Heap}

/-! ### in_both -/
theorem sc_in_both : FnScope ["wishes", "one", "other"] ["wishes", "one", "other"] (defScope s_in_both) := ⟨rfl, rfl, rfl, by decide +kernel, rfl, by decide +kernel, by decide +kernel⟩
def sp_in_both (K : PySem.W.Frag) : Sp := fun vs H Q _ => ∃ (a : Addr) (ws : List (List Int)) (i j : Int), vs = [.ref a, .int i, .int j] ∧ Tab K H a ws ∧
  0 ≤ i ∧ i < (ws.length : Int) ∧ 0 ≤ j ∧ j < (ws.length : Int) ∧ Q (.bl (suitsB ws i j)) H
theorem ok_in_both {f : Addr} {fd : FuncData} (F : Fun K "in_both" "in_both" s_in_both f fd) : FnOk P w K mg base CX0 1 f fd ["wishes", "one", "other"] (sp_in_both K) := by
  refine F.ok sc_in_both (fun vs H Q E h => ?_) (fun cdv A outer s H vs Q E hr h => ?_)
  · obtain ⟨a, ws, i, j, rfl, _⟩ := h
    rfl
  obtain ⟨a, ws, i, j, rfl, hT, i0, i1, j0, j1, q⟩ := h
  refine ⟨_, pss_one (ps_ret (pe_and (pe_cmpR op_in_seq (pv 2) (pe_ix ix_list (pv 0) (pv 1) (fun _ _ => rfl)) (by rfl))
    (pe_one (pe_cmpR op_in_seq (pv 1) (pe_ix ix_list (pv 0) (pv 2) (fun _ _ => rfl)) (by rfl))))), ?_⟩
  obtain ⟨as, h1, h2, h3⟩ := hT.at
  obtain ⟨bi, hbi, hsi⟩ := h3 i i0 i1
  obtain ⟨bj, hbj, hsj⟩ := h3 j j0 j1
  refine ⟨_, rfl, _, rfl, _, rfl, a, _, _, _, rfl, rfl, h1, hbi, bi, _, rfl, .inl hsi, rfl, flat_ints _, _, rfl, ?_⟩
  show if inV (.int j) ((rowOf ws i).map V.int) = true then _ else _
  rw [inV_int]
  refine ite2 (fun c => ?_) (fun c => ?_)
  · refine ⟨_, rfl, _, rfl, _, rfl, a, _, _, _, rfl, rfl, h1, hbj, bj, _, rfl, .inl hsj, rfl, flat_ints _, ?_⟩
    show Q (.bl (inV (.int i) ((rowOf ws j).map V.int))) H
    rw [inV_int]
    have e : suitsB ws i j = decide (i ∈ rowOf ws j) := by unfold suitsB; rw [c, Bool.true_and]
    rw [← e]; exact q
  · have e : suitsB ws i j = false := by unfold suitsB; rw [Bool.eq_false_iff.mpr c, Bool.false_and]
    rw [e] at q; exact q

/-! ### is_ahead -/
theorem sc_is_ahead : FnScope ["wishes", "guest", "one", "other", "row"] ["wishes", "guest", "one", "other"] (defScope s_is_ahead) := ⟨rfl, rfl, rfl, by decide +kernel, rfl, by decide +kernel, by decide +kernel⟩
def sp_is_ahead (K : PySem.W.Frag) : Sp := fun vs H Q _ => ∃ (a : Addr) (ws : List (List Int)) (g : Int) (x y : Option Int), vs = [.ref a, .int g, ov x, ov y] ∧ Tab K H a ws ∧
  0 ≤ g ∧ g < (ws.length : Int) ∧ OkO ws.length x ∧ OkO ws.length y ∧ Q (.bl (aheadB ws g x y)) H
theorem ok_is_ahead {f : Addr} {fd : FuncData} (F : Fun K "is_ahead" "is_ahead" s_is_ahead f fd) (C1 : Cal P w K mg base 1 "in_both" ["wishes", "one", "other"] (sp_in_both K)) :
    FnOk P w K mg base CX0 2 f fd ["wishes", "guest", "one", "other"] (sp_is_ahead K) := by
  obtain ⟨g1, gd1, G1, m1, k1, b1⟩ := C1
  refine F.ok sc_is_ahead (fun vs H Q E h => ?_) (fun cdv A outer s H vs Q E hr h => ?_)
  · obtain ⟨a, ws, g, x, y, rfl, _⟩ := h
    rfl
  obtain ⟨a, ws, g, x, y, rfl, hT, g0, g1, hx, hy, q⟩ := h
  refine ⟨_, pss_cons (ps_if (PW.pt (pw_or (pt_cmpR op_eq (pv 2) (pv 3) (nomark _)) (pw_or (pt_cmpR op_isN (pv 2) pe_non (nomark _))
      (pw_or1 (pt_not (pt_val (pe_call G1 hr (by rfl) m1 k1 b1 .nil pass0 (pa_cons (pv 0) (pa_cons (pv 1) (pa_cons (pv 2) pa_nil))))))))))
      (pss_one (ps_ret pe_bl)) pss_nil)
    (pss_cons (ps_if (PW.pt (pw_or (pt_cmpR op_isN (pv 3) pe_non (nomark _))
      (pw_or1 (pt_not (pt_val (pe_call G1 hr (by rfl) m1 k1 b1 .nil pass0 (pa_cons (pv 0) (pa_cons (pv 1) (pa_cons (pv 3) pa_nil)))))))))
      (pss_one (ps_ret pe_bl)) pss_nil)
    (pss_cons (ps_set (i := 4) sc_is_ahead.nd rfl (Or.inl rfl) (pe_ix ix_list (pv 0) (pv 1) (fun _ _ => rfl)))
    (pss_one (ps_ret (pe_cmpR op_lt
      (pe_bm PySem.F.plainAttrs_list PySem.F.slot_list_index PySem.F.type_list_index mt_index (pv 4) (pa_cons (pv 2) pa_nil))
      (pe_bm PySem.F.plainAttrs_list PySem.F.slot_list_index PySem.F.type_list_index mt_index (pv 4) (pa_cons (pv 3) pa_nil)) (nomark _)))))), ?_⟩
  refine ⟨_, rfl, _, rfl, (by cases x <;> cases y <;> rfl), _, rfl, ?_⟩
  rw [ov_dec]
  refine ite2 (fun c => ?_) (fun c => ?_)
  · have c' : x = y := of_decide_eq_true c
    subst c'
    have e : aheadB ws g x x = false := by
      cases x with
      | none => rfl
      | some a =>
        show (if a = a then false else _) = false
        rw [if_pos rfl]
    rw [e] at q; exact q
  have c' : ¬ x = y := of_decide_eq_false (Bool.eq_false_iff.mpr c)
  refine ⟨_, rfl, rfl, _, rfl, ?_⟩
  cases x with
  | none => exact iteT q
  | some x =>
  refine iteF ?_
  refine ⟨_, rfl, _, rfl, _, rfl, a, ws, g, x, rfl, hT, g0, g1, hx.1, hx.2, _, rfl, ?_⟩
  cases e1 : suitsB ws g x with
  | false =>
    refine iteT ?_
    have e : aheadB ws g (some x) y = false := by
      cases y with
      | none => exact e1
      | some y =>
        show (if x = y then false else _) = false
        rw [if_neg (fun z => c' (congrArg some z)), e1]
        rfl
    rw [e] at q; exact q
  | true =>
  refine iteF ?_
  refine ⟨_, rfl, rfl, _, rfl, ?_⟩
  cases y with
  | none =>
    have e : aheadB ws g (some x) none = true := e1
    rw [e] at q
    exact iteT q
  | some y =>
  refine iteF ?_
  refine ⟨_, rfl, _, rfl, _, rfl, a, ws, g, y, rfl, hT, g0, g1, hy.1, hy.2, _, rfl, ?_⟩
  have e0 : aheadB ws g (some x) (some y) = if suitsB ws g y = true then decide ((rowOf ws g).idxOf x < (rowOf ws g).idxOf y) else true := by
    show (if x = y then false else _) = _
    rw [if_neg (fun z => c' (congrArg some z)), if_pos e1]
  rw [e0] at q
  cases e2 : suitsB ws g y with
  | false =>
    rw [e2] at q
    exact iteT q
  | true =>
  rw [e2, if_pos rfl] at q
  refine iteF ?_
  obtain ⟨as, h1, h2, h3⟩ := hT.at
  obtain ⟨b, hb, hs⟩ := h3 g g0 g1
  obtain ⟨p1, p2⟩ := index_at x (rowOf ws g) (suitsB_mem e1).1
  obtain ⟨r1, r2⟩ := index_at y (rowOf ws g) (suitsB_mem e2).1
  refine ⟨_, rfl, _, rfl, a, _, _, _, rfl, rfl, h1, hb, ?_⟩
  refine ⟨_, rfl, .inl ⟨rfl, _, hs⟩, _, rfl, b, _, _, _, _, rfl, rfl, hs, rfl, flat_ints _, p1, (by show (x == x) = true; exact beq_self_eq_true x), p2, ?_⟩
  refine ⟨_, rfl, .inl ⟨rfl, _, hs⟩, _, rfl, b, _, _, _, _, rfl, rfl, hs, rfl, flat_ints _, r1, (by show (y == y) = true; exact beq_self_eq_true y), r2, ?_⟩
  refine ⟨_, _, rfl, rfl, ?_⟩
  have e3 : decide ((((rowOf ws g).idxOf x : Nat) : Int) < (((rowOf ws g).idxOf y : Nat) : Int)) = decide ((rowOf ws g).idxOf x < (rowOf ws g).idxOf y) := by
    by_cases z : (rowOf ws g).idxOf x < (rowOf ws g).idxOf y
    · rw [decide_eq_true z, decide_eq_true (by omega)]
    · rw [decide_eq_false z, decide_eq_false (by omega)]
  show Q (.bl (decide ((((rowOf ws g).idxOf x : Nat) : Int) < (((rowOf ws g).idxOf y : Nat) : Int)))) H
  rw [e3]; exact q
end
end B2

namespace B2
open PySem L2
section
variable {P : Program} {w : World} {K : PySem.W.Frag} {mg : Str → Option Value} {base : Heap}

/-! ### need_row -/
theorem sc_need_row : FnScope ["row", "guest", "many", "wish"] ["row", "guest", "many"] (defScope s_need_row) := ⟨rfl, rfl, rfl, by decide +kernel, rfl, by decide +kernel, by decide +kernel⟩
def sp_need_row (K : PySem.W.Frag) : Sp := fun vs H Q _ => ∃ (b : Addr) (g : Int) (n : Nat) (r : List Int), vs = [.ref b, .int g, .int n] ∧ SqL K H b (r.map V.int) ∧ GoodRow n g r ∧ Q .non H
theorem ok_need_row {f : Addr} {fd : FuncData} (F : Fun K "need_row" "need_row" s_need_row f fd) (T : Own mg) (C1 : Cal P w K mg base 1 "is_guest" ["number", "many"] sp_is_guest) :
    FnOk P w K mg base CX0 2 f fd ["row", "guest", "many"] (sp_need_row K) := by
  obtain ⟨g1, gd1, G1, m1, k1, b1⟩ := C1
  refine F.ok sc_need_row (fun vs H Q E h => ?_) (fun cdv A outer s H vs Q E hr h => ?_)
  · obtain ⟨b, g, n, r, rfl, _⟩ := h
    rfl
  obtain ⟨b, g, n, r, rfl, hS, hG, q⟩ := h
  refine ⟨_, pss_cons (ps_if (pt_not (pt_val (pe_callB call_isi (by rfl) T.isI (by decide +kernel) (pa_cons (pv 0) (pa_cons (pe_bltn (v := .ty "list") (by rfl) T.list (by decide +kernel) rfl) pa_nil)))))
      (pss_one ps_never) pss_nil)
    (pss_cons (ps_for PassesOwn.never rfl (pi_list (pv 0)) (pg_name (i := 3) sc_need_row.nd rfl (Or.inl rfl))
      (pss_one (ps_if (PW.pt (pw_or (pt_not (pt_val (pe_call G1 hr (by rfl) m1 k1 b1 .nil pass0 (pa_cons (pv 3) (pa_cons (pv 2) pa_nil)))))
        (pw_or1 (pt_cmpR op_eq (pv 3) (pv 1) (nomark _))))) (pss_one ps_never) pss_nil)))
    (pss_one (ps_if (pt_cmpR op_lt (RZ.pe_lenSetI (by rfl) T.len (by rfl) T.set (pv 0)) (pe_callB call_len_seq (by rfl) T.len PySem.boot_len (pa_cons (pv 0) pa_nil)) (nomark _))
      (pss_one ps_never) pss_nil))), ?_⟩
  refine ⟨_, rfl, _, _, _, _, _, rfl, .ty _, ty_list hS, kit_ll, _, rfl, iteF ?_⟩
  refine ⟨_, rfl, b, rfl, ⟨_, hS⟩, for_list (K := K) (a := b) (xs := r.map V.int) (fun i σ H' => H' = H ∧ ∃ z, σ = [some (.ref b), some (.int g), some (.int n), z])
    ⟨rfl, none, rfl⟩ (fun i σ H' _ h => by rw [h.1]; exact hS) ?_ ?_⟩
  · rintro i x σ H' hx ⟨rfl, z, rfl⟩
    rw [List.getElem?_map] at hx
    cases hy : r[i]? with
    | none => rw [hy] at hx; cases hx
    | some y =>
    rw [hy] at hx
    cases hx
    have hm : y ∈ r := List.mem_of_getElem? hy
    obtain ⟨y0, y1, y2⟩ := hG.rg y hm
    refine ⟨_, rfl, _, rfl, y, n, rfl, _, rfl, ?_⟩
    rw [decide_eq_true (And.intro y0 y1)]
    refine iteF ⟨_, rfl, _, rfl, rfl, _, rfl, ?_⟩
    have e : decide (V.int y = V.int g) = false := decide_eq_false (fun z => y2 (by cases z; rfl))
    rw [e]
    exact iteF ⟨rfl, _, rfl⟩
  · rintro σ H' ⟨rfl, z, rfl⟩
    have hl := hG.sm
    refine ⟨_, rfl, b, r, rfl, hS, hG.nd, by omega, _, rfl, b, _, rfl, .inl hS, _, _, rfl, rfl, _, rfl, ?_⟩
    have e : decide (((r.length : Nat) : Int) < (((r.map V.int).length : Nat) : Int)) = false := decide_eq_false (by rw [List.length_map]; omega)
    rw [e]
    exact iteF q

/-! ### need_wishes -/
theorem sc_need_wishes : FnScope ["wishes", "many", "guest", "row"] ["wishes"] (defScope s_need_wishes) := ⟨rfl, rfl, rfl, by decide +kernel, rfl, by decide +kernel, by decide +kernel⟩
def sp_need_wishes (K : PySem.W.Frag) : Sp := fun vs H Q _ => ∃ (a : Addr) (ws : List (List Int)), vs = [.ref a] ∧ Tab K H a ws ∧ Good ws ∧ ∀ H', Same H H' → Q .non H'
theorem ok_need_wishes {f : Addr} {fd : FuncData} (F : Fun K "need_wishes" "need_wishes" s_need_wishes f fd) (T : Own mg) (M : ∃ t, mg "MOST_GUESTS" = some (.int 6 t)) (C1 : Cal P w K mg base 2 "need_row" ["row", "guest", "many"] (sp_need_row K)) :
    FnOk P w K mg base CX0 3 f fd ["wishes"] (sp_need_wishes K) := by
  obtain ⟨g1, gd1, G1, m1, k1, b1⟩ := C1
  obtain ⟨t, mM⟩ := M
  refine F.ok sc_need_wishes (fun vs H Q E h => ?_) (fun cdv A outer s H vs Q E hr h => ?_)
  · obtain ⟨a, ws, rfl, _⟩ := h
    rfl
  obtain ⟨a, ws, rfl, hT, hG, q⟩ := h
  refine ⟨_, pss_cons (ps_if (pt_not (pt_val (pe_callB call_isi (by rfl) T.isI (by decide +kernel) (pa_cons (pv 0) (pa_cons (pe_bltn (v := .ty "list") (by rfl) T.list (by decide +kernel) rfl) pa_nil)))))
      (pss_one ps_never) pss_nil)
    (pss_cons (ps_set (i := 1) sc_need_wishes.nd rfl (Or.inl rfl) (pe_callB call_len_seq (by rfl) T.len PySem.boot_len (pa_cons (pv 0) pa_nil)))
    (pss_cons (ps_if (pt_not (pt_chain op_le op_le pe_int (pv 1) (pe_glob (v := .int 6) rfl mM ⟨_, rfl⟩))) (pss_one ps_never) pss_nil)
    (pss_one (ps_for PassesOwn.never rfl (pi_enum (by rfl) T.enm (pa_cons (pv 0) pa_nil))
      (pg_tup (by rfl) (pgs_cons (pg_name (i := 2) sc_need_wishes.nd rfl (Or.inl rfl)) (pgs_cons (pg_name (i := 3) sc_need_wishes.nd rfl (Or.inl rfl)) pgs_nil)))
      (pss_one (ps_expr (pe_call G1 hr (by rfl) m1 k1 b1 .nil pass0 (pa_cons (pv 3) (pa_cons (pv 2) (pa_cons (pv 1) pa_nil)))))))))), ?_⟩
  obtain ⟨as, h1, h2, h3⟩ := id hT
  have hl : (as.map V.ref).length = ws.length := by rw [List.length_map]; exact h2
  have lo := hG.lo
  have hi := hG.hi
  refine ⟨_, rfl, _, _, _, _, _, rfl, .ty _, ty_list h1, kit_ll, _, rfl, iteF ?_⟩
  refine ⟨_, rfl, a, _, rfl, .inl h1, ?_⟩
  rw [hl]
  refine ⟨_, rfl, _, _, rfl, rfl, _, rfl, ?_⟩
  rw [decide_eq_true (show (1 : Int) ≤ ((ws.length : Nat) : Int) by omega)]
  refine iteT ⟨_, _, rfl, rfl, _, rfl, ?_⟩
  rw [decide_eq_true (show ((ws.length : Nat) : Int) ≤ 6 by omega)]
  refine iteF ?_
  refine ⟨_, rfl, a, _, rfl, h1, for_it walk_enum (fun i σ H' => Same H H' ∧ ∃ y z, σ = [some (.ref a), some (.int ws.length), y, z])
    ⟨Same.refl H, none, none, rfl⟩ (fun i σ H' _ h => h.1.seq h1) ?_ ?_⟩
  · rintro i x σ H' H2 hi' ⟨hs, y, z, rfl⟩ ⟨t, x1, x2, rfl, ht, rfl, ex1, ex2⟩
    rw [hl] at hi'
    cases ex1
    obtain ⟨b, hb, hsb⟩ := h3 i ws[i] (List.getElem?_eq_getElem hi')
    change (as.map V.ref)[i]? = some x2 at ex2
    rw [List.getElem?_map, hb] at ex2
    cases ex2
    have hs2 := hs.trans (same_new ht (.tup [V.int (i : Nat), V.ref b]))
    refine ⟨t, _, rfl, SqT.of upd_same, rfl, _, _, rfl, _, _, rfl, rfl, ?_⟩
    refine ⟨_, rfl, _, rfl, _, rfl, b, (i : Int), ws.length, ws[i], rfl, hs2.seq hsb, hG.row i _ (List.getElem?_eq_getElem hi'), hs2, _, _, rfl⟩
  · rintro σ H' ⟨hs, y, z, rfl⟩
    exact q H' hs

end
end B2

namespace B2
open PySem L2
section
variable {P : Program} {w : World} {K : PySem.W.Frag} {mg : Str → Option Value} {base : Heap}

/-! ### restless_pairs -/
theorem sc_restless_pairs : FnScope ["wishes", "mates", "many", "one", "other"] ["wishes", "mates"] (defScope s_restless_pairs) := ⟨rfl, rfl, rfl, by decide +kernel, rfl, by decide +kernel, by decide +kernel⟩
def sp_pairs (K : PySem.W.Frag) : Sp := fun vs H Q _ => ∃ (a b : Addr) (ws : List (List Int)) (ms : List (Option Int)), vs = [.ref a, .ref b] ∧ Tab K H a ws ∧ Good ws ∧ SqL K H b (ms.map ov) ∧ OkMates ws ms ∧
  ∀ (H' : Hp) (p : Addr), H p = none → BuiltF tupO H p (wildAll ws ms) H' → Q (.ref p) H'
theorem ok_restless_pairs {f : Addr} {fd : FuncData} (F : Fun K "restless_pairs" "restless_pairs" s_restless_pairs f fd) (T : Own mg) (C1 : Cal P w K mg base 2 "is_ahead" ["wishes", "guest", "one", "other"] (sp_is_ahead K)) :
    FnOk P w K mg base CX0 3 f fd ["wishes", "mates"] (sp_pairs K) := by
  obtain ⟨g1, gd1, G1, m1, k1, b1⟩ := C1
  refine F.ok sc_restless_pairs (fun vs H Q E h => ?_) (fun cdv A outer s H vs Q E hr h => ?_)
  · obtain ⟨a, b, ws, ms, rfl, _⟩ := h
    rfl
  obtain ⟨a, b, ws, ms, rfl, hT, hG, hM, hO, q⟩ := h
  refine ⟨_, pss_cons (ps_set (i := 2) sc_restless_pairs.nd rfl (Or.inr rfl) (pe_callB call_len_seq (by rfl) T.len PySem.boot_len (pa_cons (pv 0) pa_nil)))
    (pss_one (ps_ret (pe_lc2 (own := [("one", 3), ("other", 4)]) (vs1 := [4]) (g := gName 3) (tt := tYes) (g1 := gName 4) rfl sc_restless_pairs.nd (pi_range1 rfl T.rng (pa_cons (pv 2) pa_nil))
      (blkOk_by (N := ["wishes", "mates", "many", "one", "other"]) (sc := defScope s_restless_pairs) (by decide +kernel)) (by decide)
      (fun _ _ _ _ _ => pg_name (i := 3) sc_restless_pairs.nd rfl (Or.inl rfl)) (fun _ _ _ _ _ => pts_nil)
      (fun _ _ _ _ _ => pi_range2 (by rfl) T.rng (pa_cons (pe_op op_add (pv 3) pe_int) (pa_cons (pv 2) pa_nil)))
      (fun _ _ _ _ _ => pg_name (i := 4) sc_restless_pairs.nd rfl (Or.inl rfl))
      (fun _ _ _ _ _ => pts_one (PW.pt (pw_and (pt_val (pe_call G1 hr (by rfl) m1 k1 b1 .nil pass0 (pa_cons (pv 0) (pa_cons (pv 3) (pa_cons (pv 4) (pa_cons (pe_ix (ix_lst (K := K) rfl) (pv 1) (pv 3) (fun _ _ => rfl)) pa_nil))))))
        (pw_and1 (pt_val (pe_call G1 hr (by rfl) m1 k1 b1 .nil pass0 (pa_cons (pv 0) (pa_cons (pv 4) (pa_cons (pv 3) (pa_cons (pe_ix (ix_lst (K := K) rfl) (pv 1) (pv 4) (fun _ _ => rfl)) pa_nil))))))))))
      (fun _ _ _ _ _ => pe_tup (pa_cons (pv 3) (pa_cons (pv 4) pa_nil)))))), ?_⟩
  obtain ⟨as, h1, h2, h3⟩ := id hT
  have hl : (as.map V.ref).length = ws.length := by rw [List.length_map]; exact h2
  have hi := hG.hi
  have hml := hO.len
  refine ⟨_, rfl, a, _, rfl, .inl h1, ?_⟩
  rw [hl]
  refine ⟨_, rfl, (ws.length : Int), rfl, by omega, by omega, fun D hD => ?_⟩
  refine in_it (walk_range (lo := 0) (n := ((ws.length : Nat) : Int).toNat)) (fun i H' => BuiltF tupO H D (wildUp ws ms ws.length i) H')
    (built_start hD) (fun _ _ _ _ => trivial) ?_ ?_
  · rintro i x H1 H2 hin hB ⟨rfl, hx⟩
    obtain rfl : x = V.int (i : Int) := by
      rw [hx]
      show V.int (0 + (i : Int)) = _
      rw [Int.zero_add]
    clear hx
    have hin' : i < ws.length := by omega
    refine ⟨rfl, ?_⟩
    refine ⟨_, rfl, _, _, rfl, rfl, _, rfl, _, _, rfl, ⟨by omega, by omega, by omega, by omega⟩, ?_⟩
    have en : (((ws.length : Nat) : Int) - ((i : Int) + 1)).toNat = ws.length - (i + 1) := by omega
    refine in_it (walk_range (lo := (i : Int) + 1) (n := (((ws.length : Nat) : Int) - ((i : Int) + 1)).toNat)) (fun t H' => BuiltF tupO H D (wildUp ws ms ws.length i ++ wildIn ws ms i t) H')
      (by show BuiltF tupO H D (wildUp ws ms ws.length i ++ []) H2; rw [List.append_nil]; exact hB) (fun _ _ _ _ => trivial) ?_ ?_
    · rintro t x H3 H4 hlt hB2 ⟨rfl, rfl⟩
      have hT4 := hT.same hB2.1
      have hM4 := hB2.1.seq hM
      refine ⟨rfl, ?_⟩
      refine ⟨_, rfl, _, rfl, _, rfl, _, rfl, _, rfl, b, _, _, _, rfl, rfl, hM4, mt_at (ms := ms) (i := (i : Int)) (by omega) (by omega), ?_⟩
      refine ⟨a, ws, (i : Int), some ((i : Int) + 1 + (t : Int)), mt ms (i : Int), rfl, hT4, by omega, by omega, ⟨by omega, by omega⟩, hO.oko (by omega) (by omega), _, rfl, ?_⟩
      have ew : wildIn ws ms i (t + 1) = wildIn ws ms i t ++ (if wild ws ms (i : Int) ((i : Int) + 1 + (t : Int)) = true then [((i : Int), (i : Int) + 1 + (t : Int))] else []) := rfl
      have eu : wild ws ms (i : Int) ((i : Int) + 1 + (t : Int)) = (aheadB ws (i : Int) (some ((i : Int) + 1 + (t : Int))) (mt ms (i : Int)) && aheadB ws ((i : Int) + 1 + (t : Int)) (some (i : Int)) (mt ms ((i : Int) + 1 + (t : Int)))) := rfl
      rw [ew, eu]
      cases e1 : aheadB ws (i : Int) (some ((i : Int) + 1 + (t : Int))) (mt ms (i : Int)) with
      | false =>
        rw [Bool.false_and]
        show BuiltF tupO H D (wildUp ws ms ws.length i ++ (wildIn ws ms i t ++ [])) H4
        rw [List.append_nil]
        exact hB2
      | true =>
        rw [Bool.true_and]
        refine ⟨_, rfl, _, rfl, _, rfl, _, rfl, _, rfl, b, _, _, _, rfl, rfl, hM4, mt_at (ms := ms) (i := (i : Int) + 1 + (t : Int)) (by omega) (by omega), ?_⟩
        refine ⟨a, ws, (i : Int) + 1 + (t : Int), some (i : Int), mt ms ((i : Int) + 1 + (t : Int)), rfl, hT4, by omega, by omega, ⟨by omega, by omega⟩, hO.oko (by omega) (by omega), _, rfl, ?_⟩
        cases e2 : aheadB ws ((i : Int) + 1 + (t : Int)) (some (i : Int)) (mt ms ((i : Int) + 1 + (t : Int))) with
        | false =>
          show BuiltF tupO H D (wildUp ws ms ws.length i ++ (wildIn ws ms i t ++ [])) H4
          rw [List.append_nil]
          exact hB2
        | true =>
          refine ⟨_, rfl, _, rfl, (by show 2 ≤ sizeLine; decide), fun p hp => ?_⟩
          obtain ⟨acc, z1, z2, z3⟩ := built_step (r := ((i : Int), (i : Int) + 1 + (t : Int))) hD hB2 (same_new hp _) hp upd_same
          refine ⟨acc, z1, ?_, ?_⟩
          · have l1 := wildUp_le ws ms ws.length i
            have l2 := wildIn_le ws ms i t
            have l3 : i * ws.length ≤ 6 * 6 := Nat.mul_le_mul (by omega) (by omega)
            rw [z2, List.length_append]
            exact small1000 (by omega)
          · show BuiltF tupO H D (wildUp ws ms ws.length i ++ (wildIn ws ms i t ++ [((i : Int), (i : Int) + 1 + (t : Int))])) _
            rw [← List.append_assoc]
            exact z3
    · intro H' h
      rw [en] at h
      exact h
  · intro H' h
    have e : ((ws.length : Nat) : Int).toNat = ws.length := by omega
    rw [e] at h
    exact q H' D hD h
end
end B2

namespace B2
open PySem L2
section
variable {P : Program} {w : World} {K : PySem.W.Frag} {mg : Str → Option Value} {base : Heap}

/-! ### joined -/
theorem sc_joined : FnScope ["mates", "one", "other", "changed"] ["mates", "one", "other"] (defScope s_joined) := ⟨rfl, rfl, rfl, by decide +kernel, rfl, by decide +kernel, by decide +kernel⟩
def sp_joined (K : PySem.W.Frag) : Sp := fun vs H Q _ => ∃ (b : Addr) (ms : List (Option Int)) (i j : Int), vs = [.ref b, .int i, .int j] ∧ SqL K H b (ms.map ov) ∧ 0 ≤ i ∧ i < (ms.length : Int) ∧ 0 ≤ j ∧ j < (ms.length : Int) ∧
  ∀ (H' : Hp) (p : Addr), Same H H' → H p = none → H' p = some (fm (joinL ms i j)) → Q (.ref p) H'
theorem ok_joined {f : Addr} {fd : FuncData} (F : Fun K "joined" "joined" s_joined f fd) (T : Own mg) : FnOk P w K mg base CX0 1 f fd ["mates", "one", "other"] (sp_joined K) := by
  refine F.ok sc_joined (fun vs H Q E h => ?_) (fun cdv A outer s H vs Q E hr h => ?_)
  · obtain ⟨b, ms, i, j, rfl, _⟩ := h
    rfl
  obtain ⟨b, ms, i, j, rfl, hM, i0, i1, j0, j1, q⟩ := h
  refine ⟨_, pss_cons (ps_set (i := 3) sc_joined.nd rfl (Or.inl rfl) (pe_callTy (T := "list") (call_lof (K := K) rfl) (by rfl) T.list (by decide +kernel) (pa_cons (pv 0) pa_nil)))
    (pss_cons (ps_asg (pv 2) (pg_sub (pv 3) (pv 1) set_list))
    (pss_cons (ps_asg (pv 1) (pg_sub (pv 3) (pv 2) set_list))
    (pss_one (ps_ret (pv 3))))), ?_⟩
  refine ⟨_, rfl, b, _, rfl, .inl hM, fun p hp => ?_⟩
  refine ⟨_, rfl, _, rfl, _, rfl, p, _, _, _, rfl, rfl, upd_same, ixN_of i0 (by rw [List.length_map]; exact i1), ?_⟩
  refine ⟨_, rfl, _, rfl, _, rfl, p, _, _, _, rfl, rfl, upd_same, ixN_of j0 (by rw [List.length_set, List.length_map]; exact j1), ?_⟩
  refine ⟨_, rfl, q _ p (same_put (same_put (same_new hp _) hp _) hp _) hp ?_⟩
  rw [upd_same]
  unfold fm joinL
  rw [List.map_set, List.map_set]
  rfl

/-! ### settled -/
theorem sc_settled : FnScope ["wishes", "mates", "guest", "found", "other"] ["wishes", "mates", "guest"] (defScope s_settled) := ⟨rfl, rfl, rfl, by decide +kernel, rfl, by decide +kernel, by decide +kernel⟩
/-- at p the mates at b, then new ones -/
def MoreAt (H : Hp) (b p : Addr) (ls : List (List (Option Int))) (H' : Hp) : Prop :=
  Same H H' ∧ ∃ bs : List Addr, H' p = some (.lst (V.ref b :: bs.map V.ref)) ∧ bs.length = ls.length ∧ ∀ (i : Nat) (r : List (Option Int)), ls[i]? = some r → ∃ c, bs[i]? = some c ∧ H' c = some (fm r) ∧ c ≠ p ∧ H c = none
def sp_settled (K : PySem.W.Frag) : Sp := fun vs H Q _ => ∃ (a b : Addr) (ws : List (List Int)) (ms : List (Option Int)) (g : Nat), vs = [.ref a, .ref b, .int g] ∧ Tab K H a ws ∧ ws.length ≤ 6 ∧ SqL K H b (ms.map ov) ∧ OkMates ws ms ∧ g < ws.length ∧
  ∀ (H' : Hp) (p : Addr), H p = none → MoreAt H b p (moreL ws ms g) H' → Q (.ref p) H'
theorem ok_settled {f : Addr} {fd : FuncData} (F : Fun K "settled" "settled" s_settled f fd) (T : Own mg) (C1 : Cal P w K mg base 1 "in_both" ["wishes", "one", "other"] (sp_in_both K))
    (C2 : Cal P w K mg base 1 "joined" ["mates", "one", "other"] (sp_joined K)) : FnOk P w K mg base CX0 2 f fd ["wishes", "mates", "guest"] (sp_settled K) := by
  obtain ⟨g1, gd1, G1, m1, k1, b1⟩ := C1
  obtain ⟨g2, gd2, G2, m2, k2, b2⟩ := C2
  refine F.ok sc_settled (fun vs H Q E h => ?_) (fun cdv A outer s H vs Q E hr h => ?_)
  · obtain ⟨a, b, ws, ms, g, rfl, _⟩ := h
    rfl
  obtain ⟨a, b, ws, ms, g, rfl, hT, h6, hM, hO, hg, q⟩ := h
  refine ⟨_, pss_cons (ps_set (i := 3) sc_settled.nd rfl (Or.inl rfl) (pe_lst (pa_cons (pv 1) pa_nil)))
    (pss_cons (ps_if (pt_cmpR op_isN (pe_ix ix_list (pv 1) (pv 2) (fun _ _ => rfl)) pe_non (nomark _))
      (pss_one (ps_for PassesOwn.never rfl (pi_range2 (by rfl) T.rng (pa_cons (pe_op op_add (pv 2) pe_int) (pa_cons (pe_callB call_len_seq (by rfl) T.len PySem.boot_len (pa_cons (pv 0) pa_nil)) pa_nil))) (pg_name (i := 4) sc_settled.nd rfl (Or.inl rfl))
        (pss_one (ps_if (PW.pt (pw_and (pt_cmpR op_isN (pe_ix ix_list (pv 1) (pv 4) (fun _ _ => rfl)) pe_non (nomark _))
          (pw_and1 (pt_val (pe_call G1 hr (by rfl) m1 k1 b1 .nil pass0 (pa_cons (pv 0) (pa_cons (pv 2) (pa_cons (pv 4) pa_nil))))))))
          (pss_one (ps_expr (pe_bm PySem.F.plainAttrs_list PySem.F.slot_list_append PySem.F.type_list_append mt_append (pv 3)
            (pa_cons (pe_call G2 hr (by rfl) m2 k2 b2 .nil pass0 (pa_cons (pv 1) (pa_cons (pv 2) (pa_cons (pv 4) pa_nil)))) pa_nil)))) pss_nil)))) pss_nil)
    (pss_one (ps_ret (pv 3)))), ?_⟩
  have hml := hO.len
  obtain ⟨as, h1, h2, h3⟩ := id hT
  have hl : (as.map V.ref).length = ws.length := by rw [List.length_map]; exact h2
  refine ⟨_, rfl, (by show 1 ≤ sizeLine; decide), fun D hD => ?_⟩
  have s0 := same_new hD (.lst [V.ref b])
  refine ⟨_, rfl, _, rfl, b, _, _, _, rfl, rfl, s0.seq hM, mt_at (ms := ms) (i := (g : Int)) (by omega) (by omega), rfl, _, rfl, ?_⟩
  rw [ov_non]
  cases e1 : mt ms (g : Int) with
  | some k =>
    have e2 : moreL ws ms g = [] := by unfold moreL; rw [e1]; rfl
    refine iteF ⟨_, rfl, q _ D hD ?_⟩
    rw [e2]
    exact ⟨s0, [], upd_same, rfl, fun i r h => by cases h⟩
  | none =>
  have e2 : moreL ws ms g = joinsL ws ms g (ws.length - (g + 1)) := by unfold moreL; rw [if_pos e1]
  refine iteT ?_
  refine ⟨_, rfl, _, _, rfl, rfl, _, rfl, a, _, rfl, .inl (s0.seq h1), _, _, rfl, ⟨by omega, by omega, by rw [hl]; omega, by rw [hl]; omega⟩, ?_⟩
  rw [hl]
  have en : (((ws.length : Nat) : Int) - ((g : Int) + 1)).toNat = ws.length - (g + 1) := by omega
  refine for_range (lo := (g : Int) + 1) (n := (((ws.length : Nat) : Int) - ((g : Int) + 1)).toNat) (fun t σ H' => MoreAt H b D (joinsL ws ms g t) H' ∧ ∃ z, σ = [some (.ref a), some (.ref b), some (.int g), some (.ref D), z])
    ⟨⟨s0, [], upd_same, rfl, fun i r h => by cases h⟩, none, rfl⟩ ?_ ?_
  · rintro t σ H1 hlt ⟨⟨s1, bs, y1, y2, y3⟩, z, rfl⟩
    have hM1 := s1.seq hM
    have hjl := joins_le ws ms g t
    refine ⟨_, rfl, _, rfl, b, _, _, _, rfl, rfl, hM1, mt_at (ms := ms) (i := (g : Int) + 1 + (t : Int)) (by omega) (by omega), rfl, _, rfl, ?_⟩
    rw [ov_non]
    have ej : joinsL ws ms g (t + 1) = joinsL ws ms g t ++ (if (mt ms ((g : Int) + 1 + (t : Int)) = none ∧ suitsB ws (g : Int) ((g : Int) + 1 + (t : Int)) = true) then [joinL ms (g : Int) ((g : Int) + 1 + (t : Int))] else []) := rfl
    cases e3 : mt ms ((g : Int) + 1 + (t : Int)) with
    | some k =>
      refine iteF ⟨?_, _, rfl⟩
      rw [ej, e3, if_neg (by intro z; cases z.1), List.append_nil]
      exact ⟨s1, bs, y1, y2, y3⟩
    | none =>
    refine iteT ?_
    refine ⟨_, rfl, _, rfl, _, rfl, a, ws, (g : Int), (g : Int) + 1 + (t : Int), rfl, hT.same s1, by omega, by omega, by omega, by omega, _, rfl, ?_⟩
    cases e4 : suitsB ws (g : Int) ((g : Int) + 1 + (t : Int)) with
    | false =>
      refine iteF ⟨?_, _, rfl⟩
      rw [ej, e3, e4, if_neg (by intro z; cases z.2), List.append_nil]
      exact ⟨s1, bs, y1, y2, y3⟩
    | true =>
    refine iteT ?_
    refine ⟨_, rfl, .inl ⟨rfl, _, SqL.of y1⟩, _, rfl, _, rfl, _, rfl, b, ms, (g : Int), (g : Int) + 1 + (t : Int), rfl, hM1, by omega, by omega, by omega, by omega, fun H2 p s2 hp hp2 => ?_⟩
    have y12 := s2 _ _ y1
    have npD : p ≠ D := (ne_of_none y1 hp).symm
    refine ⟨D, _, _, rfl, rfl, y12, ?_, ?_, _, rfl⟩
    · rw [List.length_cons, List.length_map, y2]
      exact small1000 (by omega)
    rw [ej, e3, e4, if_pos ⟨rfl, rfl⟩]
    refine ⟨same_put (s1.trans s2) hD _, bs ++ [p], ?_, ?_, fun i r hr' => ?_⟩
    · rw [upd_same, List.map_append]
      rfl
    · rw [List.length_append, List.length_append, y2]
      rfl
    · rw [List.getElem?_append] at hr'
      rw [List.getElem?_append]
      by_cases c : i < (joinsL ws ms g t).length
      · rw [if_pos c] at hr'
        rw [if_pos (by rw [y2]; exact c)]
        obtain ⟨c1, c2, c3, c4, c5⟩ := y3 i r hr'
        exact ⟨c1, c2, by rw [upd_ne c4]; exact s2 _ _ c3, c4, c5⟩
      · rw [if_neg c] at hr'
        rw [if_neg (by rw [y2]; exact c)]
        have i0 : i - (joinsL ws ms g t).length = 0 := by
          have := (List.getElem?_eq_some_iff.mp hr').1
          simp at this
          omega
        rw [i0] at hr'
        cases hr'
        rw [y2, i0]
        exact ⟨p, rfl, by rw [upd_ne npD]; exact hp2, npD, s1.free hp⟩
  · rintro σ H' ⟨h, z, rfl⟩
    rw [en, ← e2] at h
    exact ⟨_, rfl, q H' D hD h⟩

/-! ### all_twos -/
theorem sc_all_twos : FnScope ["wishes", "found", "guest", "mates", "further"] ["wishes"] (defScope s_all_twos) := ⟨rfl, rfl, rfl, by decide +kernel, rfl, by decide +kernel, by decide +kernel⟩
def sp_all_twos (K : PySem.W.Frag) : Sp := fun vs H Q _ => ∃ (a : Addr) (ws : List (List Int)), vs = [.ref a] ∧ Tab K H a ws ∧ Good ws ∧
  ∀ (H' : Hp) (p : Addr), H p = none → BuiltF fm H p (allTwos ws) H' → Q (.ref p) H'
theorem ok_all_twos {f : Addr} {fd : FuncData} (F : Fun K "all_twos" "all_twos" s_all_twos f fd) (T : Own mg) (C1 : Cal P w K mg base 3 "need_wishes" ["wishes"] (sp_need_wishes K))
    (C2 : Cal P w K mg base 2 "settled" ["wishes", "mates", "guest"] (sp_settled K)) : FnOk P w K mg base CX0 4 f fd ["wishes"] (sp_all_twos K) := by
  obtain ⟨g1, gd1, G1, m1, k1, b1⟩ := C1
  obtain ⟨g2, gd2, G2, m2, k2, b2⟩ := C2
  refine F.ok sc_all_twos (fun vs H Q E h => ?_) (fun cdv A outer s H vs Q E hr h => ?_)
  · obtain ⟨a, ws, rfl, _⟩ := h
    rfl
  obtain ⟨a, ws, rfl, hT, hG, q⟩ := h
  have hr2 : Room 2 _ := hr.mono (by decide)
  refine ⟨_, pss_cons (ps_expr (pe_call G1 hr (by rfl) m1 k1 b1 .nil pass0 (pa_cons (pv 0) pa_nil)))
    (pss_cons (ps_set (i := 1) sc_all_twos.nd rfl (Or.inl rfl) (pe_lst (pa_cons (pe_op op_rep (pe_lst (pa_cons pe_non pa_nil)) (pe_callB call_len_seq (by rfl) T.len PySem.boot_len (pa_cons (pv 0) pa_nil))) pa_nil)))
    (pss_cons (ps_for PassesOwn.never rfl (pi_range1 rfl T.rng (pa_cons (pe_callB call_len_seq (by rfl) T.len PySem.boot_len (pa_cons (pv 0) pa_nil)) pa_nil)) (pg_name (i := 2) sc_all_twos.nd rfl (Or.inr rfl))
      (pss_one (ps_setLc2 (i := 1) (own := [("mates", 3), ("further", 4)]) (vs1 := [4]) (g := gName 3) (tt := tYes) (g1 := gName 4) (tt1 := tYes) rfl sc_all_twos.nd rfl rfl (sw_true rfl rfl rfl (by decide +kernel)) (pi_list (pv 1))
        (blkOk_by (N := ["wishes", "found", "guest", "mates", "further"]) (sc := defScope s_all_twos) (by decide +kernel)) (by decide)
        (fun _ _ _ _ _ => pg_name (i := 3) sc_all_twos.nd rfl (Or.inl rfl)) (fun _ _ _ _ _ => pts_nil)
        (fun _ _ _ _ _ => pi_lst (K := K) rfl (pe_call G2 hr2 (by rfl) m2 k2 b2 .nil pass0 (pa_cons (pv 0) (pa_cons (pv 3) (pa_cons (pv 2) pa_nil)))))
        (fun _ _ _ _ _ => pg_name (i := 4) sc_all_twos.nd rfl (Or.inl rfl)) (fun _ _ _ _ _ => pts_nil) (fun _ _ _ _ _ => pv 4))))
    (pss_one (ps_ret (pv 1))))), ?_⟩
  obtain ⟨as0, h1, h2, h3⟩ := id hT
  have hl : (as0.map V.ref).length = ws.length := by rw [List.length_map]; exact h2
  have h6 := hG.hi
  refine ⟨_, rfl, a, ws, rfl, hT, hG, fun H1 s1 => ?_⟩
  refine ⟨(by show 1 ≤ sizeLine; decide), fun N hN => ?_⟩
  have s2 := s1.trans (same_new hN (.lst [V.non]))
  refine ⟨_, rfl, a, _, rfl, .inl (s2.seq h1), ?_⟩
  rw [hl]
  refine ⟨N, (ws.length : Int), _, rfl, rfl, upd_same, by omega, by omega, ?_, fun R hR => ?_⟩
  · show 1 * ((ws.length : Nat) : Int).toNat ≤ sizeLine
    exact le_line (by omega)
  have en : ((ws.length : Nat) : Int).toNat = ws.length := by omega
  rw [en, flat_nones]
  refine ⟨(by show 1 ≤ sizeLine; decide), fun D0 hD0 => ?_⟩
  have s3 := s2.trans (same_new hR (.lst ((List.replicate ws.length (none : Option Int)).map ov)))
  have s4 := s3.trans (same_new hD0 (.lst [V.ref R]))
  have nRD : R ≠ D0 := ne_of_none upd_same hD0
  refine ⟨_, rfl, a, _, rfl, .inl (s4.seq h1), (((as0.map V.ref).length : Nat) : Int), rfl, by rw [hl]; omega, by rw [hl]; omega, ?_⟩
  refine for_range (lo := 0) (n := (((as0.map V.ref).length : Nat) : Int).toNat) (fun g σ H' => ∃ (D : Addr) (y : Option V), σ = [some (.ref a), some (.ref D), y, none, none] ∧ H D = none ∧ BuiltF fm H D (stageL ws g) H')
    ⟨D0, none, rfl, s3.free hD0, s4, [R], upd_same, rfl, fun i r hr' => ?_⟩ ?_ ?_
  · have hi0 : i = 0 := by
      have := (List.getElem?_eq_some_iff.mp hr').1
      have e : (stageL ws 0).length = 1 := rfl
      omega
    subst hi0
    cases hr'
    exact ⟨R, rfl, by rw [upd_ne nRD]; exact upd_same, nRD, s2.free hR⟩
  · rintro g σ H2 hin ⟨D, y, rfl, hD, hB⟩
    have hg : g < ws.length := by rw [hl] at hin; omega
    have ei : (0 : Int) + (g : Int) = (g : Int) := Int.zero_add _
    rw [ei]
    obtain ⟨e2, as, d1, d2, d3⟩ := id hB
    have hsm := stage_small ws h6 g (by omega)
    refine ⟨_, rfl, D, rfl, ⟨_, SqL.of d1⟩, fun D2 hD2 => ?_⟩
    have hD20 : H D2 = none := e2.free hD2
    refine in_it (walk_list (xs := as.map V.ref)) (fun i H' => Same H2 H' ∧ BuiltF fm H D2 (((stageL ws g).take i).flatMap fun ms => settledL ws ms g) H')
      ⟨same_new hD2 _, (built_start hD2).back e2⟩ (fun i H' _ h => h.1.seq (SqL.of d1)) ?_ ?_
    · rintro i x H3 _ hi ⟨e3, hB3⟩ ⟨rfl, hx⟩
      obtain ⟨b, hb, rfl⟩ := map_ref_get hx
      have hi' : i < (stageL ws g).length := by rw [← d2]; exact (List.getElem?_eq_some_iff.mp hb).1
      obtain ⟨b', hb', c2, c3, c4⟩ := d3 i (stageL ws g)[i] (List.getElem?_eq_getElem hi')
      rw [hb] at hb'
      cases hb'
      have hOk := stage_ok ws g (by omega) _ (List.getElem_mem hi')
      have hge : (stageL ws g)[i]? = some (stageL ws g)[i] := List.getElem?_eq_getElem hi'
      generalize (stageL ws g)[i] = ms at c2 hOk hge
      refine ⟨rfl, ?_⟩
      have hT3 := (hT.same e2).same e3
      have hb3 := e3 _ _ c2
      refine ⟨_, rfl, _, rfl, _, rfl, a, b, ws, ms, g, rfl, hT3, h6, SqL.of hb3, hOk, hg, fun H4 p hp hM => ?_⟩
      obtain ⟨e4, bs, r1, r2, r3⟩ := hM
      obtain ⟨hB31, as2, hB32, hB33, hB34⟩ := id hB3
      have npD2 : p ≠ D2 := (ne_of_none hB32 hp).symm
      have hcs : ∀ (j : Nat) (r : List (Option Int)), (settledL ws ms g)[j]? = some r → ∃ c, (b :: bs)[j]? = some c ∧ H4 c = some (fm r) ∧ c ≠ D2 ∧ H c = none := by
        intro j r hj
        unfold settledL at hj
        cases j with
        | zero =>
          cases hj
          exact ⟨b, rfl, e4 _ _ hb3, ne_of_none c2 hD2, c4⟩
        | succ j =>
          rw [List.getElem?_cons_succ] at hj
          obtain ⟨c, q1, q2, q3, q4⟩ := r3 j r hj
          exact ⟨c, q1, q2, (ne_of_none hB32 q4).symm, (e2.trans e3).free q4⟩
      have hcl : (b :: bs).length = (settledL ws ms g).length := by unfold settledL; rw [List.length_cons, List.length_cons, r2]
      have r1' : H4 p = some (.lst ((b :: bs).map V.ref)) := r1
      generalize b :: bs = cs at hcs hcl r1'
      have hst := settled_le (ws := ws) (ms := ms) hg
      have hpl := flatMap_le (fun ms => settledL ws ms g) 6 ((stageL ws g).take i) fun _ _ => Nat.le_trans (settled_le hg) h6
      rw [List.length_take] at hpl
      have hpl2 : (((stageL ws g).take i).flatMap fun ms => settledL ws ms g).length ≤ 300000 := by omega
      refine ⟨p, rfl, ⟨_, SqL.of r1'⟩, ?_⟩
      refine in_it (walk_list (xs := cs.map V.ref)) (fun t H' => Same H2 H' ∧ BuiltF fm H D2 ((((stageL ws g).take i).flatMap fun ms => settledL ws ms g) ++ (settledL ws ms g).take t) H' ∧ H' p = some (.lst (cs.map V.ref)) ∧
          ∀ (j : Nat) (r : List (Option Int)), (settledL ws ms g)[j]? = some r → ∃ c, cs[j]? = some c ∧ H' c = some (fm r) ∧ c ≠ D2 ∧ H c = none)
        ⟨e3.trans e4, by rw [List.take_zero, List.append_nil]; exact hB3.on e4, r1', hcs⟩ (fun t H' _ h => SqL.of h.2.2.1) ?_ ?_
      · rintro t x H5 _ ht ⟨f1, f2, f3, f4⟩ ⟨rfl, hx5⟩
        obtain ⟨c, hc, rfl⟩ := map_ref_get hx5
        have ht' : t < (settledL ws ms g).length := by rw [← hcl]; exact (List.getElem?_eq_some_iff.mp hc).1
        obtain ⟨c', hc', q2, q3, q4⟩ := f4 t (settledL ws ms g)[t] (List.getElem?_eq_getElem ht')
        rw [hc] at hc'
        cases hc'
        refine ⟨rfl, ?_⟩
        obtain ⟨acc, z1, z2, z3⟩ := built_put hD20 f2 q2 q3 q4
        refine ⟨_, rfl, acc, z1, ?_, ?_, ?_, by rw [upd_ne npD2]; exact f3, fun j r hj => ?_⟩
        · rw [z2, List.length_append, List.length_take]
          exact big_line (by omega)
        · exact same_put f1 hD2 _
        · rw [take_one (List.getElem?_eq_getElem ht'), ← List.append_assoc]
          exact z3
        · obtain ⟨c, u1, u2, u3, u4⟩ := f4 j r hj
          exact ⟨c, u1, by rw [upd_ne u3]; exact u2, u3, u4⟩
      · rintro H5 ⟨f1, f2, f3, f4⟩
        refine ⟨f1, ?_⟩
        have e9 : (settledL ws ms g).take (cs.map V.ref).length = settledL ws ms g := List.take_of_length_le (by rw [List.length_map, hcl]; exact Nat.le_refl _)
        rw [e9] at f2
        rw [take_one hge, List.flatMap_append]
        have e : (List.flatMap (fun ms => settledL ws ms g) [ms]) = settledL ws ms g := by
          rw [List.flatMap_cons, List.flatMap_nil, List.append_nil]
        rw [e]
        exact f2
    · rintro H3 ⟨e3, hB3⟩
      rw [List.take_of_length_le (by rw [List.length_map, d2]; exact Nat.le_refl _)] at hB3
      exact ⟨D2, _, rfl, hD20, hB3⟩
  · rintro σ H' ⟨D, y, rfl, hD, hB⟩
    have e : (((as0.map V.ref).length : Nat) : Int).toNat = ws.length := by rw [hl]; omega
    rw [e] at hB
    exact ⟨_, rfl, q H' D hD hB⟩

/-! ### all_calm -/
theorem sc_all_calm : FnScope ["wishes", "mates"] ["wishes"] (defScope s_all_calm) := ⟨rfl, rfl, rfl, by decide +kernel, rfl, by decide +kernel, by decide +kernel⟩
def sp_all_calm (K : PySem.W.Frag) : Sp := fun vs H Q _ => ∃ (a : Addr) (ws : List (List Int)), vs = [.ref a] ∧ Tab K H a ws ∧ Good ws ∧
  ∀ (H' : Hp) (p : Addr), H p = none → BuiltF fm H p (allCalm ws) H' → Q (.ref p) H'
theorem ok_all_calm {f : Addr} {fd : FuncData} (F : Fun K "all_calm" "all_calm" s_all_calm f fd) (C1 : Cal P w K mg base 4 "all_twos" ["wishes"] (sp_all_twos K))
    (C2 : Cal P w K mg base 3 "restless_pairs" ["wishes", "mates"] (sp_pairs K)) : FnOk P w K mg base CX0 5 f fd ["wishes"] (sp_all_calm K) := by
  obtain ⟨g1, gd1, G1, m1, k1, b1⟩ := C1
  obtain ⟨g2, gd2, G2, m2, k2, b2⟩ := C2
  refine F.ok sc_all_calm (fun vs H Q E h => ?_) (fun cdv A outer s H vs Q E hr h => ?_)
  · obtain ⟨a, ws, rfl, _⟩ := h
    rfl
  obtain ⟨a, ws, rfl, hT, hG, q⟩ := h
  have hr3 : Room 3 _ := hr.mono (by decide)
  have hu := hr.units
  refine ⟨_, pss_one (ps_ret (pe_lc (own := [("mates", 1)]) (g := gName 1) rfl sc_all_calm.nd (pi_list (pe_call G1 hr (by rfl) m1 k1 b1 .nil pass0 (pa_cons (pv 0) pa_nil)))
      (blkOk_by (N := ["wishes", "mates"]) (sc := defScope s_all_calm) (by decide +kernel))
      (fun _ _ _ _ _ => pg_name (i := 1) sc_all_calm.nd rfl (Or.inl rfl))
      (fun _ _ _ _ _ => pts_one (pt_cmpR (eq_dat (K := K) rfl hu) (pe_call G2 hr3 (by rfl) m2 k2 b2 .nil pass0 (pa_cons (pv 0) (pa_cons (pv 1) pa_nil))) (pe_lst pa_nil) (nomark _)))
      (fun _ _ _ _ _ => pv 1))), ?_⟩
  have h6 := hG.hi
  refine ⟨_, rfl, a, ws, rfl, hT, hG, fun H1 p hp hB => ?_⟩
  obtain ⟨e1, as, d1, d2, d3⟩ := hB
  refine ⟨p, rfl, ⟨_, SqL.of d1⟩, fun D hD => ?_⟩
  have hD0 : H D = none := e1.free hD
  have hsm := stage_small ws h6 ws.length (Nat.le_refl _)
  refine lc_list (K := K) (a := p) (xs := as.map V.ref) (fun i H' => Same H1 H' ∧ BuiltF fm H D (((allTwos ws).take i).filter fun ms => (wildAll ws ms).isEmpty) H')
    ⟨same_new hD _, (built_start hD).back e1⟩ (fun i H' _ h => h.1.seq (SqL.of d1)) ?_ ?_
  · rintro i x H2 hx ⟨e2, hB2⟩
    obtain ⟨b, hb, rfl⟩ := map_ref_get hx
    have hi' : i < (allTwos ws).length := by rw [← d2]; exact (List.getElem?_eq_some_iff.mp hb).1
    obtain ⟨b', hb', c2, c3, c4⟩ := d3 i (allTwos ws)[i] (List.getElem?_eq_getElem hi')
    rw [hb] at hb'
    cases hb'
    have hOk := stage_ok ws ws.length (Nat.le_refl _) _ (List.getElem_mem hi')
    have hge : (allTwos ws)[i]? = some (allTwos ws)[i] := List.getElem?_eq_getElem hi'
    generalize (allTwos ws)[i] = ms at c2 hOk hge
    rw [take_one hge, List.filter_append]
    have hfl : (((allTwos ws).take i).filter fun ms => (wildAll ws ms).isEmpty).length ≤ 46656 := by
      refine Nat.le_trans (List.length_filter_le _ _) ?_
      rw [List.length_take]
      unfold allTwos
      omega
    refine ⟨rfl, ?_⟩
    have hT2 := (hT.same e1).same e2
    refine ⟨_, rfl, _, rfl, a, b, ws, ms, rfl, hT2, hG, SqL.of (e2 _ _ c2), hOk, fun H3 r hr' hR => ?_⟩
    refine ⟨(by show 0 ≤ sizeLine; decide), fun e he => ?_⟩
    have s4 : Same H3 (upd H3 e (.lst [])) := same_new he _
    have e4 := hR.1.trans s4
    refine ⟨dPs (wildAll ws ms), dPs [], (hR.prs.same s4).dp, .lst (SqL.of upd_same) .nil, dPs_shaped _, dPs_shaped _, _, rfl, ?_⟩
    rw [dPs_nil]
    cases ew : (wildAll ws ms).isEmpty with
    | false =>
      refine iteF ⟨e2.trans e4, ?_⟩
      have e : [ms].filter (fun ms => (wildAll ws ms).isEmpty) = [] := by
        rw [List.filter_cons, ew]; rfl
      rw [e, List.append_nil]
      exact hB2.on e4
    | true =>
      have e : [ms].filter (fun ms => (wildAll ws ms).isEmpty) = [ms] := by
        rw [List.filter_cons, ew]; rfl
      rw [e]
      obtain ⟨acc, z1, z2, z3⟩ := built_put hD0 (hB2.on e4) (e4 _ _ (e2 _ _ c2)) (ne_of_none c2 hD) c4
      refine ⟨_, rfl, acc, z1, ?_, ?_, z3⟩
      · rw [z2]
        exact big_line (by omega)
      · exact same_put (e2.trans e4) hD _
  · rintro H2 ⟨e2, hB2⟩
    rw [List.take_of_length_le (by rw [List.length_map, d2]; exact Nat.le_refl _)] at hB2
    exact q H2 D hD0 hB2
end
end B2

namespace B2
open PySem L2
section
variable {P : Program} {w : World} {K : PySem.W.Frag} {mg : Str → Option Value} {base : Heap}

/-! ### _law_cell_at -/
theorem sc_cell_at : FnScope ["_law_script", "_law_k"] ["_law_script", "_law_k"] (defScope s_cell_at) := ⟨rfl, rfl, rfl, by decide +kernel, rfl, by decide +kernel, by decide +kernel⟩
def sp_cell_at (K : PySem.W.Frag) : Sp := fun vs H Q _ => ∃ (a : Addr) (ns : List Int) (k : Int), vs = [.ref a, .int k] ∧ SqL K H a (ns.map V.int) ∧ 0 ≤ k ∧ ∀ c : Int, Q (.int c) H
theorem ok_cell_at {f : Addr} {fd : FuncData} (F : Fun K "_law_cell_at" "_law_cell_at" s_cell_at f fd) (T : Own mg) : FnOk P w K mg base CX0 1 f fd ["_law_script", "_law_k"] (sp_cell_at K) := by
  refine F.ok sc_cell_at (fun vs H Q E h => ?_) (fun cdv A outer s H vs Q E hr h => ?_)
  · obtain ⟨a, ns, k, rfl, _⟩ := h
    rfl
  obtain ⟨a, ns, k, rfl, hS, k0, q⟩ := h
  refine ⟨_, pss_cons (ps_if (pt_cmpR op_lt (pv 1) (pe_callB call_len_seq (by rfl) T.len PySem.boot_len (pa_cons (pv 0) pa_nil)) (nomark _))
      (pss_one (ps_ret (pe_ix ix_list (pv 0) (pv 1) (fun _ _ => rfl)))) pss_nil)
    (pss_one (ps_ret pe_int)), ?_⟩
  refine ⟨_, rfl, _, rfl, a, _, rfl, .inl hS, _, _, rfl, rfl, _, rfl, ?_⟩
  refine ite2 (fun c => ?_) (fun c => ?_)
  · have c' : k < (((ns.map V.int).length : Nat) : Int) := of_decide_eq_true c
    rw [List.length_map] at c'
    have hk : k.toNat < ns.length := by omega
    have e : k = ((k.toNat : Nat) : Int) := by omega
    have z : atI (ns.map V.int) ((k.toNat : Nat) : Int) = some (.int ns[k.toNat]) := atI_nat (by rw [List.getElem?_map, List.getElem?_eq_getElem hk]; rfl)
    rw [← e] at z
    exact ⟨_, rfl, _, rfl, a, _, _, _, rfl, rfl, hS, z, q _⟩
  · exact q 0

/-! ### _law_row_by -/
theorem sc_row_by : FnScope ["_law_cell", "_law_guest", "_law_many", "_law_full", "_law_left", "_law_row", "_law_one"] ["_law_cell", "_law_guest", "_law_many", "_law_full"] (defScope s_row_by) := ⟨rfl, rfl, rfl, by decide +kernel, rfl, by decide +kernel, by decide +kernel⟩
def sp_row_by : Sp := fun vs H Q _ => ∃ (c g : Int) (n : Nat) (full : Bool), vs = [.int c, .int g, .int n, .bl full] ∧ n ≤ 6 ∧
  ∀ (H' : Hp) (p : Addr) (r : List Int), Same H H' → H p = none → H' p = some (.lst (r.map V.int)) → GoodRow n g r → Q (.ref p) H'

/-- what is left to be drawn, and what is drawn -/
structure Draw (H : Hp) (n : Nat) (g : Int) (D R : Addr) (H' : Hp) (left row : List Int) : Prop where
  same : Same H H'
  hD : H D = none
  hR : H R = none
  ne : D ≠ R
  atD : H' D = some (.lst (left.map V.int))
  atR : H' R = some (.lst (row.map V.int))
  nd : (row ++ left).Nodup
  rg : ∀ x ∈ row ++ left, 0 ≤ x ∧ x < (n : Int) ∧ x ≠ g
  sm : (row ++ left).length ≤ 6

theorem Draw.good {H H' : Hp} {n : Nat} {g : Int} {D R : Addr} {left row : List Int} (d : Draw H n g D R H' left row) : GoodRow n g row :=
  ⟨(List.nodup_append.mp d.nd).1, fun x hx => d.rg x (List.mem_append_left _ hx), by have := d.sm; rw [List.length_append] at this; omega⟩

theorem GoodRow.take {n : Nat} {g : Int} {r : List Int} (h : GoodRow n g r) (m : Nat) : GoodRow n g (r.take m) :=
  ⟨h.nd.sublist (List.take_sublist m r), fun x hx => h.rg x (List.mem_of_mem_take hx), Nat.le_trans (List.length_take_le' m r) h.sm⟩

theorem erase_perm {α : Type} : ∀ (l : List α) (k : Nat) (y : α), l[k]? = some y → (y :: l.eraseIdx k).Perm l
  | [], _, _, h => by cases h
  | a :: l, 0, y, h => by cases h; exact List.Perm.refl _
  | a :: l, k + 1, y, h => by
    have ih := erase_perm l k y h
    exact (List.Perm.swap a y _).trans (List.Perm.cons a ih)

theorem Draw.step {H H' : Hp} {n : Nat} {g : Int} {D R : Addr} {left row : List Int} (d : Draw H n g D R H' left row) {k : Nat} {y : Int} (hy : left[k]? = some y) :
    Draw H n g D R (upd (upd H' D (.lst ((left.eraseIdx k).map V.int))) R (.lst ((row ++ [y]).map V.int))) (left.eraseIdx k) (row ++ [y]) := by
  have p : (y :: left.eraseIdx k).Perm left := erase_perm left k y hy
  have p2 : (row ++ [y] ++ left.eraseIdx k).Perm (row ++ left) := by
    rw [List.append_assoc]
    exact List.Perm.append_left row p
  exact ⟨same_put (same_put d.same d.hD _) d.hR _, d.hD, d.hR, d.ne, by rw [upd_ne d.ne, upd_same], upd_same, p2.nodup_iff.mpr d.nd, fun x hx => d.rg x (p2.mem_iff.mp hx), by rw [p2.length_eq]; exact d.sm⟩

theorem ok_row_by {f : Addr} {fd : FuncData} (F : Fun K "_law_row_by" "_law_row_by" s_row_by f fd) (T : Own mg) : FnOk P w K mg base CX0 1 f fd ["_law_cell", "_law_guest", "_law_many", "_law_full"] sp_row_by := by
  refine F.ok sc_row_by (fun vs H Q E h => ?_) (fun cdv A outer s H vs Q E hr h => ?_)
  · obtain ⟨c, g, n, full, rfl, _⟩ := h
    rfl
  obtain ⟨c, g, n, full, rfl, hn, q⟩ := h
  refine ⟨_, pss_cons (ps_setLc (i := 4) (own := [("_law_one", 6)]) (g := gName 6) rfl sc_row_by.nd rfl rfl (sw_true rfl rfl rfl (by decide +kernel)) (pi_range1 rfl T.rng (pa_cons (pv 2) pa_nil))
      (blkOk_by (N := ["_law_cell", "_law_guest", "_law_many", "_law_full", "_law_left", "_law_row", "_law_one"]) (sc := defScope s_row_by) (by decide +kernel))
      (fun _ _ _ _ _ => pg_name (i := 6) sc_row_by.nd rfl (Or.inl rfl)) (fun _ _ _ _ _ => pts_one (pt_cmpR op_ne (pv 6) (pv 1) (nomark _))) (fun _ _ _ _ _ => pv 6))
    (pss_cons (ps_set (i := 5) sc_row_by.nd rfl (Or.inl rfl) (pe_lst pa_nil))
    (pss_cons (ps_while PassesOwn.never (pt_cmpR op_gt (pe_callB call_len_seq (by rfl) T.len PySem.boot_len (pa_cons (pv 4) pa_nil)) pe_int (nomark _))
      (pss_cons (ps_expr (pe_bm PySem.F.plainAttrs_list PySem.F.slot_list_append PySem.F.type_list_append mt_append (pv 5)
          (pa_cons (pe_bm PySem.F.plainAttrs_list PySem.F.slot_list_pop PySem.F.type_list_pop mt_popAt (pv 4)
            (pa_cons (pe_op op_mod (pv 0) (pe_callB call_len_seq (by rfl) T.len PySem.boot_len (pa_cons (pv 4) pa_nil))) pa_nil)) pa_nil)))
      (pss_one (ps_set (i := 0) sc_row_by.nd rfl (Or.inl rfl) (pe_op op_fdiv (pv 0) (pe_op op_add (pe_callB call_len_seq (by rfl) T.len PySem.boot_len (pa_cons (pv 4) pa_nil)) pe_int))))))
    (pss_cons (ps_if (pt_val (pv 3)) (pss_one (ps_ret (pv 5))) pss_nil)
    (pss_one (ps_ret (pe_slice sl_list (pv 5) po_none (po_some (pe_op op_mod (pv 0) (pe_op op_add (pe_callB call_len_seq (by rfl) T.len PySem.boot_len (pa_cons (pv 5) pa_nil)) pe_int))))))))), ?_⟩
  refine ⟨_, rfl, (n : Int), rfl, (by omega), (by omega), fun D hD => ?_⟩
  refine lc_range (lo := 0) (n := (n : Int).toNat) (fun i H' => ∃ acc : List Int, H' = upd H D (.lst (acc.map V.int)) ∧ acc.Nodup ∧ acc.length ≤ i ∧ ∀ x ∈ acc, 0 ≤ x ∧ x < (i : Int) ∧ x ≠ g)
    ⟨[], rfl, List.nodup_nil, Nat.le_refl _, fun x hx => by cases hx⟩ ?_ ?_
  · rintro i H' hi ⟨acc, rfl, nd, hl, hx⟩
    refine ⟨rfl, _, rfl, _, rfl, rfl, _, rfl, ?_⟩
    refine ite2 (fun c => ?_) (fun c => ?_)
    · have hg : (0 + (i : Int)) ≠ g := fun z => by
        rw [decide_eq_true (by rw [z])] at c
        cases c
      refine ⟨_, rfl, acc.map V.int, upd_same, by rw [List.length_map]; exact Nat.lt_of_le_of_lt hl (small1000 (by omega)), acc ++ [0 + (i : Int)], ?_, ?_, ?_, ?_⟩
      · rw [upd_upd, List.map_append]; rfl
      · rw [List.nodup_append]
        refine ⟨nd, by simp, fun x hx1 y hy => ?_⟩
        rw [List.mem_singleton] at hy
        have := hx x hx1
        rw [hy]
        omega
      · rw [List.length_append, List.length_singleton]; omega
      · intro x hx1
        rcases List.mem_append.mp hx1 with h | h
        · have := hx x h
          exact ⟨this.1, by omega, this.2.2⟩
        · rw [List.mem_singleton] at h
          rw [h]
          exact ⟨by omega, by omega, hg⟩
    · exact ⟨acc, rfl, nd, by omega, fun x h => by
        have := hx x h
        exact ⟨this.1, by omega, this.2.2⟩⟩
  · rintro H' ⟨acc, rfl, nd, hl, hx⟩
    refine ⟨(by show 0 ≤ sizeLine; decide), fun R hR => ?_⟩
    have hDR : D ≠ R := ne_of_none (upd_same (H := H) (a := D)) hR
    have hR0 : H R = none := (same_new hD _).free hR
    refine while_by (fun σ H' => ∃ (c : Int) (left row : List Int) (z : Option V), σ = [some (.int c), some (.int g), some (.int n), some (.bl full), some (.ref D), some (.ref R), z] ∧ Draw H n g D R H' left row)
      (fun σ H' => match H' D with | some (.lst xs) => xs.length | _ => 0)
      ⟨c, acc, [], none, rfl, same_put (same_new hD _) hR0 _, hD, hR0, hDR, by rw [upd_ne hDR, upd_same], upd_same, nd, ?_, ?_⟩ ?_ ?_
    · intro x h
      have := hx x h
      exact ⟨this.1, by omega, this.2.2⟩
    · show acc.length ≤ 6
      omega
    · rintro σ H' ⟨c, left, row, z, rfl, d⟩
      refine ⟨_, rfl, D, _, rfl, .inl (SqL.of d.atD), _, _, rfl, rfl, _, rfl, ?_⟩
      rw [List.length_map]
      refine ite2 (fun c1 => ?_) (fun c1 => ?_)
      · have hl0 : ((left.length : Nat) : Int) > 0 := of_decide_eq_true c1
        have hk : (c % (left.length : Int)).toNat < left.length := by
          have h1 := Int.emod_lt_of_pos c hl0
          omega
        have h1 := Int.emod_lt_of_pos c hl0
        have h0 := Int.emod_nonneg c (show (left.length : Int) ≠ 0 by omega)
        have hlen := d.sm
        rw [List.length_append] at hlen
        have hget : left[(c % (left.length : Int)).toNat]? = some left[(c % (left.length : Int)).toNat] := List.getElem?_eq_getElem hk
        have d2 := d.step hget
        have nRD : R ≠ D := d.ne.symm
        refine ⟨_, rfl, .inl ⟨rfl, _, SqL.of d.atR⟩, ?_⟩
        refine ⟨_, rfl, .inl ⟨rfl, _, SqL.of d.atD⟩, ?_⟩
        refine ⟨_, rfl, _, rfl, D, _, rfl, .inl (SqL.of d.atD), c, (left.length : Int), rfl, by rw [List.length_map], hl0, ?_⟩
        refine ⟨D, _, _, (c % (left.length : Int)).toNat, _, rfl, rfl, d.atD, (by omega), (by omega), ?_, (by rw [List.getElem?_map, hget]; rfl), ?_⟩
        · rw [List.length_map]
          exact seqIx h0 h1
        refine ⟨R, _, _, rfl, rfl, by rw [upd_ne nRD]; exact d.atR, ?_, ?_⟩
        · rw [List.length_map]
          exact small1000 (by omega)
        have eH : upd (upd H' D (.lst ((left.map V.int).eraseIdx (c % (left.length : Int)).toNat))) R (.lst (row.map V.int ++ [V.int left[(c % (left.length : Int)).toNat]])) =
            upd (upd H' D (.lst ((left.eraseIdx (c % (left.length : Int)).toNat).map V.int))) R (.lst ((row ++ [left[(c % (left.length : Int)).toNat]]).map V.int)) := by
          rw [map_erase, List.map_append]; rfl
        rw [eH]
        have hel : (left.eraseIdx (c % (left.length : Int)).toNat).length = left.length - 1 := by rw [List.length_eraseIdx, if_pos hk]
        refine ⟨_, rfl, _, rfl, D, _, rfl, .inl (SqL.of d2.atD), _, _, rfl, rfl, _, _, rfl, rfl, ?_, ?_⟩
        · rw [List.length_map, hel]
          exact ⟨by omega, by omega⟩
        · refine ⟨⟨_, _, _, _, rfl, d2⟩, ?_⟩
          rw [d2.atD, d.atD]
          show (List.map V.int _).length < (List.map V.int _).length
          rw [List.length_map, List.length_map, hel]
          omega
      · have hl0 : left = [] := by
          have : ¬ ((left.length : Nat) : Int) > 0 := of_decide_eq_false (Bool.eq_false_iff.mpr c1)
          cases left with
          | nil => rfl
          | cons a l => simp at this
        subst hl0
        have hG := d.good
        refine ⟨_, rfl, _, rfl, ?_⟩
        refine ite2 (fun c2 => ?_) (fun c2 => ?_)
        · exact ⟨_, rfl, q H' R row d.same d.hR d.atR hG⟩
        · obtain ⟨m, hm⟩ := cut_take row (c % ((((row.map V.int).length : Nat) : Int) + 1))
          refine ⟨_, rfl, _, rfl, _, rfl, R, _, rfl, .inl (SqL.of d.atR), _, _, rfl, rfl, _, _, rfl, rfl, (by show (0 : Int) < (((row.map V.int).length : Nat) : Int) + 1; omega), _, rfl, R, _, rfl, SqL.of d.atR, fun p hp => ?_⟩
          rw [hm]
          exact q _ p (row.take m) (d.same.trans (same_new hp _)) (d.same.free hp) upd_same (hG.take m)
    · rintro σ H' Q1 Q2 hq ⟨v, hv, p, ys, e1, h, i, j, e2, e3, k, e4, hq1⟩
      exact ⟨v, hv, p, ys, e1, h, i, j, e2, e3, k, e4, hq _ _ hq1⟩

/-! ### _law_wishes_by -/
theorem sc_wishes_by : FnScope ["_law_script", "_law_many", "_law_full", "_law_k"] ["_law_script", "_law_many"] (defScope s_wishes_by) := ⟨rfl, rfl, rfl, by decide +kernel, rfl, by decide +kernel, by decide +kernel⟩
def sp_wishes_by (K : PySem.W.Frag) : Sp := fun vs H Q _ => ∃ (a : Addr) (ns : List Int) (n : Nat), vs = [.ref a, .int n] ∧ SqL K H a (ns.map V.int) ∧ 1 ≤ n ∧ n ≤ 6 ∧
  ∀ (H' : Hp) (p : Addr) (ws : List (List Int)), Same H H' → H p = none → Tab K H' p ws → Good ws → ws.length = n → Q (.ref p) H'
theorem ok_wishes_by {f : Addr} {fd : FuncData} (F : Fun K "_law_wishes_by" "_law_wishes_by" s_wishes_by f fd) (T : Own mg) (C1 : Cal P w K mg base 1 "_law_cell_at" ["_law_script", "_law_k"] (sp_cell_at K))
    (C2 : Cal P w K mg base 1 "_law_row_by" ["_law_cell", "_law_guest", "_law_many", "_law_full"] sp_row_by) : FnOk P w K mg base CX0 2 f fd ["_law_script", "_law_many"] (sp_wishes_by K) := by
  obtain ⟨g1, gd1, G1, m1, k1, b1⟩ := C1
  obtain ⟨g2, gd2, G2, m2, k2, b2⟩ := C2
  refine F.ok sc_wishes_by (fun vs H Q E h => ?_) (fun cdv A outer s H vs Q E hr h => ?_)
  · obtain ⟨a, ns, n, rfl, _⟩ := h
    rfl
  obtain ⟨a, ns, n, rfl, hS, n1, n6, q⟩ := h
  refine ⟨_, pss_cons (ps_set (i := 2) sc_wishes_by.nd rfl (Or.inr rfl) (pe_cmpR op_gt (pe_op op_mod (pe_call G1 hr (by rfl) m1 k1 b1 .nil pass0 (pa_cons (pv 0) (pa_cons pe_int pa_nil))) pe_int) pe_int (nomark _)))
    (pss_one (ps_ret (pe_lc (own := [("_law_k", 3)]) (g := gName 3) (tt := tYes) rfl sc_wishes_by.nd (pi_range1 rfl T.rng (pa_cons (pv 1) pa_nil))
      (blkOk_by (N := ["_law_script", "_law_many", "_law_full", "_law_k"]) (sc := defScope s_wishes_by) (by decide +kernel))
      (fun _ _ _ _ _ => pg_name (i := 3) sc_wishes_by.nd rfl (Or.inl rfl)) (fun _ _ _ _ _ => pts_nil)
      (fun _ _ _ _ _ => pe_call G2 hr (by rfl) m2 k2 b2 .nil pass0 (pa_cons (pe_call G1 hr (by rfl) m1 k1 b1 .nil pass0 (pa_cons (pv 0) (pa_cons (pe_op op_add pe_int (pv 3)) pa_nil))) (pa_cons (pv 3) (pa_cons (pv 1) (pa_cons (pv 2) pa_nil)))))))), ?_⟩
  refine ⟨_, rfl, a, ns, 1, rfl, hS, by decide, fun c => ?_⟩
  refine ⟨_, _, rfl, rfl, (by show (0 : Int) < 3; decide), _, _, rfl, rfl, ?_⟩
  refine ⟨_, rfl, (n : Int), rfl, by omega, by omega, fun D hD => ?_⟩
  refine lc_range (lo := 0) (n := (n : Int).toNat) (fun i H' => ∃ ws : List (List Int), Built H D (ws.map fun r => r.map V.int) H' ∧ ws.length = i ∧ ∀ (g : Nat) (r : List Int), ws[g]? = some r → GoodRow n (g : Int) r)
    ⟨[], built_start hD, rfl, fun g r h => by cases h⟩ ?_ ?_
  · rintro i H1 hi ⟨ws, hB, hl, hG⟩
    refine ⟨rfl, ?_⟩
    refine ⟨_, rfl, _, rfl, _, _, rfl, rfl, a, ns, _, rfl, hB.1.seq hS, (by omega), fun c2 => ?_⟩
    refine ⟨_, rfl, _, rfl, _, rfl, c2, (i : Int), n, _, (by rw [Int.zero_add]; rfl), n6, fun H2 p r e hp hp2 hr2 => ?_⟩
    obtain ⟨acc, h1, h2, h3⟩ := built_step hD hB e hp hp2
    refine ⟨acc, h1, ?_, ws ++ [r], ?_, ?_, ?_⟩
    · rw [h2, List.length_map, hl]
      exact small1000 (by omega)
    · rw [List.map_append]; exact h3
    · rw [List.length_append, hl]; rfl
    · intro g r' h
      rw [List.getElem?_append] at h
      by_cases c : g < ws.length
      · rw [if_pos c] at h
        exact hG g r' h
      · rw [if_neg c] at h
        have i0 : g - ws.length = 0 := by
          have := (List.getElem?_eq_some_iff.mp h).1
          simp at this
          omega
        rw [i0] at h
        cases h
        have : g = i := by omega
        rw [this]
        exact hr2
  · rintro H1 ⟨ws, hB, hl, hG⟩
    have hln : ws.length = n := by omega
    exact q H1 D ws hB.1 hD hB.tab.t ⟨by omega, by omega, fun g r h => by rw [hln]; exact hG g r h⟩ hln
end
end B2

namespace B2
open PySem L2
section
variable {P : Program} {w : World} {K : PySem.W.Frag} {mg : Str → Option Value} {base : Heap}

/-! ### _law_suits -/
theorem sc_lsuits : FnScope ["_law_wishes", "_law_one", "_law_other"] ["_law_wishes", "_law_one", "_law_other"] (defScope s_lsuits) := ⟨rfl, rfl, rfl, by decide +kernel, rfl, by decide +kernel, by decide +kernel⟩
theorem ok_lsuits {f : Addr} {fd : FuncData} (F : Fun K "_law_suits" "_law_suits" s_lsuits f fd) : FnOk P w K mg base CX0 1 f fd ["_law_wishes", "_law_one", "_law_other"] (sp_in_both K) := by
  refine F.ok sc_lsuits (fun vs H Q E h => ?_) (fun cdv A outer s H vs Q E hr h => ?_)
  · obtain ⟨a, ws, i, j, rfl, _⟩ := h
    rfl
  obtain ⟨a, ws, i, j, rfl, hT, i0, i1, j0, j1, q⟩ := h
  refine ⟨_, pss_one (ps_ret (pe_and (pe_cmpR op_in_seq (pv 2) (pe_ix ix_list (pv 0) (pv 1) (fun _ _ => rfl)) (by rfl))
    (pe_one (pe_cmpR op_in_seq (pv 1) (pe_ix ix_list (pv 0) (pv 2) (fun _ _ => rfl)) (by rfl))))), ?_⟩
  obtain ⟨as, h1, h2, h3⟩ := hT.at
  obtain ⟨bi, hbi, hsi⟩ := h3 i i0 i1
  obtain ⟨bj, hbj, hsj⟩ := h3 j j0 j1
  refine ⟨_, rfl, _, rfl, _, rfl, a, _, _, _, rfl, rfl, h1, hbi, bi, _, rfl, .inl hsi, rfl, flat_ints _, _, rfl, ?_⟩
  show if inV (.int j) ((rowOf ws i).map V.int) = true then _ else _
  rw [inV_int]
  refine ite2 (fun c => ?_) (fun c => ?_)
  · refine ⟨_, rfl, _, rfl, _, rfl, a, _, _, _, rfl, rfl, h1, hbj, bj, _, rfl, .inl hsj, rfl, flat_ints _, ?_⟩
    show Q (.bl (inV (.int i) ((rowOf ws j).map V.int))) H
    rw [inV_int]
    have e : suitsB ws i j = decide (i ∈ rowOf ws j) := by unfold suitsB; rw [c, Bool.true_and]
    rw [← e]; exact q
  · have e : suitsB ws i j = false := by unfold suitsB; rw [Bool.eq_false_iff.mpr c, Bool.false_and]
    rw [e] at q; exact q

/-! ### _law_rather -/
theorem sc_lrather : FnScope ["_law_wishes", "_law_guest", "_law_one", "_law_other", "_law_thing"] ["_law_wishes", "_law_guest", "_law_one", "_law_other"] (defScope s_lrather) := ⟨rfl, rfl, rfl, by decide +kernel, rfl, by decide +kernel, by decide +kernel⟩
def sp_lrather (K : PySem.W.Frag) : Sp := fun vs H Q _ => ∃ (a : Addr) (ws : List (List Int)) (g : Int) (x y : Option Int), vs = [.ref a, .int g, ov x, ov y] ∧ Tab K H a ws ∧ Good ws ∧
  0 ≤ g ∧ g < (ws.length : Int) ∧ OkO ws.length x ∧ Q (.bl (aheadB ws g x y)) H
theorem ok_lrather {f : Addr} {fd : FuncData} (F : Fun K "_law_rather" "_law_rather" s_lrather f fd) (C1 : Cal P w K mg base 1 "_law_suits" ["_law_wishes", "_law_one", "_law_other"] (sp_in_both K)) :
    FnOk P w K mg base CX0 2 f fd ["_law_wishes", "_law_guest", "_law_one", "_law_other"] (sp_lrather K) := by
  obtain ⟨g1, gd1, G1, m1, k1, b1⟩ := C1
  refine F.ok sc_lrather (fun vs H Q E h => ?_) (fun cdv A outer s H vs Q E hr h => ?_)
  · obtain ⟨a, ws, g, x, y, rfl, _⟩ := h
    rfl
  obtain ⟨a, ws, g, x, y, rfl, hT, hG, g0, g1', hx, q⟩ := h
  refine ⟨_, pss_cons (ps_if (PW.pt (pw_or (pt_cmpR op_isN (pv 2) pe_non (nomark _))
      (pw_or1 (pt_not (pt_val (pe_call G1 hr (by rfl) m1 k1 b1 .nil pass0 (pa_cons (pv 0) (pa_cons (pv 1) (pa_cons (pv 2) pa_nil)))))))))
      (pss_one (ps_ret pe_bl)) pss_nil)
    (pss_cons (ps_for PassesOwn.never rfl (pi_list (pe_ix ix_list (pv 0) (pv 1) (fun _ _ => rfl))) (pg_name (i := 4) sc_lrather.nd rfl (Or.inl rfl))
      (pss_cons (ps_if (PW.pt (pw_and (pt_cmpR op_eq (pv 4) (pv 3) (nomark _)) (pw_and1 (pt_val (pe_call G1 hr (by rfl) m1 k1 b1 .nil pass0 (pa_cons (pv 0) (pa_cons (pv 1) (pa_cons (pv 3) pa_nil))))))))
        (pss_one (ps_ret pe_bl)) pss_nil)
      (pss_one (ps_if (pt_cmpR op_eq (pv 4) (pv 2) (nomark _)) (pss_one (ps_ret pe_bl)) pss_nil))))
    (pss_one (ps_ret pe_bl))), ?_⟩
  rw [← rather_is] at q
  refine ⟨_, rfl, rfl, _, rfl, ?_⟩
  cases x with
  | none => exact iteT q
  | some x =>
  refine iteF ?_
  refine ⟨_, rfl, _, rfl, _, rfl, a, ws, g, x, rfl, hT, g0, g1', hx.1, hx.2, _, rfl, ?_⟩
  have e0 : ratherB ws g (some x) y = if suitsB ws g x = true then scanB (suitsB ws g) x y (rowOf ws g) else false := rfl
  rw [e0] at q
  cases e1 : suitsB ws g x with
  | false =>
    rw [e1] at q
    exact iteT q
  | true =>
  rw [e1, if_pos rfl] at q
  refine iteF ?_
  obtain ⟨as, h1, h2, h3⟩ := hT.at
  obtain ⟨b, hb, hs⟩ := h3 g g0 g1'
  refine ⟨_, rfl, _, rfl, a, _, _, _, rfl, rfl, h1, hb, b, rfl, ⟨_, hs⟩, ?_⟩
  refine for_list (K := K) (a := b) (xs := (rowOf ws g).map V.int) (fun i σ H' => H' = H ∧ (∃ z, σ = [some (.ref a), some (.int g), some (.int x), some (ov y), z]) ∧
      scanB (suitsB ws g) x y (rowOf ws g) = scanB (suitsB ws g) x y ((rowOf ws g).drop i))
    ⟨rfl, ⟨none, rfl⟩, by rw [List.drop_zero]⟩ (fun i σ H' _ h => by rw [h.1]; exact hs) ?_ ?_
  · rintro i u σ H' hu ⟨rfl, ⟨z, rfl⟩, es⟩
    obtain ⟨t, ht, rfl⟩ := map_int_get hu
    obtain ⟨hi, et⟩ := List.getElem?_eq_some_iff.mp ht
    have hm : t ∈ rowOf ws g := List.mem_of_getElem? ht
    obtain ⟨t0, t1, t2⟩ := (rowOf_good hG g0 g1').rg t hm
    have ed : (rowOf ws g).drop i = t :: (rowOf ws g).drop (i + 1) := by rw [← et]; exact List.drop_eq_getElem_cons hi
    rw [ed] at es
    refine ⟨_, rfl, _, rfl, (by cases y <;> rfl), _, rfl, ?_⟩
    have e2 : decide (V.int t = ov y) = decide (some t = y) := ov_dec (some t) y
    rw [e2]
    refine ite2 (fun c => ?_) (fun c => ?_)
    · have c' : some t = y := of_decide_eq_true c
      subst c'
      refine ⟨_, rfl, _, rfl, _, rfl, a, ws, g, t, rfl, hT, g0, g1', t0, t1, _, rfl, ?_⟩
      cases e3 : suitsB ws g t with
      | true =>
        have e4 : scanB (suitsB ws g) x (some t) (t :: (rowOf ws g).drop (i + 1)) = false := by
          unfold scanB
          rw [if_pos (by rw [e3]; simp)]
        rw [es, e4] at q
        exact iteT q
      | false =>
        refine iteF ?_
        have e4 : scanB (suitsB ws g) x (some t) (t :: (rowOf ws g).drop (i + 1)) = if t = x then true else scanB (suitsB ws g) x (some t) ((rowOf ws g).drop (i + 1)) := by
          rw [scanB, if_neg (by rw [e3]; simp)]
        rw [e4] at es
        refine ⟨_, rfl, _, rfl, rfl, _, rfl, ?_⟩
        have e5 : decide (V.int t = V.int x) = decide (t = x) := by
          by_cases h : t = x
          · rw [h]; simp
          · rw [decide_eq_false h, decide_eq_false (fun z => h (by cases z; rfl))]
        rw [e5]
        refine ite2 (fun c => ?_) (fun c => ?_)
        · rw [if_pos (of_decide_eq_true c)] at es
          rw [es] at q
          exact q
        · rw [if_neg (of_decide_eq_false (Bool.eq_false_iff.mpr c))] at es
          exact ⟨rfl, ⟨_, rfl⟩, es⟩
    · have c' : ¬ some t = y := of_decide_eq_false (Bool.eq_false_iff.mpr c)
      have e4 : scanB (suitsB ws g) x y (t :: (rowOf ws g).drop (i + 1)) = if t = x then true else scanB (suitsB ws g) x y ((rowOf ws g).drop (i + 1)) := by
        rw [scanB, if_neg (by rw [decide_eq_false c']; simp)]
      rw [e4] at es
      refine ⟨_, rfl, _, rfl, rfl, _, rfl, ?_⟩
      have e5 : decide (V.int t = V.int x) = decide (t = x) := by
        by_cases h : t = x
        · rw [h]; simp
        · rw [decide_eq_false h, decide_eq_false (fun z => h (by cases z; rfl))]
      rw [e5]
      refine ite2 (fun c => ?_) (fun c => ?_)
      · rw [if_pos (of_decide_eq_true c)] at es
        rw [es] at q
        exact q
      · rw [if_neg (of_decide_eq_false (Bool.eq_false_iff.mpr c))] at es
        exact ⟨rfl, ⟨_, rfl⟩, es⟩
  · rintro σ H' ⟨rfl, ⟨z, rfl⟩, es⟩
    rw [es, List.drop_eq_nil_of_le (by rw [List.length_map]; exact Nat.le_refl _)] at q
    exact q
end
end B2

namespace B2
open PySem L2
section
variable {P : Program} {w : World} {K : PySem.W.Frag} {mg : Str → Option Value} {base : Heap}

/-! ### _law_restless -/
theorem sc_lrestless : FnScope ["_law_wishes", "_law_mates_here", "_law_found", "_law_one", "_law_other"] ["_law_wishes", "_law_mates_here"] (defScope s_lrestless) := ⟨rfl, rfl, rfl, by decide +kernel, rfl, by decide +kernel, by decide +kernel⟩
theorem ok_lrestless {f : Addr} {fd : FuncData} (F : Fun K "_law_restless" "_law_restless" s_lrestless f fd) (T : Own mg) (C1 : Cal P w K mg base 2 "_law_rather" ["_law_wishes", "_law_guest", "_law_one", "_law_other"] (sp_lrather K)) :
    FnOk P w K mg base CX0 3 f fd ["_law_wishes", "_law_mates_here"] (sp_pairs K) := by
  obtain ⟨g1, gd1, G1, m1, k1, b1⟩ := C1
  refine F.ok sc_lrestless (fun vs H Q E h => ?_) (fun cdv A outer s H vs Q E hr h => ?_)
  · obtain ⟨a, b, ws, ms, rfl, _⟩ := h
    rfl
  obtain ⟨a, b, ws, ms, rfl, hT, hG, hM, hO, q⟩ := h
  refine ⟨_, pss_cons (ps_set (i := 2) sc_lrestless.nd rfl (Or.inl rfl) (pe_lst pa_nil))
    (pss_cons (ps_for PassesOwn.never rfl (pi_range1 rfl T.rng (pa_cons (pe_callB call_len_seq (by rfl) T.len PySem.boot_len (pa_cons (pv 0) pa_nil)) pa_nil)) (pg_name (i := 3) sc_lrestless.nd rfl (Or.inl rfl))
      (pss_one (ps_for PassesOwn.never rfl (pi_range2 (by rfl) T.rng (pa_cons (pe_op op_add (pv 3) pe_int) (pa_cons (pe_callB call_len_seq (by rfl) T.len PySem.boot_len (pa_cons (pv 0) pa_nil)) pa_nil))) (pg_name (i := 4) sc_lrestless.nd rfl (Or.inl rfl))
        (pss_one (ps_if (PW.pt (pw_and (pt_val (pe_call G1 hr (by rfl) m1 k1 b1 .nil pass0 (pa_cons (pv 0) (pa_cons (pv 3) (pa_cons (pv 4) (pa_cons (pe_ix ix_list (pv 1) (pv 3) (fun _ _ => rfl)) pa_nil))))))
          (pw_and1 (pt_val (pe_call G1 hr (by rfl) m1 k1 b1 .nil pass0 (pa_cons (pv 0) (pa_cons (pv 4) (pa_cons (pv 3) (pa_cons (pe_ix ix_list (pv 1) (pv 4) (fun _ _ => rfl)) pa_nil)))))))))
          (pss_one (ps_expr (pe_bm PySem.F.plainAttrs_list PySem.F.slot_list_append PySem.F.type_list_append mt_append (pv 2) (pa_cons (pe_tup (pa_cons (pv 3) (pa_cons (pv 4) pa_nil))) pa_nil)))) pss_nil)))))
    (pss_one (ps_ret (pv 2)))), ?_⟩
  obtain ⟨as, h1, h2, h3⟩ := id hT
  have hl : (as.map V.ref).length = ws.length := by rw [List.length_map]; exact h2
  have hi := hG.hi
  have hml := hO.len
  refine ⟨(by show 0 ≤ sizeLine; decide), fun D hD => ?_⟩
  have s0 := same_new hD (.lst [])
  refine ⟨_, rfl, a, _, rfl, .inl (s0.seq h1), (((as.map V.ref).length : Nat) : Int), rfl, by rw [hl]; omega, by rw [hl]; omega, ?_⟩
  refine for_range (lo := 0) (n := (((as.map V.ref).length : Nat) : Int).toNat) (fun i σ H' => BuiltF tupO H D (wildUp ws ms ws.length i) H' ∧ ∃ y z, σ = [some (.ref a), some (.ref b), some (.ref D), y, z])
    ⟨built_start hD, none, none, rfl⟩ ?_ ?_
  · rintro i σ H2 hin ⟨hB, y, z, rfl⟩
    have hin' : i < ws.length := by rw [hl] at hin; omega
    have ei : (0 : Int) + (i : Int) = (i : Int) := Int.zero_add _
    rw [ei]
    refine ⟨_, rfl, _, _, rfl, rfl, _, rfl, a, _, rfl, .inl (hB.1.seq h1), _, _, rfl, ⟨by omega, by omega, by rw [hl]; omega, by rw [hl]; omega⟩, ?_⟩
    rw [hl]
    have en : (((ws.length : Nat) : Int) - ((i : Int) + 1)).toNat = ws.length - (i + 1) := by omega
    refine for_range (lo := (i : Int) + 1) (n := (((ws.length : Nat) : Int) - ((i : Int) + 1)).toNat) (fun t σ H' => BuiltF tupO H D (wildUp ws ms ws.length i ++ wildIn ws ms i t) H' ∧ ∃ z, σ = [some (.ref a), some (.ref b), some (.ref D), some (.int (i : Int)), z])
      ⟨by show BuiltF tupO H D (wildUp ws ms ws.length i ++ []) H2; rw [List.append_nil]; exact hB, _, rfl⟩ ?_ ?_
    · rintro t σ H4 hlt ⟨hB2, z, rfl⟩
      have hT4 := hT.same hB2.1
      have hM4 := hB2.1.seq hM
      refine ⟨_, rfl, _, rfl, _, rfl, _, rfl, _, rfl, b, _, _, _, rfl, rfl, hM4, mt_at (ms := ms) (i := (i : Int)) (by omega) (by omega), ?_⟩
      refine ⟨a, ws, (i : Int), some ((i : Int) + 1 + (t : Int)), mt ms (i : Int), rfl, hT4, hG, by omega, by omega, ⟨by omega, by omega⟩, _, rfl, ?_⟩
      have ew : wildIn ws ms i (t + 1) = wildIn ws ms i t ++ (if wild ws ms (i : Int) ((i : Int) + 1 + (t : Int)) = true then [((i : Int), (i : Int) + 1 + (t : Int))] else []) := rfl
      have eu : wild ws ms (i : Int) ((i : Int) + 1 + (t : Int)) = (aheadB ws (i : Int) (some ((i : Int) + 1 + (t : Int))) (mt ms (i : Int)) && aheadB ws ((i : Int) + 1 + (t : Int)) (some (i : Int)) (mt ms ((i : Int) + 1 + (t : Int)))) := rfl
      rw [ew, eu]
      cases e1 : aheadB ws (i : Int) (some ((i : Int) + 1 + (t : Int))) (mt ms (i : Int)) with
      | false =>
        rw [Bool.false_and]
        refine iteF ⟨?_, _, rfl⟩
        show BuiltF tupO H D (wildUp ws ms ws.length i ++ (wildIn ws ms i t ++ [])) H4
        rw [List.append_nil]
        exact hB2
      | true =>
        rw [Bool.true_and]
        refine iteT ?_
        refine ⟨_, rfl, _, rfl, _, rfl, _, rfl, _, rfl, b, _, _, _, rfl, rfl, hM4, mt_at (ms := ms) (i := (i : Int) + 1 + (t : Int)) (by omega) (by omega), ?_⟩
        refine ⟨a, ws, (i : Int) + 1 + (t : Int), some (i : Int), mt ms ((i : Int) + 1 + (t : Int)), rfl, hT4, hG, by omega, by omega, ⟨by omega, by omega⟩, _, rfl, ?_⟩
        cases e2 : aheadB ws ((i : Int) + 1 + (t : Int)) (some (i : Int)) (mt ms ((i : Int) + 1 + (t : Int))) with
        | false =>
          refine iteF ⟨?_, _, rfl⟩
          show BuiltF tupO H D (wildUp ws ms ws.length i ++ (wildIn ws ms i t ++ [])) H4
          rw [List.append_nil]
          exact hB2
        | true =>
          refine iteT ?_
          obtain ⟨as2, y1, y2, y3⟩ := id hB2.2
          refine ⟨_, rfl, .inl ⟨rfl, _, SqL.of y1⟩, _, rfl, _, rfl, (by show 2 ≤ sizeLine; decide), fun p hp => ?_⟩
          obtain ⟨acc, z1, z2, z3⟩ := built_step (r := ((i : Int), (i : Int) + 1 + (t : Int))) hD hB2 (same_new hp _) hp upd_same
          refine ⟨D, _, _, rfl, rfl, z1, ?_, ?_, _, rfl⟩
          · have l1 := wildUp_le ws ms ws.length i
            have l2 := wildIn_le ws ms i t
            have l3 : i * ws.length ≤ 6 * 6 := Nat.mul_le_mul (by omega) (by omega)
            rw [z2, List.length_append]
            exact small1000 (by omega)
          · show BuiltF tupO H D (wildUp ws ms ws.length i ++ (wildIn ws ms i t ++ [((i : Int), (i : Int) + 1 + (t : Int))])) _
            rw [← List.append_assoc]
            exact z3
    · rintro σ H' ⟨h, z, rfl⟩
      rw [en] at h
      exact ⟨h, _, _, rfl⟩
  · rintro σ H' ⟨h, y, z, rfl⟩
    have e : (((as.map V.ref).length : Nat) : Int).toNat = ws.length := by rw [hl]; omega
    rw [e] at h
    exact ⟨_, rfl, q H' D hD h⟩
end
end B2

namespace B2
open PySem L2
section
variable {P : Program} {w : World} {K : PySem.W.Frag} {mg : Str → Option Value} {base : Heap}

/-! ### _law_whole -/
theorem sc_whole : FnScope ["_law_found"] ["_law_found"] (defScope s_whole) := ⟨rfl, rfl, rfl, by decide +kernel, rfl, by decide +kernel, by decide +kernel⟩
def sp_whole : Sp := fun vs H Q _ => ∃ (i : Int), vs = [.int i] ∧ Q (.bl true) H
theorem ok_whole {f : Addr} {fd : FuncData} (F : Fun K "_law_whole" "_law_whole" s_whole f fd) (T : Own mg) : FnOk P w K mg base CX0 1 f fd ["_law_found"] sp_whole := by
  refine F.ok sc_whole (fun vs H Q E h => ?_) (fun cdv A outer s H vs Q E hr h => ?_)
  · obtain ⟨i, rfl, _⟩ := h
    rfl
  obtain ⟨i, rfl, q⟩ := h
  refine ⟨_, pss_one (ps_ret (pe_and (pe_callB call_isi (by rfl) T.isI (by decide +kernel) (pa_cons (pv 0) (pa_cons (pe_bltn (v := .ty "int") (by rfl) T.int (by decide +kernel) rfl) pa_nil)))
      (pe_one (pe_not (pe_callB call_isi (by rfl) T.isI (by decide +kernel) (pa_cons (pv 0) (pa_cons (pe_bltn (v := .ty "bool") (by rfl) T.bool (by decide +kernel) rfl) pa_nil))))))), ?_⟩
  exact ⟨_, rfl, _, _, _, _, _, rfl, .ty _, .base (.int i), kit_ii, _, rfl, _, rfl, _, _, _, _, _, rfl, .ty _, .base (.int i), kit_ib, _, rfl, q⟩

end
end B2

namespace B2
open PySem L2
section
variable {P : Program} {w : World} {K : PySem.W.Frag} {mg : Str → Option Value} {base : Heap}

/-! ### _law_mates -/
theorem sc_lmates : FnScope ["_law_wishes", "_law_mates_here", "_law_guest", "_law_mate"] ["_law_wishes", "_law_mates_here"] (defScope s_lmates) := ⟨rfl, rfl, rfl, by decide +kernel, rfl, by decide +kernel, by decide +kernel⟩
def sp_lmates (K : PySem.W.Frag) : Sp := fun vs H Q _ => ∃ (a b : Addr) (ws : List (List Int)) (ms : List (Option Int)), vs = [.ref a, .ref b] ∧ Tab K H a ws ∧ ws.length ≤ 6 ∧ SqL K H b (ms.map ov) ∧ OkMates ws ms ∧ Q (.bl true) H
theorem ok_lmates {f : Addr} {fd : FuncData} (F : Fun K "_law_mates" "_law_mates" s_lmates f fd) (T : Own mg) (C1 : Cal P w K mg base 1 "_law_whole" ["_law_found"] sp_whole)
    (C2 : Cal P w K mg base 1 "_law_suits" ["_law_wishes", "_law_one", "_law_other"] (sp_in_both K)) : FnOk P w K mg base CX0 2 f fd ["_law_wishes", "_law_mates_here"] (sp_lmates K) := by
  obtain ⟨g1, gd1, G1, m1, k1, b1⟩ := C1
  obtain ⟨g2, gd2, G2, m2, k2, b2⟩ := C2
  refine F.ok sc_lmates (fun vs H Q E h => ?_) (fun cdv A outer s H vs Q E hr h => ?_)
  · obtain ⟨a, b, ws, ms, rfl, _⟩ := h
    rfl
  obtain ⟨a, b, ws, ms, rfl, hT, h6, hM, hO, q⟩ := h
  refine ⟨_, pss_cons (ps_if (PW.pt (pw_or (pt_not (pt_val (pe_callB call_isi (by rfl) T.isI (by decide +kernel) (pa_cons (pv 1) (pa_cons (pe_bltn (v := .ty "list") (by rfl) T.list (by decide +kernel) rfl) pa_nil)))))
        (pw_or1 (pt_cmpR op_ne (pe_callB call_len_seq (by rfl) T.len PySem.boot_len (pa_cons (pv 1) pa_nil)) (pe_callB call_len_seq (by rfl) T.len PySem.boot_len (pa_cons (pv 0) pa_nil)) (nomark _))))) (pss_one (ps_ret pe_bl)) pss_nil)
    (pss_cons (ps_for PassesOwn.never rfl (pi_range1 rfl T.rng (pa_cons (pe_callB call_len_seq (by rfl) T.len PySem.boot_len (pa_cons (pv 1) pa_nil)) pa_nil)) (pg_name (i := 2) sc_lmates.nd rfl (Or.inl rfl))
      (pss_cons (ps_set (i := 3) sc_lmates.nd rfl (Or.inl rfl) (pe_ix ix_list (pv 1) (pv 2) (fun _ _ => rfl)))
      (pss_one (ps_if (pt_cmpR op_notN (pv 3) pe_non (nomark _))
        (pss_cons (ps_if (PW.pt (pw_or (pt_not (pt_val (pe_call G1 hr (by rfl) m1 k1 b1 .nil pass0 (pa_cons (pv 3) pa_nil))))
            (pw_or (pt_cmpR op_lt (pv 3) pe_int (nomark _))
            (pw_or (pt_cmpR op_ge (pv 3) (pe_callB call_len_seq (by rfl) T.len PySem.boot_len (pa_cons (pv 1) pa_nil)) (nomark _))
            (pw_or1 (pt_cmpR op_ne (pe_ix ix_list (pv 1) (pv 3) (fun _ _ => rfl)) (pv 2) (nomark _))))))) (pss_one (ps_ret pe_bl)) pss_nil)
        (pss_one (ps_if (pt_not (pt_val (pe_call G2 hr (by rfl) m2 k2 b2 .nil pass0 (pa_cons (pv 0) (pa_cons (pv 2) (pa_cons (pv 3) pa_nil)))))) (pss_one (ps_ret pe_bl)) pss_nil))) pss_nil))))
    (pss_one (ps_ret pe_bl))), ?_⟩
  obtain ⟨as, h1, h2, h3⟩ := id hT
  have hl : (as.map V.ref).length = ws.length := by rw [List.length_map]; exact h2
  have hml := hO.len
  have hml2 : (ms.map ov).length = ws.length := by rw [List.length_map]; exact hO.len
  refine ⟨_, rfl, _, _, _, _, _, rfl, .ty _, ty_list hM, kit_ll, _, rfl, iteF ?_⟩
  refine ⟨_, rfl, b, _, rfl, .inl hM, _, rfl, a, _, rfl, .inl h1, rfl, _, rfl, ?_⟩
  rw [decide_eq_true (show V.int ((ms.map ov).length : Nat) = V.int ((as.map V.ref).length : Nat) by rw [hml2, hl])]
  refine iteF ?_
  refine ⟨_, rfl, b, _, rfl, .inl hM, (((ms.map ov).length : Nat) : Int), rfl, by rw [hml2]; omega, by rw [hml2]; omega, ?_⟩
  refine for_range (lo := 0) (n := (((ms.map ov).length : Nat) : Int).toNat) (fun i σ H' => H' = H ∧ ∃ y z, σ = [some (.ref a), some (.ref b), y, z])
    ⟨rfl, none, none, rfl⟩ ?_ ?_
  · rintro i σ H' hin ⟨rfl, y, z, rfl⟩
    have hin' : i < ws.length := by rw [hml2] at hin; omega
    have ei : (0 : Int) + (i : Int) = (i : Int) := Int.zero_add _
    rw [ei]
    refine ⟨_, rfl, _, rfl, b, _, _, _, rfl, rfl, hM, mt_at (ms := ms) (i := (i : Int)) (by omega) (by omega), ?_⟩
    refine ⟨_, rfl, rfl, _, rfl, ?_⟩
    rw [ov_non]
    cases e1 : mt ms (i : Int) with
    | none => exact iteF ⟨rfl, _, _, rfl⟩
    | some m =>
    obtain ⟨p0, p1, p2, p3⟩ := hO.pr (i : Int) m (by omega) (by omega) e1
    refine iteT ?_
    refine ⟨_, rfl, m, rfl, _, rfl, iteF ?_⟩
    refine ⟨_, rfl, _, _, rfl, rfl, _, rfl, ?_⟩
    rw [decide_eq_false (show ¬ m < 0 by omega)]
    refine iteF ?_
    refine ⟨_, rfl, _, rfl, b, _, rfl, .inl hM, _, _, rfl, rfl, _, rfl, ?_⟩
    rw [decide_eq_false (show ¬ m ≥ (((ms.map ov).length : Nat) : Int) by rw [hml2]; omega)]
    refine iteF ?_
    refine ⟨_, rfl, _, rfl, b, _, _, _, rfl, rfl, hM, mt_at (ms := ms) p0 (by omega), ?_⟩
    rw [p2]
    refine ⟨_, rfl, rfl, _, rfl, ?_⟩
    rw [decide_eq_true (show ov (some (i : Int)) = V.int (i : Int) from rfl)]
    refine iteF ?_
    refine ⟨_, rfl, _, rfl, _, rfl, a, ws, (i : Int), m, rfl, hT, by omega, by omega, p0, p1, _, rfl, ?_⟩
    rw [p3]
    exact iteF ⟨rfl, _, _, rfl⟩
  · rintro σ H' ⟨rfl, y, z, rfl⟩
    exact q
end
end B2

namespace B2
open PySem L2

theorem count_any (ws : List (List Int)) (l : List Int) : ∀ k, l.length ≤ k → countL ws k l = countL ws l.length l
  | 0, h => by
    have : l.length = 0 := Nat.le_zero.mp h
    rw [this]
  | k + 1, h => by
    by_cases c : l.length ≤ k
    · rw [count_fuel ws k l c, count_any ws l k c]
    · have : l.length = k + 1 := by omega
      rw [this]

section
variable {P : Program} {w : World} {K : PySem.W.Frag} {mg : Str → Option Value} {base : Heap}

/-! ### _law_count -/
theorem cut_tail (x : V) (r : List V) : cutV (x :: r) (some 1) none = r := by
  unfold cutV
  have e0 : HT.sIx (x :: r).length 0 (some 1) = 1 := by
    show (if (1 : Int) < 0 then ((1 : Int) + ((x :: r).length : Int)).toNat else min (1 : Int).toNat (x :: r).length) = 1
    rw [if_neg (by decide), List.length_cons]
    show min 1 (r.length + 1) = 1
    omega
  have e1 : HT.sIx (x :: r).length (x :: r).length none = (x :: r).length := rfl
  rw [e0, e1, List.drop_succ_cons, List.drop_zero, List.length_cons]
  show r.take (r.length + 1 - 1) = r
  rw [Nat.add_sub_cancel, List.take_length]

theorem cut_ints (x : Int) (r : List Int) : cutV ((x :: r).map V.int) (some 1) none = r.map V.int := cut_tail _ _

theorem sc_count : FnScope ["_law_wishes", "_law_left", "_law_count_here", "_law_mate", "_law_one"] ["_law_wishes", "_law_left"] (defScope s_count) := ⟨rfl, rfl, rfl, by decide +kernel, rfl, by decide +kernel, by decide +kernel⟩
def sp_count (K : PySem.W.Frag) (n : Nat) : Sp := fun vs H Q _ => ∃ (a b : Addr) (ws : List (List Int)) (left : List Int), vs = [.ref a, .ref b] ∧ Tab K H a ws ∧ SqL K H b (left.map V.int) ∧ left.length + 1 ≤ n ∧ left.length ≤ 6 ∧
  (∀ x ∈ left, 0 ≤ x ∧ x < (ws.length : Int)) ∧ ∀ H', Same H H' → Q (.int (countL ws left.length left)) H'
theorem ok_count1 {n : Nat} {f g : Addr} {fd gd : FuncData} (F : Fun K "_law_count" "_law_count" s_count f fd) (T : Own mg) (G : FnOk P w K mg base CX0 (n + 1) g gd ["_law_wishes", "_law_left"] (sp_count K n)) (bG : Binds K gd ["_law_wishes", "_law_left"] [])
    (kG : PySem.W.keepIn K (.ref g) = true) (mG : mg "_law_count" = some (.ref g)) (C1 : Cal P w K mg base 1 "_law_suits" ["_law_wishes", "_law_one", "_law_other"] (sp_in_both K)) :
    FnOk P w K mg base CX0 (n + 2) f fd ["_law_wishes", "_law_left"] (sp_count K (n + 1)) := by
  obtain ⟨g1, gd1, G1, m1, k1, b1⟩ := C1
  refine F.ok sc_count (fun vs H Q E h => ?_) (fun cdv A outer s H vs Q E hr h => ?_)
  · obtain ⟨a, b, ws, left, rfl, _⟩ := h
    rfl
  obtain ⟨a, b, ws, left, rfl, hT, hL, hn, h6, hx, q⟩ := h
  have hr1 : Room 1 _ := hr.mono (by omega)
  refine ⟨_, pss_cons (ps_if (pt_cmpR op_eq (pe_callB call_len_seq (by rfl) T.len PySem.boot_len (pa_cons (pv 1) pa_nil)) pe_int (nomark _)) (pss_one (ps_ret pe_int)) pss_nil)
    (pss_cons (ps_set (i := 2) sc_count.nd rfl (Or.inl rfl) (pe_call G hr (by rfl) mG kG bG .nil pass0 (pa_cons (pv 0) (pa_cons (pe_slice sl_list (pv 1) (po_some pe_int) po_none) pa_nil))))
    (pss_cons (ps_for PassesOwn.never rfl (pi_list (pe_slice sl_list (pv 1) (po_some pe_int) po_none)) (pg_name (i := 3) sc_count.nd rfl (Or.inr rfl))
      (pss_one (ps_if (pt_val (pe_call G1 hr1 (by rfl) m1 k1 b1 .nil pass0 (pa_cons (pv 0) (pa_cons (pe_ix ix_list (pv 1) pe_int (fun _ _ => rfl)) (pa_cons (pv 3) pa_nil)))))
        (pss_one (ps_set (i := 2) sc_count.nd rfl (Or.inl rfl) (pe_op op_add (pv 2) (pe_call G hr (by rfl) mG kG bG .nil pass0 (pa_cons (pv 0) (pa_cons
          (pe_lc (own := [("_law_one", 4)]) (g := gName 4) rfl sc_count.nd (pi_list (pe_slice sl_list (pv 1) (po_some pe_int) po_none))
            (blkOk_by (N := ["_law_wishes", "_law_left", "_law_count_here", "_law_mate", "_law_one"]) (sc := defScope s_count) (by decide +kernel))
            (fun _ _ _ _ _ => pg_name (i := 4) sc_count.nd rfl (Or.inl rfl)) (fun _ _ _ _ _ => pts_one (pt_cmpR op_ne (pv 4) (pv 3) (nomark _))) (fun _ _ _ _ _ => pv 4)) pa_nil)))))) pss_nil)))
    (pss_one (ps_ret (pv 2))))), ?_⟩
  refine ⟨_, rfl, b, _, rfl, .inl hL, rfl, _, rfl, ?_⟩
  cases left with
  | nil => exact iteT (q H (Same.refl H))
  | cons x r =>
  have e0 : decide (V.int (((x :: r).map V.int).length : Nat) = V.int 0) = false := decide_eq_false (fun z => by
    injection z with z
    rw [List.length_map, List.length_cons] at z
    omega)
  rw [e0]
  refine iteF ?_
  rw [List.length_cons] at hn h6
  have hxr : ∀ y ∈ r, 0 ≤ y ∧ y < (ws.length : Int) := fun y hy => hx y (List.mem_cons_of_mem _ hy)
  have hx0 := hx x (List.mem_cons_self ..)
  refine ⟨_, rfl, _, rfl, _, rfl, b, _, rfl, hL, fun p hp => ?_⟩
  rw [cut_ints]
  have s1 := same_new hp (.lst (r.map V.int))
  refine ⟨a, p, ws, r, rfl, hT.same s1, SqL.of upd_same, by omega, by omega, hxr, fun H1 s2 => ?_⟩
  have s12 := s1.trans s2
  refine ⟨_, rfl, _, rfl, b, _, rfl, s12.seq hL, fun p2 hp2 => ?_⟩
  rw [cut_ints]
  have s3 := s12.trans (same_new hp2 (.lst (r.map V.int)))
  have hp20 : H p2 = none := s12.free hp2
  refine ⟨p2, rfl, ⟨_, SqL.of upd_same⟩, ?_⟩
  refine for_list (K := K) (a := p2) (xs := r.map V.int) (fun i σ H' => Same H H' ∧ H' p2 = some (.lst (r.map V.int)) ∧ ∃ (z : Option V) (c : Int), σ = [some (.ref a), some (.ref b), some (.int c), z, none] ∧
      c = countL ws r.length r + sumL (fun m => if suitsB ws x m = true then countL ws r.length (r.filter fun y => decide (y ≠ m)) else 0) (r.take i))
    ⟨s3, upd_same, none, _, rfl, by rw [List.take_zero]; show _ = _ + 0; omega⟩ (fun i σ H' _ h => SqL.of h.2.1) ?_ ?_
  · rintro i u σ H2 hu ⟨e2, ep2, z, c, rfl, hc⟩
    obtain ⟨m, hm, rfl⟩ := map_int_get hu
    have hmr := List.mem_of_getElem? hm
    have hm0 := hxr m hmr
    have hL2 := e2.seq hL
    refine ⟨_, rfl, _, rfl, b, _, _, _, rfl, rfl, hL2, (atI_nat (j := 0) rfl : atI ((x :: r).map V.int) (0 : Int) = some (V.int x)), _, rfl, ?_⟩
    refine ⟨a, ws, x, m, rfl, hT.same e2, hx0.1, hx0.2, hm0.1, hm0.2, _, rfl, ?_⟩
    rw [take_one hm, sumL_append]
    have e1 : sumL (fun m => if suitsB ws x m = true then countL ws r.length (r.filter fun y => decide (y ≠ m)) else 0) [m] = if suitsB ws x m = true then countL ws r.length (r.filter fun y => decide (y ≠ m)) else 0 := by
      exact Int.add_zero _
    rw [e1]
    cases ec : suitsB ws x m with
    | false =>
      rw [if_neg (by decide)]
      exact iteF ⟨e2, ep2, _, c, rfl, by omega⟩
    | true =>
    rw [if_pos rfl]
    refine iteT ?_
    refine ⟨_, rfl, _, rfl, _, rfl, _, rfl, b, _, rfl, hL2, fun R hR => ?_⟩
    rw [cut_ints]
    refine ⟨R, rfl, ⟨_, SqL.of upd_same⟩, fun L hLL => ?_⟩
    have nRp2 : R ≠ p2 := fun z => by rw [z, ep2] at hR; cases hR
    refine lc_list (K := K) (a := R) (xs := r.map V.int) (fun t H' => H' = upd (upd H2 R (.lst (r.map V.int))) L (.lst (((r.take t).filter fun y => decide (y ≠ m)).map V.int)))
      rfl (fun t H' _ h => by rw [h]; exact (same_new hLL _).seq (SqL.of upd_same)) ?_ ?_
    · rintro t v H5 hv rfl
      obtain ⟨y, hy, rfl⟩ := map_int_get hv
      refine ⟨rfl, _, rfl, _, rfl, rfl, _, rfl, ?_⟩
      have ed : decide (V.int y = V.int m) = decide (y = m) := by
        by_cases h : y = m
        · rw [h]; simp
        · rw [decide_eq_false h, decide_eq_false (fun z => h (by cases z; rfl))]
      rw [ed, take_one hy, List.filter_append]
      by_cases h : y = m
      · rw [decide_eq_true h]
        have e : [y].filter (fun y => decide (y ≠ m)) = [] := by rw [List.filter_cons, if_neg (by simp [h])]; rfl
        rw [e, List.append_nil]
        rfl
      · rw [decide_eq_false h]
        have e : [y].filter (fun y => decide (y ≠ m)) = [y] := by rw [List.filter_cons, if_pos (by simp [h])]; rfl
        rw [e]
        refine ⟨_, rfl, _, upd_same, ?_, ?_⟩
        · rw [List.length_map]
          refine small1000 (Nat.le_trans (List.length_filter_le _ _) ?_)
          rw [List.length_take]
          omega
        · rw [upd_upd, List.map_append]
          rfl
    · rintro H5 rfl
      rw [List.take_of_length_le (by rw [List.length_map]; exact Nat.le_refl _)]
      have hfl := List.length_filter_le (fun y => decide (y ≠ m)) r
      have s5 := e2.trans ((same_new hR (.lst (r.map V.int))).trans (same_new hLL (.lst ((r.filter fun y => decide (y ≠ m)).map V.int))))
      have ep5 : (upd (upd H2 R (.lst (r.map V.int))) L (.lst ((r.filter fun y => decide (y ≠ m)).map V.int))) p2 = some (.lst (r.map V.int)) :=
        ((same_new hR (.lst (r.map V.int))).trans (same_new hLL (.lst ((r.filter fun y => decide (y ≠ m)).map V.int)))) _ _ ep2
      refine ⟨a, L, ws, r.filter fun y => decide (y ≠ m), rfl, hT.same s5, SqL.of upd_same, by omega, by omega, fun y hy => hxr y (List.mem_filter.mp hy).1, fun H6 s6 => ?_⟩
      refine ⟨_, _, rfl, rfl, s5.trans s6, s6 _ _ ep5, _, _, rfl, ?_⟩
      rw [← count_any ws _ r.length hfl, hc]
      omega
  · rintro σ H2 ⟨e2, ep2, z, c, rfl, hc⟩
    rw [List.take_of_length_le (by rw [List.length_map]; exact Nat.le_refl _)] at hc
    refine ⟨_, rfl, ?_⟩
    rw [hc]
    exact q H2 e2
theorem no_count {f : Addr} {fd : FuncData} : FnOk P w K mg base CX0 1 f fd ["_law_wishes", "_law_left"] (sp_count K 0) := by
  have no : ∀ vs H Q E, ¬ sp_count K 0 vs H Q E := fun vs H Q E h => by
    obtain ⟨a, b, ws, left, _, _, _, hn, _⟩ := h
    omega
  exact ⟨fun vs H Q E h => absurd h (no vs H Q E), fun A outer s H args us vs Q E _ _ _ _ h => absurd h (no vs H Q E)⟩
theorem ok_countN {f : Addr} {fd : FuncData} (F : Fun K "_law_count" "_law_count" s_count f fd) (T : Own mg) (mG : mg "_law_count" = some (.ref f)) (bG : Binds K fd ["_law_wishes", "_law_left"] [])
    (C1 : Cal P w K mg base 1 "_law_suits" ["_law_wishes", "_law_one", "_law_other"] (sp_in_both K)) : ∀ n, FnOk P w K mg base CX0 (n + 1) f fd ["_law_wishes", "_law_left"] (sp_count K n)
  | 0 => no_count
  | n + 1 => ok_count1 F T (ok_countN F T mG bG C1 n) bG F.kp mG C1
theorem ok_count {f : Addr} {fd : FuncData} (F : Fun K "_law_count" "_law_count" s_count f fd) (T : Own mg) (mG : mg "_law_count" = some (.ref f)) (bG : Binds K fd ["_law_wishes", "_law_left"] [])
    (C1 : Cal P w K mg base 1 "_law_suits" ["_law_wishes", "_law_one", "_law_other"] (sp_in_both K)) : FnOk P w K mg base CX0 8 f fd ["_law_wishes", "_law_left"] (sp_count K 7) :=
  ok_countN F T mG bG C1 7

/-! ### _law_key -/
theorem sc_key : FnScope ["_law_mates_here", "_law_key_here", "_law_mate"] ["_law_mates_here"] (defScope s_key) := ⟨rfl, rfl, rfl, by decide +kernel, rfl, by decide +kernel, by decide +kernel⟩
def sp_key (K : PySem.W.Frag) : Sp := fun vs H Q _ => ∃ (b : Addr) (ms : List (Option Int)), vs = [.ref b] ∧ SqL K H b (ms.map ov) ∧ ms.length ≤ 6 ∧
  ∀ (H' : Hp) (p : Addr), Same H H' → H p = none → H' p = some (.lst ((keyL ms).map V.int)) → Q (.ref p) H'
theorem ok_key {f : Addr} {fd : FuncData} (F : Fun K "_law_key" "_law_key" s_key f fd) : FnOk P w K mg base CX0 1 f fd ["_law_mates_here"] (sp_key K) := by
  refine F.ok sc_key (fun vs H Q E h => ?_) (fun cdv A outer s H vs Q E hr h => ?_)
  · obtain ⟨b, ms, rfl, _⟩ := h
    rfl
  obtain ⟨b, ms, rfl, hM, h6, q⟩ := h
  refine ⟨_, pss_cons (ps_set (i := 1) sc_key.nd rfl (Or.inl rfl) (pe_lst pa_nil))
    (pss_cons (ps_for PassesOwn.never rfl (pi_list (pv 0)) (pg_name (i := 2) sc_key.nd rfl (Or.inl rfl))
      (pss_one (ps_expr (pe_bm PySem.F.plainAttrs_list PySem.F.slot_list_append PySem.F.type_list_append mt_append (pv 1)
        (pa_cons (pe_ifExp (pt_cmpR op_isN (pv 2) pe_non (nomark _)) (pe_un un_neg pe_int) (pv 2)) pa_nil)))))
    (pss_one (ps_ret (pv 1)))), ?_⟩
  refine ⟨(by show 0 ≤ sizeLine; decide), fun D hD => ?_⟩
  refine ⟨_, rfl, b, rfl, ⟨_, (same_new hD _).seq hM⟩, ?_⟩
  refine for_list (K := K) (a := b) (xs := ms.map ov) (fun i σ H' => H' = upd H D (.lst (((keyL ms).take i).map V.int)) ∧ ∃ z, σ = [some (.ref b), some (.ref D), z])
    ⟨by rw [List.take_zero]; rfl, none, rfl⟩ (fun i σ H' _ h => by rw [h.1]; exact (same_new hD _).seq hM) ?_ ?_
  · rintro i u σ H' hu ⟨rfl, z, rfl⟩
    have hi : i < ms.length := by
      have := (List.getElem?_eq_some_iff.mp hu).1
      rw [List.length_map] at this
      exact this
    have hg : ms[i]? = some ms[i] := List.getElem?_eq_getElem hi
    rw [List.getElem?_map, hg] at hu
    cases hu
    have hk : (keyL ms)[i]? = some (keyO ms[i]) := by unfold keyL; rw [List.getElem?_map, hg]; rfl
    have fin : ∀ k : Int, k = keyO ms[i] → upd (upd H D (.lst (((keyL ms).take i).map V.int))) D (.lst (((keyL ms).take i).map V.int ++ [V.int k])) = upd H D (.lst (((keyL ms).take (i + 1)).map V.int)) := fun k e => by
      rw [upd_upd, take_one hk, List.map_append, e]
      rfl
    have hsm : (((keyL ms).take i).map V.int).length < sizeLine := by
      rw [List.length_map, List.length_take]
      exact small1000 (by omega)
    refine ⟨_, rfl, .inl ⟨rfl, _, SqL.of upd_same⟩, _, rfl, rfl, _, rfl, ?_⟩
    rw [ov_non]
    cases e1 : ms[i] with
    | none =>
      refine iteT ?_
      refine ⟨1, rfl, D, _, _, rfl, rfl, upd_same, hsm, ?_, _, rfl⟩
      exact fin (-1) (by rw [e1]; rfl)
    | some k =>
      refine iteF ?_
      refine ⟨_, rfl, D, _, _, rfl, rfl, upd_same, hsm, ?_, _, rfl⟩
      exact fin k (by rw [e1]; rfl)
  · rintro σ H' ⟨rfl, z, rfl⟩
    refine ⟨_, rfl, q _ D (same_new hD _) hD ?_⟩
    rw [List.take_of_length_le (by unfold keyL; rw [List.length_map, List.length_map]; exact Nat.le_refl _)]
    exact upd_same
end
end B2

namespace B2
open PySem L2

theorem BuiltF.tabM {K : PySem.W.Frag} {H H' : Hp} {D : Addr} {mss : List (List (Option Int))} (b : BuiltF fm H D mss H') : TabV K H' D (mss.map fun ms => ms.map ov) := by
  obtain ⟨s, as, h1, h2, h3⟩ := b
  refine ⟨as, SqL.of h1, by rw [List.length_map]; exact h2, fun i r hr => ?_⟩
  rw [List.getElem?_map] at hr
  cases e : mss[i]? with
  | none => rw [e] at hr; cases hr
  | some q =>
    rw [e] at hr
    cases hr
    obtain ⟨c, c1, c2, _⟩ := h3 i q e
    exact ⟨c, c1, SqL.of c2⟩
theorem plain_mates (mss : List (List (Option Int))) : ∀ r ∈ (mss.map fun ms => ms.map ov), ∀ v ∈ r, plainV v = true := by
  intro r hr v hv
  obtain ⟨q, _, rfl⟩ := List.mem_map.mp hr
  exact flat_ovs q v hv
theorem rgV_is (n : Nat) : rgV 0 (n : Int) = (rngL 0 n).map V.int := by
  unfold rgV rngL
  have e : ((n : Int) - 0).toNat = n := by omega
  rw [e, List.map_map]
  rfl

section
variable {P : Program} {w : World} {K : PySem.W.Frag} {mg : Str → Option Value} {base : Heap}

theorem sc_law : FnScope ["_law_script", "_law_many", "_law_wishes", "_law_handed", "_law_found", "_law_last", "_law_due", "_law_mates_here", "_law_quiet", "_law_k", "_law_row"] ["_law_script"] (defScope s_law) := ⟨rfl, rfl, rfl, by decide +kernel, rfl, by decide +kernel, by decide +kernel⟩
def sp_law (K : PySem.W.Frag) : Sp := fun vs H Q _ => ∃ (a : Addr) (ns : List Int), vs = [.ref a] ∧ SqL K H a (ns.map V.int) ∧ ns.length ≤ 63 ∧ ∀ H', Q (.bl true) H'
theorem ok_law {f : Addr} {fd : FuncData} (F : Fun K "law" "law" s_law f fd) (T : Own mg) (C1 : Cal P w K mg base 1 "_law_cell_at" ["_law_script", "_law_k"] (sp_cell_at K))
    (C2 : Cal P w K mg base 2 "_law_wishes_by" ["_law_script", "_law_many"] (sp_wishes_by K))
    (C3 : Cal P w K mg base 4 "all_twos" ["wishes"] (sp_all_twos K))
    (C4 : Cal P w K mg base 8 "_law_count" ["_law_wishes", "_law_left"] (sp_count K 7))
    (C5 : Cal P w K mg base 2 "_law_mates" ["_law_wishes", "_law_mates_here"] (sp_lmates K))
    (C6 : Cal P w K mg base 1 "_law_key" ["_law_mates_here"] (sp_key K))
    (C7 : Cal P w K mg base 3 "_law_restless" ["_law_wishes", "_law_mates_here"] (sp_pairs K))
    (C8 : Cal P w K mg base 5 "all_calm" ["wishes"] (sp_all_calm K)) : FnOk P w K mg base CX0 9 f fd ["_law_script"] (sp_law K) := by
  obtain ⟨g1, gd1, G1, m1, k1, b1⟩ := C1
  obtain ⟨g2, gd2, G2, m2, k2, b2⟩ := C2
  obtain ⟨g3, gd3, G3, m3, k3, b3⟩ := C3
  obtain ⟨g4, gd4, G4, m4, k4, b4⟩ := C4
  obtain ⟨g5, gd5, G5, m5, k5, b5⟩ := C5
  obtain ⟨g6, gd6, G6, m6, k6, b6⟩ := C6
  obtain ⟨g7, gd7, G7, m7, k7, b7⟩ := C7
  obtain ⟨g8, gd8, G8, m8, k8, b8⟩ := C8
  refine F.ok sc_law (fun vs H Q E h => ?_) (fun cdv A outer s H vs Q E hr h => ?_)
  · obtain ⟨a, ns, rfl, _⟩ := h
    rfl
  obtain ⟨a, ns, rfl, hS, hlen, q⟩ := h
  have hr1 : Room 1 _ := hr.mono (by decide)
  have hr2 : Room 2 _ := hr.mono (by decide)
  have hr3 : Room 3 _ := hr.mono (by decide)
  have hr4 : Room 4 _ := hr.mono (by decide)
  have hr5 : Room 5 _ := hr.mono (by decide)
  have hu := hr.units
  have hu0 := hr.units0
  refine ⟨_, pss_cons (ps_set (i := 1) sc_law.nd rfl (Or.inl rfl) (pe_op op_add pe_int (pe_op op_mod (pe_call G1 hr1 (by rfl) m1 k1 b1 .nil pass0 (pa_cons (pv 0) (pa_cons pe_int pa_nil))) pe_int)))
    (Evl.pss_cut (ps_if (PW.pt (pw_and (pt_cmpR op_eq (pv 1) pe_int (nomark _)) (pw_and1 (pt_cmpR op_gt (pe_op op_mod (pe_op op_fdiv (pe_call G1 hr1 (by rfl) m1 k1 b1 .nil pass0 (pa_cons (pv 0) (pa_cons pe_int pa_nil))) pe_int) pe_int) pe_int (nomark _)))))
      (pss_one (ps_set (i := 1) sc_law.nd rfl (Or.inl rfl) pe_int)) pss_nil)
    (pss_cons (ps_set (i := 2) sc_law.nd rfl (Or.inl rfl) (pe_call G2 hr2 (by rfl) m2 k2 b2 .nil pass0 (pa_cons (pv 0) (pa_cons (pv 1) pa_nil))))
    (pss_cons (ps_setLc (i := 3) (own := [("_law_row", 10)]) (g := gName 10) (tt := tYes) rfl sc_law.nd rfl rfl (sw_true rfl rfl rfl (by decide +kernel)) (pi_list (pv 2))
      (blkOk_by (N := ["_law_script", "_law_many", "_law_wishes", "_law_handed", "_law_found", "_law_last", "_law_due", "_law_mates_here", "_law_quiet", "_law_k", "_law_row"]) (sc := defScope s_law) (by decide +kernel))
      (fun _ _ _ _ _ => pg_name (i := 10) sc_law.nd rfl (Or.inl rfl)) (fun _ _ _ _ _ => pts_nil) (fun _ _ _ _ _ => pe_callTy (T := "list") (call_lof (K := K) rfl) (by rfl) T.list (by decide +kernel) (pa_cons (pv 10) pa_nil)))
    (pss_cons (ps_set (i := 4) sc_law.nd rfl (Or.inl rfl) (pe_call G3 hr4 (by rfl) m3 k3 b3 .nil pass0 (pa_cons (pv 3) pa_nil)))
    (pss_cons (ps_if (PW.pt (pw_or (pt_not (pt_val (pe_callB call_isi (by rfl) T.isI (by decide +kernel) (pa_cons (pv 4) (pa_cons (pe_bltn (v := .ty "list") (by rfl) T.list (by decide +kernel) rfl) pa_nil)))))
        (pw_or1 (pt_cmpR op_ne (pe_callB call_len_seq (by rfl) T.len PySem.boot_len (pa_cons (pv 4) pa_nil))
          (pe_call G4 hr (by rfl) m4 k4 b4 .nil pass0 (pa_cons (pv 2) (pa_cons (pe_listRg rfl (by rfl) T.list (prg_1 (by rfl) T.rng (pv 1))) pa_nil))) (nomark _))))) (pss_one (ps_ret pe_bl)) pss_nil)
    (pss_cons (ps_set (i := 5) sc_law.nd rfl (Or.inl rfl) (pe_lst pa_nil))
    (pss_cons (ps_set (i := 6) sc_law.nd rfl (Or.inl rfl) (pe_lst pa_nil))
    (pss_cons (ps_for PassesOwn.never rfl (pi_list (pv 4)) (pg_name (i := 7) sc_law.nd rfl (Or.inl rfl))
      (pss_cons (ps_if (PW.pt (pw_or (pt_not (pt_val (pe_call G5 hr2 (by rfl) m5 k5 b5 .nil pass0 (pa_cons (pv 2) (pa_cons (pv 7) pa_nil)))))
          (pw_or1 (pt_not (pt_cmpR (op_ltL hu0) (pv 5) (pe_call G6 hr1 (by rfl) m6 k6 b6 .nil pass0 (pa_cons (pv 7) pa_nil)) (nomark _)))))) (pss_one (ps_ret pe_bl)) pss_nil)
      (pss_cons (ps_set (i := 5) sc_law.nd rfl (Or.inl rfl) (pe_call G6 hr1 (by rfl) m6 k6 b6 .nil pass0 (pa_cons (pv 7) pa_nil)))
      (pss_one (ps_if (pt_cmpR (op_eqD hu) (pe_call G7 hr3 (by rfl) m7 k7 b7 .nil pass0 (pa_cons (pv 2) (pa_cons (pv 7) pa_nil))) (pe_lst pa_nil) (nomark _))
        (pss_one (ps_expr (pe_bm PySem.F.plainAttrs_list PySem.F.slot_list_append PySem.F.type_list_append mt_append (pv 6) (pa_cons (pe_callTy (T := "list") (call_lof (K := K) rfl) (by rfl) T.list (by decide +kernel) (pa_cons (pv 7) pa_nil)) pa_nil)))) pss_nil)))))
    (pss_cons (ps_set (i := 8) sc_law.nd rfl (Or.inl rfl) (pe_call G8 hr5 (by rfl) m8 k8 b8 .nil pass0 (pa_cons (pv 3) pa_nil)))
    (pss_cons (ps_if (PW.pt (pw_or (pt_not (pt_val (pe_callB call_isi (by rfl) T.isI (by decide +kernel) (pa_cons (pv 8) (pa_cons (pe_bltn (v := .ty "list") (by rfl) T.list (by decide +kernel) rfl) pa_nil)))))
        (pw_or1 (pt_cmpR op_ne (pe_callB call_len_seq (by rfl) T.len PySem.boot_len (pa_cons (pv 8) pa_nil)) (pe_callB call_len_seq (by rfl) T.len PySem.boot_len (pa_cons (pv 6) pa_nil)) (nomark _))))) (pss_one (ps_ret pe_bl)) pss_nil)
    (pss_cons (ps_for PassesOwn.never rfl (pi_range1 rfl T.rng (pa_cons (pe_callB call_len_seq (by rfl) T.len PySem.boot_len (pa_cons (pv 6) pa_nil)) pa_nil)) (pg_name (i := 9) sc_law.nd rfl (Or.inl rfl))
      (pss_one (ps_if (PW.pt (pw_or (pt_not (pt_val (pe_call G5 hr2 (by rfl) m5 k5 b5 .nil pass0 (pa_cons (pv 2) (pa_cons (pe_ix ix_list (pv 8) (pv 9) (fun _ _ => rfl)) pa_nil)))))
          (pw_or1 (pt_cmpR (op_neD hu) (pe_ix ix_list (pv 8) (pv 9) (fun _ _ => rfl)) (pe_ix ix_list (pv 6) (pv 9) (fun _ _ => rfl)) (nomark _))))) (pss_one (ps_ret pe_bl)) pss_nil)))
    (pss_cons (ps_for PassesOwn.never rfl (pi_list (pv 8)) (pg_name (i := 7) sc_law.nd rfl (Or.inl rfl))
      (pss_one (ps_expr (pe_bm PySem.F.plainAttrs_list PySem.F.slot_list_append PySem.F.type_list_append mt_append (pv 7) (pa_cons pe_non pa_nil)))))
    (pss_one (ps_ret (pe_and (pe_cmpR (op_eqD hu) (pv 3) (pv 2) (nomark _)) (pe_one (pe_cmpR (op_eqD hu) (pe_call G8 hr5 (by rfl) m8 k8 b8 .nil pass0 (pa_cons (pv 3) pa_nil)) (pv 6) (nomark _))))))))))))))))))
    , ?_⟩
  refine ⟨_, rfl, a, ns, 0, rfl, hS, by decide, fun c => ?_⟩
  refine ⟨_, _, rfl, rfl, (by show (0 : Int) < 6; decide), _, _, rfl, rfl, ?_⟩
  refine ⟨fun σ H' => H' = H ∧ ∃ m : Nat, 1 ≤ m ∧ m ≤ 6 ∧ σ = [some (.ref a), some (.int m), none, none, none, none, none, none, none, none, none], ?_, ?_⟩
  · obtain ⟨n, hn⟩ : ∃ n : Nat, 1 + c % 6 = (n : Int) := ⟨(1 + c % 6).toNat, by omega⟩
    refine ⟨_, rfl, rfl, _, rfl, ?_⟩
    refine ite2 (fun cc => ?_) (fun cc => ?_)
    · refine ⟨_, rfl, a, ns, 0, rfl, hS, by decide, fun c1 => ?_⟩
      refine ⟨_, _, rfl, rfl, ⟨by decide, by decide⟩, _, _, rfl, rfl, (by show (0 : Int) < 3; decide), _, _, rfl, rfl, _, rfl, ?_⟩
      refine ite2 (fun c2 => ?_) (fun c2 => ?_)
      · exact ⟨rfl, 4, by omega, by omega, rfl⟩
      · exact ⟨rfl, n, by omega, by omega, by rw [← hn]; rfl⟩
    · exact ⟨rfl, n, by omega, by omega, by rw [← hn]; rfl⟩
  rintro σ H' ⟨rfl, m, hm1, hm6, rfl⟩
  refine ⟨_, rfl, _, rfl, a, ns, m, rfl, hS, hm1, hm6, fun H2 p ws e1 hp hT2 hG hl => ?_⟩
  obtain ⟨as, t1, t2, t3⟩ := id hT2
  refine ⟨_, rfl, p, rfl, ⟨_, t1⟩, fun D hD => ?_⟩
  refine lc_list (K := K) (a := p) (xs := as.map V.ref) (fun i H' => Built H2 D ((ws.take i).map fun r => r.map V.int) H')
    (built_start hD) (fun i H' _ h => h.1.seq t1) ?_ ?_
  · intro i x H3 hx hB
    obtain ⟨b, hb, rfl⟩ := map_ref_get hx
    have hi : i < ws.length := by rw [← t2]; exact (List.getElem?_eq_some_iff.mp hb).1
    obtain ⟨b', hb', hs⟩ := t3 i ws[i] (List.getElem?_eq_getElem hi)
    rw [hb] at hb'
    cases hb'
    refine ⟨rfl, ?_⟩
    refine ⟨_, rfl, b, _, rfl, .inl (hB.1.seq hs), fun l hl' => ?_⟩
    obtain ⟨acc, z1, z2, z3⟩ := built_step hD hB (same_new hl' _) hl' upd_same
    refine ⟨acc, z1, ?_, ?_⟩
    · rw [z2, List.length_map, List.length_take]
      have := hG.hi
      exact small1000 (by omega)
    · rw [take_one (List.getElem?_eq_getElem hi), List.map_append]
      exact z3
  intro H3 hB
  rw [List.take_of_length_le (by rw [List.length_map, t2]; exact Nat.le_refl _)] at hB
  have hD3 : Tab K H3 D ws := hB.tab.t
  have hP3 := hT2.same hB.1
  clear hB t1 t2 t3 hD hT2
  refine ⟨_, rfl, D, ws, rfl, hD3, hG, fun H4 fa hfa hF => ?_⟩
  obtain ⟨e4, fs, r1, r2, r3⟩ := hF
  have hsm := stage_small ws hG.hi ws.length (Nat.le_refl _)
  have hP4 := hP3.same e4
  have hD4 := hD3.same e4
  refine ⟨_, rfl, _, _, _, _, _, rfl, .ty _, .base (.lst r1), kit_ll, _, rfl, iteF ?_⟩
  refine ⟨_, rfl, fa, _, rfl, .inl (SqL.of r1), ?_⟩
  refine ⟨_, rfl, _, rfl, (m : Int), rfl, ⟨by omega, by omega, by omega, by omega, by omega⟩, fun rg hrg => ?_⟩
  rw [rgV_is]
  have e5 := same_new hrg (.lst ((rngL 0 m).map V.int))
  refine ⟨p, rg, ws, rngL 0 m, rfl, hP4.same e5, SqL.of upd_same, by rw [rngL_len]; omega, by rw [rngL_len]; omega, fun x hx => by have := rngL_mem hx; omega, fun H6 e6 => ?_⟩
  have e46 := e5.trans e6
  have ecount : decide (V.int ((fs.map V.ref).length : Nat) = V.int (countL ws (rngL 0 m).length (rngL 0 m))) = true := by
    apply decide_eq_true
    have h := all_count ws
    rw [hl] at h
    rw [List.length_map, r2, rngL_len, h]
  refine ⟨rfl, _, rfl, ?_⟩
  rw [ecount]
  refine iteF ?_
  -- last, due
  refine ⟨(by show 0 ≤ sizeLine; decide), fun la hla => ?_⟩
  refine ⟨(by show 0 ≤ sizeLine; decide), fun du hdu => ?_⟩
  have e7 := e46.trans (same_new hla (.lst []))
  have hdu4 : H4 du = none := e7.free hdu
  have nld : la ≠ du := ne_of_none upd_same hdu
  have e8 := e7.trans (same_new hdu (.lst []))
  have hord := all_order ws
  have hmem : ∀ ms ∈ allTwos ws, OkMates ws ms := stage_ok ws ws.length (Nat.le_refl _)
  refine ⟨_, rfl, fa, rfl, ⟨_, e8.seq (SqL.of r1)⟩, for_list (K := K) (a := fa) (xs := fs.map V.ref)
    (fun i σ H' => BuiltF fm H4 du (((allTwos ws).take i).filter fun ms => (wildAll ws ms).isEmpty) H' ∧ ∃ (la : Addr) (y : Option V) (ks : List Int), σ = [some (.ref a), some (.int m), some (.ref p), some (.ref D), some (.ref fa), some (.ref la), some (.ref du), y, none, none, none] ∧
      la ≠ du ∧ SqL K H' la (ks.map V.int) ∧ ((i = 0 ∧ ks = []) ∨ ∃ j ms, i = j + 1 ∧ (allTwos ws)[j]? = some ms ∧ ks = keyL ms))
    ⟨(built_start hdu).back e7, la, none, [], rfl, nld, (same_new hdu _).seq (SqL.of upd_same), .inl ⟨rfl, rfl⟩⟩ (fun i σ H' _ h => h.1.1.seq (SqL.of r1)) ?_ ?_⟩
  · rintro i x σ H9 hx ⟨hBd, la, y, ks, rfl, nld, hks, hprev⟩
    obtain ⟨b, hb, rfl⟩ := map_ref_get hx
    have hi : i < (allTwos ws).length := by rw [← r2]; exact (List.getElem?_eq_some_iff.mp hb).1
    obtain ⟨b', hb', hs, _⟩ := r3 i (allTwos ws)[i] (List.getElem?_eq_getElem hi)
    rw [hb] at hb'
    cases hb'
    have hge : (allTwos ws)[i]? = some (allTwos ws)[i] := List.getElem?_eq_getElem hi
    have hOk := hmem _ (List.getElem_mem hi)
    have hless : SeqAt.firstLt (fun j => decide (ks.getD j 0 = (keyL (allTwos ws)[i]).getD j 0)) (fun j => decide (ks.getD j 0 < (keyL (allTwos ws)[i]).getD j 0)) (decide (ks.length < (keyL (allTwos ws)[i]).length)) (List.range (min ks.length (keyL (allTwos ws)[i]).length)) = true := by
      rcases hprev with ⟨_, rfl⟩ | ⟨j, ms', rfl, hj, rfl⟩
      · exact key_first (by rw [hOk.len]; omega)
      · have hj' := List.getElem?_eq_some_iff.mp hj
        obtain ⟨hj1, hj2⟩ := hj'
        have := List.pairwise_iff_getElem.mp hord j (j + 1) hj1 hi (by omega)
        rw [hj2] at this
        exact key_less ((hmem _ (List.mem_of_getElem? hj)).len) hOk.len this
    generalize (allTwos ws)[i] = ms at hs hge hOk hless
    have e9 := hBd.1
    have hb9 := e9 _ _ hs
    have hml := hOk.len
    refine ⟨_, rfl, _, rfl, p, b, ws, ms, rfl, hP4.same e9, hG.hi, SqL.of hb9, hOk, _, rfl, iteF ?_⟩
    refine ⟨_, rfl, _, rfl, b, ms, rfl, SqL.of hb9, by omega, fun H10 kp e10 hkp hk10 => ?_⟩
    refine ⟨la, kp, ks, keyL ms, rfl, rfl, e10.seq hks, SqL.of hk10, _, rfl, ?_⟩
    rw [hless]
    refine iteF ?_
    have e910 := e9.trans e10
    refine ⟨_, rfl, b, ms, rfl, SqL.of (e910 _ _ hs), by omega, fun H11 kq e11 hkq hk11 => ?_⟩
    have e911 := e910.trans e11
    obtain ⟨_, ds, d1, d2, d3⟩ := id hBd
    have nkd : kq ≠ du := (ne_of_none ((e10.trans e11) _ _ d1 |> fun h => (e10 _ _ d1)) hkq).symm
    refine ⟨_, rfl, _, rfl, p, b, ws, ms, rfl, hP4.same e911, hG, SqL.of (e911 _ _ hs), hOk, fun H12 rr hrr hR => ?_⟩
    refine ⟨(by show 0 ≤ sizeLine; decide), fun e he => ?_⟩
    have s12 : Same H12 (upd H12 e (.lst [])) := same_new he _
    have e1112 := hR.1.trans s12
    have e912 := e911.trans e1112
    refine ⟨dPs (wildAll ws ms), dPs [], (hR.prs.same s12).dp, .lst (SqL.of upd_same) .nil, dPs_shaped _, dPs_shaped _, _, rfl, ?_⟩
    rw [dPs_nil, take_one hge, List.filter_append]
    have hk12 : SqL K (upd H12 e (.lst [])) kq ((keyL ms).map V.int) := SqL.of (e1112 _ _ hk11)
    have hB12 := hBd.on ((e10.trans e11).trans e1112)
    have hb12 := e912 _ _ hs
    generalize upd H12 e (.lst []) = H13 at e1112 e912 hk12 hB12 hb12
    cases ew : (wildAll ws ms).isEmpty with
    | false =>
      have e : [ms].filter (fun ms => (wildAll ws ms).isEmpty) = [] := by
        rw [List.filter_cons, ew]; rfl
      rw [e, List.append_nil]
      exact iteF ⟨hB12, kq, _, keyL ms, rfl, nkd, hk12, .inr ⟨i, ms, rfl, hge, rfl⟩⟩
    | true =>
      have e : [ms].filter (fun ms => (wildAll ws ms).isEmpty) = [ms] := by
        rw [List.filter_cons, ew]; rfl
      rw [e]
      refine iteT ?_
      obtain ⟨_, ds2, y1, y2, y3⟩ := id hB12
      refine ⟨_, rfl, .inl ⟨rfl, _, SqL.of y1⟩, _, rfl, b, _, rfl, .inl (SqL.of hb12), fun cp hcp => ?_⟩
      obtain ⟨acc, z1, z2, z3⟩ := built_step (r := ms) hdu4 hB12 (same_new hcp _) hcp upd_same
      refine ⟨du, _, _, rfl, rfl, z1, ?_, z3, kq, _, keyL ms, rfl, nkd, ?_, .inr ⟨i, ms, rfl, hge, rfl⟩⟩
      · rw [z2]
        refine big_line (Nat.le_trans (List.length_filter_le _ _) ?_)
        rw [List.length_take]
        unfold allTwos
        omega
      · rcases hk12 with h | ⟨o, its, n, h⟩
        · refine .inl ?_
          rcases h with h | ⟨o, h⟩
          · exact .inl (by rw [upd_ne nkd, upd_ne (ne_of_none h hcp)]; exact h)
          · exact .inr ⟨o, by rw [upd_ne nkd, upd_ne (ne_of_none h hcp)]; exact h⟩
        · exact .inr ⟨o, its, n, h⟩
  rintro σ H9 ⟨hBd, la2, y, ks, rfl, _, _, _⟩
  rw [List.take_of_length_le (by rw [List.length_map, r2]; exact Nat.le_refl _)] at hBd
  have hBd' : BuiltF fm H4 du (allCalm ws) H9 := hBd
  clear hBd
  have e9 := hBd'.1
  refine ⟨_, rfl, D, ws, rfl, hD4.same e9, hG, fun H10 qa hqa hQ => ?_⟩
  have e10 := hQ.1
  obtain ⟨_, qs, q1, q2, q3⟩ := id hQ
  have hBd10 := hBd'.on e10
  obtain ⟨_, ds, d1, d2, d3⟩ := id hBd10
  have hcl : (allCalm ws).length ≤ 46656 := Nat.le_trans (List.length_filter_le _ _) hsm
  have hmc : ∀ ms ∈ allCalm ws, OkMates ws ms := fun ms h => hmem ms (List.mem_filter.mp h).1
  refine ⟨_, rfl, _, _, _, _, _, rfl, .ty _, .base (.lst q1), kit_ll, _, rfl, iteF ?_⟩
  refine ⟨_, rfl, qa, _, rfl, .inl (SqL.of q1), _, rfl, du, _, rfl, .inl (SqL.of d1), rfl, _, rfl, ?_⟩
  rw [decide_eq_true (show V.int ((qs.map V.ref).length : Nat) = V.int ((ds.map V.ref).length : Nat) by rw [List.length_map, List.length_map, q2, d2])]
  refine iteF ?_
  have hdl : (ds.map V.ref).length = (allCalm ws).length := by rw [List.length_map]; exact d2
  refine ⟨_, rfl, du, _, rfl, .inl (SqL.of d1), (((ds.map V.ref).length : Nat) : Int), rfl, by omega, by omega, ?_⟩
  have e410 := e9.trans e10
  refine for_range (lo := 0) (n := (((ds.map V.ref).length : Nat) : Int).toNat) (fun i σ H' => H' = H10 ∧ ∃ (y z : Option V), σ = [some (.ref a), some (.int m), some (.ref p), some (.ref D), some (.ref fa), some (.ref la2), some (.ref du), y, some (.ref qa), z, none])
    ⟨rfl, y, none, rfl⟩ ?_ ?_
  · rintro i σ H' hin hh
    have hi : i < (allCalm ws).length := by omega
    have ei : (0 : Int) + (i : Int) = (i : Int) := Int.zero_add _
    obtain ⟨b, hb, hb2, _⟩ := q3 i (allCalm ws)[i] (List.getElem?_eq_getElem hi)
    obtain ⟨b', hb', hb2', _⟩ := d3 i (allCalm ws)[i] (List.getElem?_eq_getElem hi)
    have hOk := hmc _ (List.getElem_mem hi)
    generalize (allCalm ws)[i] = ms at hb2 hb2' hOk
    have i1 : atI (qs.map V.ref) (i : Int) = some (.ref b) := atI_nat (by rw [List.getElem?_map, hb]; rfl)
    have i2 : atI (ds.map V.ref) (i : Int) = some (.ref b') := atI_nat (by rw [List.getElem?_map, hb']; rfl)
    have hdm : ∀ {u : Addr}, H10 u = some (fm ms) → Dp K H10 (.ref u) (dL (ms.map ov)) := fun h => .lst (SqL.of h) (dpAll_plain _ (flat_ovs ms))
    rw [ei]
    obtain ⟨rfl, y, z, rfl⟩ := hh
    refine ⟨_, rfl, _, rfl, _, rfl, qa, _, _, _, rfl, rfl, SqL.of q1, i1, p, b, ws, ms, rfl, hP4.same e410, hG.hi, SqL.of hb2, hOk, _, rfl, iteF ?_⟩
    refine ⟨_, rfl, _, rfl, qa, _, _, _, rfl, rfl, SqL.of q1, i1, _, rfl, _, rfl, du, _, _, _, rfl, rfl, SqL.of d1, i2, _, _, hdm hb2, hdm hb2', dL_shaped _, dL_shaped _, _, rfl, ?_⟩
    rw [dL_refl]
    exact iteF ⟨rfl, _, _, rfl⟩
  rintro σ H' ⟨rfl, y2, z2, rfl⟩
  refine ⟨_, rfl, qa, rfl, ⟨_, SqL.of q1⟩, for_list (K := K) (a := qa) (xs := qs.map V.ref)
    (fun i σ H11 => Same H9 H11 ∧ H11 qa = some (.lst (qs.map V.ref)) ∧ (∀ (j : Nat) (b : Addr), qs[j]? = some b → ∃ xs, H11 b = some (.lst xs) ∧ xs.length ≤ 6 + i ∧ b ≠ qa ∧ H9 b = none) ∧
      ∃ (y z : Option V), σ = [some (.ref a), some (.int m), some (.ref p), some (.ref D), some (.ref fa), some (.ref la2), some (.ref du), y, some (.ref qa), z, none])
    ⟨e10, q1, fun j b hj => ?_, _, _, rfl⟩ (fun i σ H' _ h => SqL.of h.2.1) ?_ ?_⟩
  · have hj' : j < (allCalm ws).length := by rw [← q2]; exact (List.getElem?_eq_some_iff.mp hj).1
    obtain ⟨b', hb', c2, c3, c4⟩ := q3 j (allCalm ws)[j] (List.getElem?_eq_getElem hj')
    rw [hj] at hb'
    cases hb'
    have hOk := hmc _ (List.getElem_mem hj')
    have h6 := hG.hi
    refine ⟨_, c2, ?_, c3, c4⟩
    rw [List.length_map, hOk.len]
    omega
  · rintro i x σ H11 hx ⟨f1, f2, f3, y, z, rfl⟩
    obtain ⟨b, hb, rfl⟩ := map_ref_get hx
    have hi : i < (allCalm ws).length := by rw [← q2]; exact (List.getElem?_eq_some_iff.mp hb).1
    obtain ⟨xs, w1, w2, w3, w4⟩ := f3 i b hb
    refine ⟨_, rfl, .inl ⟨rfl, _, SqL.of w1⟩, b, _, _, rfl, rfl, w1, big_line (by omega), ?_⟩
    refine ⟨same_put f1 w4 _, by rw [upd_ne w3.symm]; exact f2, fun j b' hj => ?_, _, _, rfl⟩
    by_cases cb : b' = b
    · subst cb
      exact ⟨_, upd_same, by rw [List.length_append, List.length_singleton]; omega, w3, w4⟩
    · obtain ⟨xs', v1, v2, v3, v4⟩ := f3 j b' hj
      exact ⟨xs', by rw [upd_ne cb]; exact v1, by omega, v3, v4⟩
  · rintro σ H11 ⟨f1, f2, f3, y, z, rfl⟩
    have e411 := e9.trans f1
    refine ⟨_, rfl, _, rfl, _, _, (hD4.same e411).dp, (hP4.same e411).dp, dLL_shaped _, dLL_shaped _, _, rfl, ?_⟩
    rw [dLL_refl]
    refine iteT ?_
    refine ⟨_, rfl, D, ws, rfl, hD4.same e411, hG, fun H12 qb hqb hQ2 => ?_⟩
    refine ⟨_, rfl, _, _, hQ2.tabM.dp (plain_mates _), ((hBd'.on f1).on hQ2.1).tabM.dp (plain_mates _), dLL_shaped _, dLL_shaped _, ?_⟩
    rw [dLL_refl]
    exact q _
end
end B2

namespace B2
open PySem L2
theorem all_mk {l : PySem.W.OpenLaw} {w : World} {K : PySem.W.Frag} {h : Heap} {mg : Str → Option Value} {fa : Addr} (X : K.In h) (G : h.Ns mainGlobals mg) (hfa : mg "law" = some (.ref fa))
    {f1 f2 f3 f4 f5 f6 f7 f8 f9 f10 f11 f12 f13 f14 f15 f16 f17 f18 f19 f20 f21 : Addr} {od1 an1 od2 an2 od3 an3 od4 an4 od5 an5 od6 an6 od7 an7 od8 an8 od9 an9 od10 an10 od11 an11 od12 an12 od13 an13 od14 an14 od15 an15 od16 an16 od17 an17 od18 an18 od19 an19 od20 an20 od21 an21 : Option Addr} {sl1 sl2 sl3 sl4 sl5 sl6 sl7 sl8 sl9 sl10 sl11 sl12 sl13 sl14 sl15 sl16 sl17 sl18 sl19 sl20 sl21 : Array (Option Value)} {oc1 kV1 dc1 pm1 cd1 ct1 oc2 kV2 dc2 pm2 cd2 ct2 oc3 kV3 dc3 pm3 cd3 ct3 oc4 kV4 dc4 pm4 cd4 ct4 oc5 kV5 dc5 pm5 cd5 ct5 oc6 kV6 dc6 pm6 cd6 ct6 oc7 kV7 dc7 pm7 cd7 ct7 oc8 kV8 dc8 pm8 cd8 ct8 oc9 kV9 dc9 pm9 cd9 ct9 oc10 kV10 dc10 pm10 cd10 ct10 oc11 kV11 dc11 pm11 cd11 ct11 oc12 kV12 dc12 pm12 cd12 ct12 oc13 kV13 dc13 pm13 cd13 ct13 oc14 kV14 dc14 pm14 cd14 ct14 oc15 kV15 dc15 pm15 cd15 ct15 oc16 kV16 dc16 pm16 cd16 ct16 oc17 kV17 dc17 pm17 cd17 ct17 oc18 kV18 dc18 pm18 cd18 ct18 oc19 kV19 dc19 pm19 cd19 ct19 oc20 kV20 dc20 pm20 cd20 ct20 oc21 kV21 dc21 pm21 cd21 ct21 : Value}
    (a1 : PySem.W.nsIn K mainGlobals "is_guest" = some (some (.ref f1))) (l1 : K.lookup f1 = some ⟨oc1, od1, .func (PySem.W.fnOf "is_guest" "is_guest" (defArgs s_is_guest) (defBody s_is_guest) (defScope s_is_guest) .none kV1 dc1 pm1 an1 cd1 ct1), sl1⟩) (c1 : PySem.W.codeIn K cd1 "is_guest" = true) (k1 : PySem.W.keepIn K (.ref f1) = true)
    (a2 : PySem.W.nsIn K mainGlobals "need_row" = some (some (.ref f2))) (l2 : K.lookup f2 = some ⟨oc2, od2, .func (PySem.W.fnOf "need_row" "need_row" (defArgs s_need_row) (defBody s_need_row) (defScope s_need_row) .none kV2 dc2 pm2 an2 cd2 ct2), sl2⟩) (c2 : PySem.W.codeIn K cd2 "need_row" = true) (k2 : PySem.W.keepIn K (.ref f2) = true)
    (a3 : PySem.W.nsIn K mainGlobals "need_wishes" = some (some (.ref f3))) (l3 : K.lookup f3 = some ⟨oc3, od3, .func (PySem.W.fnOf "need_wishes" "need_wishes" (defArgs s_need_wishes) (defBody s_need_wishes) (defScope s_need_wishes) .none kV3 dc3 pm3 an3 cd3 ct3), sl3⟩) (c3 : PySem.W.codeIn K cd3 "need_wishes" = true) (k3 : PySem.W.keepIn K (.ref f3) = true)
    (a4 : PySem.W.nsIn K mainGlobals "in_both" = some (some (.ref f4))) (l4 : K.lookup f4 = some ⟨oc4, od4, .func (PySem.W.fnOf "in_both" "in_both" (defArgs s_in_both) (defBody s_in_both) (defScope s_in_both) .none kV4 dc4 pm4 an4 cd4 ct4), sl4⟩) (c4 : PySem.W.codeIn K cd4 "in_both" = true) (k4 : PySem.W.keepIn K (.ref f4) = true)
    (a5 : PySem.W.nsIn K mainGlobals "is_ahead" = some (some (.ref f5))) (l5 : K.lookup f5 = some ⟨oc5, od5, .func (PySem.W.fnOf "is_ahead" "is_ahead" (defArgs s_is_ahead) (defBody s_is_ahead) (defScope s_is_ahead) .none kV5 dc5 pm5 an5 cd5 ct5), sl5⟩) (c5 : PySem.W.codeIn K cd5 "is_ahead" = true) (k5 : PySem.W.keepIn K (.ref f5) = true)
    (a6 : PySem.W.nsIn K mainGlobals "restless_pairs" = some (some (.ref f6))) (l6 : K.lookup f6 = some ⟨oc6, od6, .func (PySem.W.fnOf "restless_pairs" "restless_pairs" (defArgs s_restless_pairs) (defBody s_restless_pairs) (defScope s_restless_pairs) .none kV6 dc6 pm6 an6 cd6 ct6), sl6⟩) (c6 : PySem.W.codeIn K cd6 "restless_pairs" = true) (k6 : PySem.W.keepIn K (.ref f6) = true)
    (a7 : PySem.W.nsIn K mainGlobals "joined" = some (some (.ref f7))) (l7 : K.lookup f7 = some ⟨oc7, od7, .func (PySem.W.fnOf "joined" "joined" (defArgs s_joined) (defBody s_joined) (defScope s_joined) .none kV7 dc7 pm7 an7 cd7 ct7), sl7⟩) (c7 : PySem.W.codeIn K cd7 "joined" = true) (k7 : PySem.W.keepIn K (.ref f7) = true)
    (a8 : PySem.W.nsIn K mainGlobals "settled" = some (some (.ref f8))) (l8 : K.lookup f8 = some ⟨oc8, od8, .func (PySem.W.fnOf "settled" "settled" (defArgs s_settled) (defBody s_settled) (defScope s_settled) .none kV8 dc8 pm8 an8 cd8 ct8), sl8⟩) (c8 : PySem.W.codeIn K cd8 "settled" = true) (k8 : PySem.W.keepIn K (.ref f8) = true)
    (a9 : PySem.W.nsIn K mainGlobals "all_twos" = some (some (.ref f9))) (l9 : K.lookup f9 = some ⟨oc9, od9, .func (PySem.W.fnOf "all_twos" "all_twos" (defArgs s_all_twos) (defBody s_all_twos) (defScope s_all_twos) .none kV9 dc9 pm9 an9 cd9 ct9), sl9⟩) (c9 : PySem.W.codeIn K cd9 "all_twos" = true) (k9 : PySem.W.keepIn K (.ref f9) = true)
    (a10 : PySem.W.nsIn K mainGlobals "all_calm" = some (some (.ref f10))) (l10 : K.lookup f10 = some ⟨oc10, od10, .func (PySem.W.fnOf "all_calm" "all_calm" (defArgs s_all_calm) (defBody s_all_calm) (defScope s_all_calm) .none kV10 dc10 pm10 an10 cd10 ct10), sl10⟩) (c10 : PySem.W.codeIn K cd10 "all_calm" = true) (k10 : PySem.W.keepIn K (.ref f10) = true)
    (a11 : PySem.W.nsIn K mainGlobals "_law_cell_at" = some (some (.ref f11))) (l11 : K.lookup f11 = some ⟨oc11, od11, .func (PySem.W.fnOf "_law_cell_at" "_law_cell_at" (defArgs s_cell_at) (defBody s_cell_at) (defScope s_cell_at) .none kV11 dc11 pm11 an11 cd11 ct11), sl11⟩) (c11 : PySem.W.codeIn K cd11 "_law_cell_at" = true) (k11 : PySem.W.keepIn K (.ref f11) = true)
    (a12 : PySem.W.nsIn K mainGlobals "_law_row_by" = some (some (.ref f12))) (l12 : K.lookup f12 = some ⟨oc12, od12, .func (PySem.W.fnOf "_law_row_by" "_law_row_by" (defArgs s_row_by) (defBody s_row_by) (defScope s_row_by) .none kV12 dc12 pm12 an12 cd12 ct12), sl12⟩) (c12 : PySem.W.codeIn K cd12 "_law_row_by" = true) (k12 : PySem.W.keepIn K (.ref f12) = true)
    (a13 : PySem.W.nsIn K mainGlobals "_law_wishes_by" = some (some (.ref f13))) (l13 : K.lookup f13 = some ⟨oc13, od13, .func (PySem.W.fnOf "_law_wishes_by" "_law_wishes_by" (defArgs s_wishes_by) (defBody s_wishes_by) (defScope s_wishes_by) .none kV13 dc13 pm13 an13 cd13 ct13), sl13⟩) (c13 : PySem.W.codeIn K cd13 "_law_wishes_by" = true) (k13 : PySem.W.keepIn K (.ref f13) = true)
    (a14 : PySem.W.nsIn K mainGlobals "_law_whole" = some (some (.ref f14))) (l14 : K.lookup f14 = some ⟨oc14, od14, .func (PySem.W.fnOf "_law_whole" "_law_whole" (defArgs s_whole) (defBody s_whole) (defScope s_whole) .none kV14 dc14 pm14 an14 cd14 ct14), sl14⟩) (c14 : PySem.W.codeIn K cd14 "_law_whole" = true) (k14 : PySem.W.keepIn K (.ref f14) = true)
    (a15 : PySem.W.nsIn K mainGlobals "_law_suits" = some (some (.ref f15))) (l15 : K.lookup f15 = some ⟨oc15, od15, .func (PySem.W.fnOf "_law_suits" "_law_suits" (defArgs s_lsuits) (defBody s_lsuits) (defScope s_lsuits) .none kV15 dc15 pm15 an15 cd15 ct15), sl15⟩) (c15 : PySem.W.codeIn K cd15 "_law_suits" = true) (k15 : PySem.W.keepIn K (.ref f15) = true)
    (a16 : PySem.W.nsIn K mainGlobals "_law_rather" = some (some (.ref f16))) (l16 : K.lookup f16 = some ⟨oc16, od16, .func (PySem.W.fnOf "_law_rather" "_law_rather" (defArgs s_lrather) (defBody s_lrather) (defScope s_lrather) .none kV16 dc16 pm16 an16 cd16 ct16), sl16⟩) (c16 : PySem.W.codeIn K cd16 "_law_rather" = true) (k16 : PySem.W.keepIn K (.ref f16) = true)
    (a17 : PySem.W.nsIn K mainGlobals "_law_restless" = some (some (.ref f17))) (l17 : K.lookup f17 = some ⟨oc17, od17, .func (PySem.W.fnOf "_law_restless" "_law_restless" (defArgs s_lrestless) (defBody s_lrestless) (defScope s_lrestless) .none kV17 dc17 pm17 an17 cd17 ct17), sl17⟩) (c17 : PySem.W.codeIn K cd17 "_law_restless" = true) (k17 : PySem.W.keepIn K (.ref f17) = true)
    (a18 : PySem.W.nsIn K mainGlobals "_law_mates" = some (some (.ref f18))) (l18 : K.lookup f18 = some ⟨oc18, od18, .func (PySem.W.fnOf "_law_mates" "_law_mates" (defArgs s_lmates) (defBody s_lmates) (defScope s_lmates) .none kV18 dc18 pm18 an18 cd18 ct18), sl18⟩) (c18 : PySem.W.codeIn K cd18 "_law_mates" = true) (k18 : PySem.W.keepIn K (.ref f18) = true)
    (a19 : PySem.W.nsIn K mainGlobals "_law_count" = some (some (.ref f19))) (l19 : K.lookup f19 = some ⟨oc19, od19, .func (PySem.W.fnOf "_law_count" "_law_count" (defArgs s_count) (defBody s_count) (defScope s_count) .none kV19 dc19 pm19 an19 cd19 ct19), sl19⟩) (c19 : PySem.W.codeIn K cd19 "_law_count" = true) (k19 : PySem.W.keepIn K (.ref f19) = true)
    (a20 : PySem.W.nsIn K mainGlobals "_law_key" = some (some (.ref f20))) (l20 : K.lookup f20 = some ⟨oc20, od20, .func (PySem.W.fnOf "_law_key" "_law_key" (defArgs s_key) (defBody s_key) (defScope s_key) .none kV20 dc20 pm20 an20 cd20 ct20), sl20⟩) (c20 : PySem.W.codeIn K cd20 "_law_key" = true) (k20 : PySem.W.keepIn K (.ref f20) = true)
    (a21 : PySem.W.nsIn K mainGlobals "law" = some (some (.ref f21))) (l21 : K.lookup f21 = some ⟨oc21, od21, .func (PySem.W.fnOf "law" "law" (defArgs s_law) (defBody s_law) (defScope s_law) .none kV21 dc21 pm21 an21 cd21 ct21), sl21⟩) (c21 : PySem.W.codeIn K cd21 "law" = true) (k21 : PySem.W.keepIn K (.ref f21) = true)
    (z_len : PySem.W.nsIn K mainGlobals "len" = some none)
    (z_rng : PySem.W.nsIn K mainGlobals "range" = some none)
    (z_isI : PySem.W.nsIn K mainGlobals "isinstance" = some none)
    (z_int : PySem.W.nsIn K mainGlobals "int" = some none)
    (z_bool : PySem.W.nsIn K mainGlobals "bool" = some none)
    (z_list : PySem.W.nsIn K mainGlobals "list" = some none)
    (z_set : PySem.W.nsIn K mainGlobals "set" = some none)
    (z_enm : PySem.W.nsIn K mainGlobals "enumerate" = some none)
    {t_mg : Tok} (y_mg : PySem.W.nsIn K mainGlobals "MOST_GUESTS" = some (some (.int 6 t_mg)))
    :
    ∃ fd : FuncData, (∀ (s : Shared) (v : Value), BindsTo s fd ⟨[v], []⟩ [("_law_script", v)]) ∧ ∀ base : Heap, K.In base → base.Ns mainGlobals mg → FnOk l.prog w K mg base CX0 9 fa fd ["_law_script"] (sp_law K) := by
  have e := hfa.symm.trans (PySem.W.mg_of X G a21)
  cases e
  have T : Own mg := ⟨PySem.W.mg_none_of X G z_len, PySem.W.mg_none_of X G z_rng, PySem.W.mg_none_of X G z_isI, PySem.W.mg_none_of X G z_int, PySem.W.mg_none_of X G z_bool, PySem.W.mg_none_of X G z_list, PySem.W.mg_none_of X G z_set, PySem.W.mg_none_of X G z_enm⟩
  have F1 := fun_mk (st := s_is_guest) l1 c1 k1
  have b1 := F1.binds (ps := ["number", "many"]) fun _ _ _ _ _ _ us hl => match us, hl with | [_, _], _ => rfl
  have F2 := fun_mk (st := s_need_row) l2 c2 k2
  have b2 := F2.binds (ps := ["row", "guest", "many"]) fun _ _ _ _ _ _ us hl => match us, hl with | [_, _, _], _ => rfl
  have F3 := fun_mk (st := s_need_wishes) l3 c3 k3
  have b3 := F3.binds (ps := ["wishes"]) fun _ _ _ _ _ _ us hl => match us, hl with | [_], _ => rfl
  have F4 := fun_mk (st := s_in_both) l4 c4 k4
  have b4 := F4.binds (ps := ["wishes", "one", "other"]) fun _ _ _ _ _ _ us hl => match us, hl with | [_, _, _], _ => rfl
  have F5 := fun_mk (st := s_is_ahead) l5 c5 k5
  have b5 := F5.binds (ps := ["wishes", "guest", "one", "other"]) fun _ _ _ _ _ _ us hl => match us, hl with | [_, _, _, _], _ => rfl
  have F6 := fun_mk (st := s_restless_pairs) l6 c6 k6
  have b6 := F6.binds (ps := ["wishes", "mates"]) fun _ _ _ _ _ _ us hl => match us, hl with | [_, _], _ => rfl
  have F7 := fun_mk (st := s_joined) l7 c7 k7
  have b7 := F7.binds (ps := ["mates", "one", "other"]) fun _ _ _ _ _ _ us hl => match us, hl with | [_, _, _], _ => rfl
  have F8 := fun_mk (st := s_settled) l8 c8 k8
  have b8 := F8.binds (ps := ["wishes", "mates", "guest"]) fun _ _ _ _ _ _ us hl => match us, hl with | [_, _, _], _ => rfl
  have F9 := fun_mk (st := s_all_twos) l9 c9 k9
  have b9 := F9.binds (ps := ["wishes"]) fun _ _ _ _ _ _ us hl => match us, hl with | [_], _ => rfl
  have F10 := fun_mk (st := s_all_calm) l10 c10 k10
  have b10 := F10.binds (ps := ["wishes"]) fun _ _ _ _ _ _ us hl => match us, hl with | [_], _ => rfl
  have F11 := fun_mk (st := s_cell_at) l11 c11 k11
  have b11 := F11.binds (ps := ["_law_script", "_law_k"]) fun _ _ _ _ _ _ us hl => match us, hl with | [_, _], _ => rfl
  have F12 := fun_mk (st := s_row_by) l12 c12 k12
  have b12 := F12.binds (ps := ["_law_cell", "_law_guest", "_law_many", "_law_full"]) fun _ _ _ _ _ _ us hl => match us, hl with | [_, _, _, _], _ => rfl
  have F13 := fun_mk (st := s_wishes_by) l13 c13 k13
  have b13 := F13.binds (ps := ["_law_script", "_law_many"]) fun _ _ _ _ _ _ us hl => match us, hl with | [_, _], _ => rfl
  have F14 := fun_mk (st := s_whole) l14 c14 k14
  have b14 := F14.binds (ps := ["_law_found"]) fun _ _ _ _ _ _ us hl => match us, hl with | [_], _ => rfl
  have F15 := fun_mk (st := s_lsuits) l15 c15 k15
  have b15 := F15.binds (ps := ["_law_wishes", "_law_one", "_law_other"]) fun _ _ _ _ _ _ us hl => match us, hl with | [_, _, _], _ => rfl
  have F16 := fun_mk (st := s_lrather) l16 c16 k16
  have b16 := F16.binds (ps := ["_law_wishes", "_law_guest", "_law_one", "_law_other"]) fun _ _ _ _ _ _ us hl => match us, hl with | [_, _, _, _], _ => rfl
  have F17 := fun_mk (st := s_lrestless) l17 c17 k17
  have b17 := F17.binds (ps := ["_law_wishes", "_law_mates_here"]) fun _ _ _ _ _ _ us hl => match us, hl with | [_, _], _ => rfl
  have F18 := fun_mk (st := s_lmates) l18 c18 k18
  have b18 := F18.binds (ps := ["_law_wishes", "_law_mates_here"]) fun _ _ _ _ _ _ us hl => match us, hl with | [_, _], _ => rfl
  have F19 := fun_mk (st := s_count) l19 c19 k19
  have b19 := F19.binds (ps := ["_law_wishes", "_law_left"]) fun _ _ _ _ _ _ us hl => match us, hl with | [_, _], _ => rfl
  have F20 := fun_mk (st := s_key) l20 c20 k20
  have b20 := F20.binds (ps := ["_law_mates_here"]) fun _ _ _ _ _ _ us hl => match us, hl with | [_], _ => rfl
  have F21 := fun_mk (st := s_law) l21 c21 k21
  refine ⟨PySem.W.fnOf "law" "law" (defArgs s_law) (defBody s_law) (defScope s_law) .none kV21 dc21 pm21 an21 cd21 ct21, fun s v => .of_eq rfl, fun base _ _ => ?_⟩
  have C1 : Cal l.prog w K mg base 1 "is_guest" ["number", "many"] sp_is_guest := ⟨⟨_, _, ok_is_guest F1 T, PySem.W.mg_of X G a1, k1, b1⟩⟩
  have C2 : Cal l.prog w K mg base 2 "need_row" ["row", "guest", "many"] (sp_need_row K) := ⟨⟨_, _, ok_need_row F2 T C1, PySem.W.mg_of X G a2, k2, b2⟩⟩
  have C3 : Cal l.prog w K mg base 3 "need_wishes" ["wishes"] (sp_need_wishes K) := ⟨⟨_, _, ok_need_wishes F3 T ⟨_, PySem.W.mg_of X G y_mg⟩ C2, PySem.W.mg_of X G a3, k3, b3⟩⟩
  have C4 : Cal l.prog w K mg base 1 "in_both" ["wishes", "one", "other"] (sp_in_both K) := ⟨⟨_, _, ok_in_both F4, PySem.W.mg_of X G a4, k4, b4⟩⟩
  have C5 : Cal l.prog w K mg base 2 "is_ahead" ["wishes", "guest", "one", "other"] (sp_is_ahead K) := ⟨⟨_, _, ok_is_ahead F5 C4, PySem.W.mg_of X G a5, k5, b5⟩⟩
  have C6 : Cal l.prog w K mg base 3 "restless_pairs" ["wishes", "mates"] (sp_pairs K) := ⟨⟨_, _, ok_restless_pairs F6 T C5, PySem.W.mg_of X G a6, k6, b6⟩⟩
  have C7 : Cal l.prog w K mg base 1 "joined" ["mates", "one", "other"] (sp_joined K) := ⟨⟨_, _, ok_joined F7 T, PySem.W.mg_of X G a7, k7, b7⟩⟩
  have C8 : Cal l.prog w K mg base 2 "settled" ["wishes", "mates", "guest"] (sp_settled K) := ⟨⟨_, _, ok_settled F8 T C4 C7, PySem.W.mg_of X G a8, k8, b8⟩⟩
  have C9 : Cal l.prog w K mg base 4 "all_twos" ["wishes"] (sp_all_twos K) := ⟨⟨_, _, ok_all_twos F9 T C3 C8, PySem.W.mg_of X G a9, k9, b9⟩⟩
  have C10 : Cal l.prog w K mg base 5 "all_calm" ["wishes"] (sp_all_calm K) := ⟨⟨_, _, ok_all_calm F10 C9 C6, PySem.W.mg_of X G a10, k10, b10⟩⟩
  have C11 : Cal l.prog w K mg base 1 "_law_cell_at" ["_law_script", "_law_k"] (sp_cell_at K) := ⟨⟨_, _, ok_cell_at F11 T, PySem.W.mg_of X G a11, k11, b11⟩⟩
  have C12 : Cal l.prog w K mg base 1 "_law_row_by" ["_law_cell", "_law_guest", "_law_many", "_law_full"] sp_row_by := ⟨⟨_, _, ok_row_by F12 T, PySem.W.mg_of X G a12, k12, b12⟩⟩
  have C13 : Cal l.prog w K mg base 2 "_law_wishes_by" ["_law_script", "_law_many"] (sp_wishes_by K) := ⟨⟨_, _, ok_wishes_by F13 T C11 C12, PySem.W.mg_of X G a13, k13, b13⟩⟩
  have C14 : Cal l.prog w K mg base 1 "_law_whole" ["_law_found"] sp_whole := ⟨⟨_, _, ok_whole F14 T, PySem.W.mg_of X G a14, k14, b14⟩⟩
  have C15 : Cal l.prog w K mg base 1 "_law_suits" ["_law_wishes", "_law_one", "_law_other"] (sp_in_both K) := ⟨⟨_, _, ok_lsuits F15, PySem.W.mg_of X G a15, k15, b15⟩⟩
  have C16 : Cal l.prog w K mg base 2 "_law_rather" ["_law_wishes", "_law_guest", "_law_one", "_law_other"] (sp_lrather K) := ⟨⟨_, _, ok_lrather F16 C15, PySem.W.mg_of X G a16, k16, b16⟩⟩
  have C17 : Cal l.prog w K mg base 3 "_law_restless" ["_law_wishes", "_law_mates_here"] (sp_pairs K) := ⟨⟨_, _, ok_lrestless F17 T C16, PySem.W.mg_of X G a17, k17, b17⟩⟩
  have C18 : Cal l.prog w K mg base 2 "_law_mates" ["_law_wishes", "_law_mates_here"] (sp_lmates K) := ⟨⟨_, _, ok_lmates F18 T C14 C15, PySem.W.mg_of X G a18, k18, b18⟩⟩
  have C19 : Cal l.prog w K mg base 8 "_law_count" ["_law_wishes", "_law_left"] (sp_count K 7) := ⟨⟨_, _, ok_count F19 T (PySem.W.mg_of X G a19) b19 C15, PySem.W.mg_of X G a19, k19, b19⟩⟩
  have C20 : Cal l.prog w K mg base 1 "_law_key" ["_law_mates_here"] (sp_key K) := ⟨⟨_, _, ok_key F20, PySem.W.mg_of X G a20, k20, b20⟩⟩
  exact ok_law F21 T C11 C13 C9 C19 C18 C20 C17 C10
theorem walk {l : PySem.W.OpenLaw} {q : Program} {loose : List Str} {XP : (Str → Option Value) → Heap → Prop} {YP : World → Heap → Prop} {d : DefRec} {K : Params → PySem.W.Frag} (hn : l.most = some 63) (hdf : d.params.defaults = [])
    (hY : ∀ (w : World) (h : Heap), YP w h → (K w.params).In h)
    (F : ∀ (w : World) (mg : Str → Option Value) (fa : Addr) (h : Heap), (K w.params).In h → h.Ns mainGlobals mg → mg d.name = some (.ref fa) →
      ∃ fd : FuncData, (∀ (s : Shared) (u : Value), BindsTo s fd ⟨[u], []⟩ [("_law_script", u)]) ∧ ∀ base : Heap, (K w.params).In base → base.Ns mainGlobals mg → FnOk l.prog w (K w.params) mg base CX0 9 fa fd ["_law_script"] (sp_law (K w.params))) :
    PySem.W.WalkO q loose XP YP l.row.toRowW d [] (fun f vs => PySem.call f vs) :=
  L2.walk_of (n := 63) (k := 9) (x := "_law_script") (CX := fun _ => CX0) (sp := fun w => sp_law (K w.params)) hn (by decide) hdf ⟨rfl, by decide, by decide⟩ hY F (fun _ _ a ns hl _ hS => ⟨a, ns, rfl, hS, hl, fun _ => rfl⟩) fun _ _ _ _ _ z => z
end B2

open PySem PySem.W PyProof.Rows in
set_option maxRecDepth 100000 in
set_option maxHeartbeats 0 in
theorem PySem.Challenge.cw_bedtwos_k05_whole_all_twos_holds : PySem.Challenge.rw_bedtwos_k05_whole_all_twos.Holds := by
  w_on; o_law; k_head; (case hw => w_witness2)
  k_fill
  refine B2.walk (l := PySem.Challenge.rw_bedtwos_k05_whole_all_twos) rfl rfl (fun w h Y => PySem.W.kIn_of Y) ?F
  case F =>
    intro w mg fa h KX G hmg
    refine' B2.all_mk KX G hmg ?a1 ?l1 ?c1 ?k1 ?a2 ?l2 ?c2 ?k2 ?a3 ?l3 ?c3 ?k3 ?a4 ?l4 ?c4 ?k4 ?a5 ?l5 ?c5 ?k5 ?a6 ?l6 ?c6 ?k6 ?a7 ?l7 ?c7 ?k7 ?a8 ?l8 ?c8 ?k8 ?a9 ?l9 ?c9 ?k9 ?a10 ?l10 ?c10 ?k10 ?a11 ?l11 ?c11 ?k11 ?a12 ?l12 ?c12 ?k12 ?a13 ?l13 ?c13 ?k13 ?a14 ?l14 ?c14 ?k14 ?a15 ?l15 ?c15 ?k15 ?a16 ?l16 ?c16 ?k16 ?a17 ?l17 ?c17 ?k17 ?a18 ?l18 ?c18 ?k18 ?a19 ?l19 ?c19 ?k19 ?a20 ?l20 ?c20 ?k20 ?a21 ?l21 ?c21 ?k21 ?z_len ?z_rng ?z_isI ?z_int ?z_bool ?z_list ?z_set ?z_enm ?y_mg
    (case a1 => k_is)
    (case l1 => k_is)
    (case c1 => k_is)
    (case k1 => k_is)
    (case a2 => k_is)
    (case l2 => k_is)
    (case c2 => k_is)
    (case k2 => k_is)
    (case a3 => k_is)
    (case l3 => k_is)
    (case c3 => k_is)
    (case k3 => k_is)
    (case a4 => k_is)
    (case l4 => k_is)
    (case c4 => k_is)
    (case k4 => k_is)
    (case a5 => k_is)
    (case l5 => k_is)
    (case c5 => k_is)
    (case k5 => k_is)
    (case a6 => k_is)
    (case l6 => k_is)
    (case c6 => k_is)
    (case k6 => k_is)
    (case a7 => k_is)
    (case l7 => k_is)
    (case c7 => k_is)
    (case k7 => k_is)
    (case a8 => k_is)
    (case l8 => k_is)
    (case c8 => k_is)
    (case k8 => k_is)
    (case a9 => k_is)
    (case l9 => k_is)
    (case c9 => k_is)
    (case k9 => k_is)
    (case a10 => k_is)
    (case l10 => k_is)
    (case c10 => k_is)
    (case k10 => k_is)
    (case a11 => k_is)
    (case l11 => k_is)
    (case c11 => k_is)
    (case k11 => k_is)
    (case a12 => k_is)
    (case l12 => k_is)
    (case c12 => k_is)
    (case k12 => k_is)
    (case a13 => k_is)
    (case l13 => k_is)
    (case c13 => k_is)
    (case k13 => k_is)
    (case a14 => k_is)
    (case l14 => k_is)
    (case c14 => k_is)
    (case k14 => k_is)
    (case a15 => k_is)
    (case l15 => k_is)
    (case c15 => k_is)
    (case k15 => k_is)
    (case a16 => k_is)
    (case l16 => k_is)
    (case c16 => k_is)
    (case k16 => k_is)
    (case a17 => k_is)
    (case l17 => k_is)
    (case c17 => k_is)
    (case k17 => k_is)
    (case a18 => k_is)
    (case l18 => k_is)
    (case c18 => k_is)
    (case k18 => k_is)
    (case a19 => k_is)
    (case l19 => k_is)
    (case c19 => k_is)
    (case k19 => k_is)
    (case a20 => k_is)
    (case l20 => k_is)
    (case c20 => k_is)
    (case k20 => k_is)
    (case a21 => k_is)
    (case l21 => k_is)
    (case c21 => k_is)
    (case k21 => k_is)
    (case z_len => k_is)
    (case z_rng => k_is)
    (case z_isI => k_is)
    (case z_int => k_is)
    (case z_bool => k_is)
    (case z_list => k_is)
    (case z_set => k_is)
    (case z_enm => k_is)
    (case y_mg => k_is)
#print axioms PySem.Challenge.cw_bedtwos_k05_whole_all_twos_holds
