import PyProof.Rows.All
import Wide.All
import OpenK.AllK
import Wide.FinOn
import HandS.ForMost
import HandS.IsInst
import HandS.Zip
import HandS.Walk
import HandS.Evl
import HandS.Style
import HandS.ExcCtx
import HandS.HotCalls
import HandS.ForExc
import HandS.Small
import HandS.FStr
import HandS.ExcIs
import HandS.Conv
import HandS.Deep
import PySem.Challenge.RW_bedtwos_k03_other_refusals
set_option Elab.async false
set_option maxRecDepth 100000
set_option maxHeartbeats 4000000
namespace B2
open PySem L2

/-! ### Data: tables of wishes, rows, what stands at an address -/

/-- a row of the guest g, one of n -/
structure GoodRow (n : Nat) (g : Int) (r : List Int) : Prop where
  nd : r.Nodup
  rg : ∀ x ∈ r, 0 ≤ x ∧ x < (n : Int) ∧ x ≠ g
  sm : r.length ≤ 6

structure Good (ws : List (List Int)) : Prop where
  lo : 1 ≤ ws.length
  hi : ws.length ≤ 6
  row : ∀ (g : Nat) (r : List Int), ws[g]? = some r → GoodRow ws.length (g : Int) r

/-- the table ws stands at a -/
def Tab (K : PySem.W.Frag) (H : Hp) (a : Addr) (ws : List (List Int)) : Prop :=
  ∃ as : List Addr, SqL K H a (as.map V.ref) ∧ as.length = ws.length ∧
    ∀ (i : Nat) (r : List Int), ws[i]? = some r → ∃ b, as[i]? = some b ∧ SqL K H b (r.map V.int)

theorem Tab.same {K : PySem.W.Frag} {H H' : Hp} {a : Addr} {ws : List (List Int)} (e : Same H H') (t : Tab K H a ws) : Tab K H' a ws := by
  obtain ⟨as, h1, h2, h3⟩ := t
  refine ⟨as, e.seq h1, h2, fun i r hr => ?_⟩
  obtain ⟨b, hb, hs⟩ := h3 i r hr
  exact ⟨b, hb, e.seq hs⟩

theorem same_new {H : Hp} {p : Addr} (h : H p = none) (o : HO) : Same H (upd H p o) := fun b u q => by
  rw [upd_ne (ne_of_none q h)]; exact q

/-- what was there at the start stays, though the new object at p is changed -/
theorem same_put {H H1 : Hp} {p : Addr} (e : Same H H1) (h : H p = none) (o : HO) : Same H (upd H1 p o) := fun b u q => by
  rw [upd_ne (ne_of_none q h)]; exact e b u q

def rowOf (ws : List (List Int)) (i : Int) : List Int := ws.getD i.toNat []

theorem rowOf_get {ws : List (List Int)} {i : Int} (h0 : 0 ≤ i) (h1 : i < (ws.length : Int)) :
    ws[i.toNat]? = some (rowOf ws i) ∧ i = ((i.toNat : Nat) : Int) := by
  have h : i.toNat < ws.length := by omega
  refine ⟨?_, by omega⟩
  unfold rowOf
  rw [List.getD_eq_getElem?_getD, List.getElem?_eq_getElem h]
  rfl

theorem rowOf_good {ws : List (List Int)} (g : Good ws) {i : Int} (h0 : 0 ≤ i) (h1 : i < (ws.length : Int)) : GoodRow ws.length i (rowOf ws i) := by
  have h := rowOf_get h0 h1
  have q := g.row _ _ h.1
  rw [← h.2] at q
  exact q

/-- wishes[i], as the list rules ask it -/
theorem Tab.at {K : PySem.W.Frag} {H : Hp} {a : Addr} {ws : List (List Int)} (t : Tab K H a ws) :
    ∃ as : List Addr, SqL K H a (as.map V.ref) ∧ as.length = ws.length ∧
    ∀ i : Int, 0 ≤ i → i < (ws.length : Int) → ∃ b, atI (as.map V.ref) i = some (.ref b) ∧ SqL K H b ((rowOf ws i).map V.int) := by
  obtain ⟨as, h1, h2, h3⟩ := t
  refine ⟨as, h1, h2, fun i i0 i1 => ?_⟩
  obtain ⟨q1, q2⟩ := rowOf_get i0 i1
  obtain ⟨b, hb, hs⟩ := h3 _ _ q1
  refine ⟨b, ?_, hs⟩
  have : atI (as.map V.ref) ((i.toNat : Nat) : Int) = some (.ref b) := atI_nat (by rw [List.getElem?_map, hb]; rfl)
  rw [← q2] at this
  exact this

theorem inV_int (j : Int) : ∀ r : List Int, inV (.int j) (r.map V.int) = decide (j ∈ r)
  | [] => by simp [inV]
  | x :: r => by
    have ih := inV_int j r
    unfold inV at ih ⊢
    rw [List.map_cons, List.any_cons, ih]
    show ((x == j) || decide (j ∈ r)) = decide (j ∈ x :: r)
    by_cases h : x = j
    · simp [h]
    · have h' : ¬ j = x := fun q => h q.symm
      simp [h, h']

theorem flat_ints (r : List Int) : (r.map V.int).all flatV = true := by
  rw [List.all_eq_true]
  intro x hx
  rw [List.mem_map] at hx
  obtain ⟨i, _, rfl⟩ := hx
  rfl

/-- two guests suit each other -/
def suitsB (ws : List (List Int)) (i j : Int) : Bool := decide (j ∈ rowOf ws i) && decide (i ∈ rowOf ws j)

theorem suitsB_comm (ws : List (List Int)) (i j : Int) : suitsB ws i j = suitsB ws j i := Bool.and_comm _ _

def ov : Option Int → V
  | none => .non
  | some i => .int i

theorem ov_inj {a b : Option Int} (h : ov a = ov b) : a = b := by
  cases a <;> cases b <;> first | rfl | (cases h; rfl) | (cases h)

theorem ov_dec (a b : Option Int) : decide (ov a = ov b) = decide (a = b) := by
  by_cases h : a = b
  · rw [h]; simp
  · have h' : ¬ ov a = ov b := fun q => h (ov_inj q)
    rw [decide_eq_false h, decide_eq_false h']

theorem ov_non (a : Option Int) : decide (ov a = .non) = a.isNone := by
  cases a <;> rfl

/-- a guest or none, of n -/
def OkO (n : Nat) : Option Int → Prop
  | none => True
  | some i => 0 ≤ i ∧ i < (n : Int)

/-- whether g would rather have one than other -/
def aheadB (ws : List (List Int)) (g : Int) : Option Int → Option Int → Bool
  | none, _ => false
  | some a, none => suitsB ws g a
  | some a, some b => if a = b then false else
      if suitsB ws g a = true then (if suitsB ws g b = true then decide ((rowOf ws g).idxOf a < (rowOf ws g).idxOf b) else true) else false

/-- as the law goes through the list -/
def scanB (s : Int → Bool) (a : Int) (o : Option Int) : List Int → Bool
  | [] => false
  | t :: r => if (decide (some t = o) && s t) = true then false else if t = a then true else scanB s a o r

theorem scanB_none (s : Int → Bool) (a : Int) : ∀ r : List Int, a ∈ r → scanB s a none r = true
  | [], h => by cases h
  | t :: r, h => by
    unfold scanB
    have e : (decide (some t = (none : Option Int)) && s t) = false := by
      rw [decide_eq_false (by intro q; cases q), Bool.false_and]
    rw [e]
    by_cases q : t = a
    · rw [if_neg (by decide), if_pos q]
    · rw [if_neg (by decide), if_neg q]
      rcases List.mem_cons.mp h with h | h
      · exact absurd h.symm q
      · exact scanB_none s a r h

theorem scanB_no (s : Int → Bool) (a b : Int) (hs : s b = false) : ∀ r : List Int, a ∈ r → scanB s a (some b) r = true
  | [], h => by cases h
  | t :: r, h => by
    unfold scanB
    have e : (decide (some t = some b) && s t) = false := by
      by_cases q : t = b
      · rw [q, hs, Bool.and_false]
      · rw [decide_eq_false (by intro z; exact q (Option.some.inj z)), Bool.false_and]
    rw [e]
    by_cases q : t = a
    · rw [if_neg (by decide), if_pos q]
    · rw [if_neg (by decide), if_neg q]
      rcases List.mem_cons.mp h with h | h
      · exact absurd h.symm q
      · exact scanB_no s a b hs r h

theorem scanB_yes (s : Int → Bool) (a b : Int) (hs : s b = true) (hab : a ≠ b) : ∀ r : List Int, a ∈ r → scanB s a (some b) r = decide (r.idxOf a < r.idxOf b)
  | [], h => by cases h
  | t :: r, h => by
    unfold scanB
    by_cases q : t = b
    · have e : (decide (some t = some b) && s t) = true := by rw [q, hs]; simp
      rw [if_pos e, q, List.idxOf_cons, List.idxOf_cons]
      have e1 : (b == a) = false := by
        apply beq_eq_false_iff_ne.mpr
        exact fun z => hab z.symm
      simp [e1]
    · have e : (decide (some t = some b) && s t) = false := by
        rw [decide_eq_false (by intro z; exact q (Option.some.inj z)), Bool.false_and]
      rw [e, if_neg (by decide)]
      have e2 : (t == b) = false := beq_eq_false_iff_ne.mpr q
      by_cases q1 : t = a
      · rw [if_pos q1, List.idxOf_cons, List.idxOf_cons]
        have e1 : (t == a) = true := by rw [q1]; exact beq_self_eq_true a
        rw [e1, e2]
        simp
      · rw [if_neg q1]
        have e1 : (t == a) = false := beq_eq_false_iff_ne.mpr q1
        have ha : a ∈ r := by
          rcases List.mem_cons.mp h with h | h
          · exact absurd h.symm q1
          · exact h
        rw [scanB_yes s a b hs hab r ha, List.idxOf_cons, List.idxOf_cons, e1, e2]
        simp

def ratherB (ws : List (List Int)) (g : Int) : Option Int → Option Int → Bool
  | none, _ => false
  | some a, o => if suitsB ws g a = true then scanB (suitsB ws g) a o (rowOf ws g) else false

theorem suitsB_mem {ws : List (List Int)} {g a : Int} (h : suitsB ws g a = true) : a ∈ rowOf ws g ∧ g ∈ rowOf ws a := by
  unfold suitsB at h
  rw [Bool.and_eq_true] at h
  exact ⟨of_decide_eq_true h.1, of_decide_eq_true h.2⟩

theorem scanB_same (s : Int → Bool) (a : Int) (hs : s a = true) : ∀ r : List Int, scanB s a (some a) r = false
  | [] => rfl
  | t :: r => by
    unfold scanB
    by_cases q : t = a
    · rw [if_pos (by rw [q, hs]; simp)]
    · rw [if_neg (by rw [decide_eq_false (by intro z; exact q (Option.some.inj z)), Bool.false_and]; decide), if_neg q]
      exact scanB_same s a hs r

theorem rather_is (ws : List (List Int)) (g : Int) : ∀ a o : Option Int, ratherB ws g a o = aheadB ws g a o
  | none, _ => rfl
  | some a, none => by
    show (if suitsB ws g a = true then scanB (suitsB ws g) a none (rowOf ws g) else false) = suitsB ws g a
    by_cases h : suitsB ws g a = true
    · rw [if_pos h, scanB_none _ _ _ (suitsB_mem h).1, h]
    · rw [if_neg h]
      exact (Bool.eq_false_iff.mpr h).symm
  | some a, some b => by
    show (if suitsB ws g a = true then scanB (suitsB ws g) a (some b) (rowOf ws g) else false) = (if a = b then false else
      if suitsB ws g a = true then (if suitsB ws g b = true then decide ((rowOf ws g).idxOf a < (rowOf ws g).idxOf b) else true) else false)
    by_cases h : suitsB ws g a = true
    · rw [if_pos h, if_pos h]
      by_cases q : a = b
      · rw [if_pos q, ← q, scanB_same _ _ h]
      · rw [if_neg q]
        by_cases h2 : suitsB ws g b = true
        · rw [if_pos h2, scanB_yes _ _ _ h2 q _ (suitsB_mem h).1]
        · rw [if_neg h2, scanB_no _ _ _ (Bool.eq_false_iff.mpr h2) _ (suitsB_mem h).1]
    · rw [if_neg h, if_neg h]
      by_cases q : a = b
      · rw [if_pos q]
      · rw [if_neg q]

/-- the first place of x in a list of ints, as list.index asks it -/
theorem index_at (x : Int) : ∀ r : List Int, x ∈ r →
    (r.map V.int)[r.idxOf x]? = some (.int x) ∧ ∀ (m : Nat) (z : V), m < r.idxOf x → (r.map V.int)[m]? = some z → eqV z (.int x) = false
  | [], h => by cases h
  | t :: r, h => by
    by_cases q : t = x
    · rw [List.idxOf_cons]
      have e1 : (t == x) = true := by rw [q]; exact beq_self_eq_true x
      rw [e1]
      refine ⟨by rw [q]; rfl, fun m z hm => ?_⟩
      simp at hm
    · have e1 : (t == x) = false := beq_eq_false_iff_ne.mpr q
      have ha : x ∈ r := by
        rcases List.mem_cons.mp h with h | h
        · exact absurd h.symm q
        · exact h
      obtain ⟨i1, i2⟩ := index_at x r ha
      rw [List.idxOf_cons, e1]
      refine ⟨?_, fun m z hm hz => ?_⟩
      · show (V.int t :: r.map V.int)[r.idxOf x + 1]? = _
        rw [List.getElem?_cons_succ]
        exact i1
      · cases m with
        | zero =>
          rw [List.map_cons, List.getElem?_cons_zero] at hz
          cases hz
          exact e1
        | succ m =>
          rw [List.map_cons, List.getElem?_cons_succ] at hz
          have hm' : m + 1 < r.idxOf x + 1 := hm
          exact i2 m z (by omega) hz
end B2

namespace B2
open PySem L2

/-! ### Data of nested lists -/
theorem canLayAll_of : ∀ ds : List PyData, (∀ d ∈ ds, d.canLay0 = true) → PyData.canLayAll0 ds = true
  | [], _ => by simp [PyData.canLayAll0]
  | d :: ds, h => by
    have h1 := h d (List.mem_cons_self ..)
    have h2 := canLayAll_of ds (fun e he => h e (List.mem_cons_of_mem _ he))
    simp [PyData.canLayAll0, h1, h2]
theorem depthAll_of (k : Nat) : ∀ ds : List PyData, (∀ d ∈ ds, d.depth ≤ k) → PyData.depthAll ds ≤ k
  | [], _ => by simp [PyData.depthAll]
  | d :: ds, h => by
    have h1 := h d (List.mem_cons_self ..)
    have h2 := depthAll_of k ds (fun e he => h e (List.mem_cons_of_mem _ he))
    simp only [PyData.depthAll]
    omega

def dV : V → PyData
  | .bl b => .bool b
  | .int i => .int i
  | _ => .none
/-- None, truths and numbers -/
def plainV : V → Bool
  | .non => true
  | .bl _ => true
  | .int _ => true
  | _ => false
theorem dV_dp {K : PySem.W.Frag} {H : Hp} : ∀ v : V, plainV v = true → Dp K H v (dV v)
  | .non, _ => .non
  | .bl b, _ => .bl b
  | .int i, _ => .int i
  | .str _, h | .byt _, h | .flt _, h | .ref _, h | .ty _, h => by cases h
theorem dV_lay : ∀ v : V, (dV v).canLay0 = true ∧ (dV v).depth ≤ 1
  | .non | .bl _ | .int _ | .str _ | .byt _ | .flt _ | .ref _ | .ty _ => by simp [dV, PyData.canLay0, PyData.depth]
theorem dpAll_plain {K : PySem.W.Frag} {H : Hp} : ∀ vs : List V, (∀ v ∈ vs, plainV v = true) → DpAll K H vs (vs.map dV)
  | [], _ => .nil
  | v :: vs, h => .cons (dV_dp v (h v (List.mem_cons_self ..))) (dpAll_plain vs fun u hu => h u (List.mem_cons_of_mem _ hu))
/-- what a list of plain things, a list of such lists is as data -/
def dL (vs : List V) : PyData := .list (vs.map dV)
def dLL (vss : List (List V)) : PyData := .list (vss.map dL)
theorem dL_lay (vs : List V) : (dL vs).canLay0 = true ∧ (dL vs).depth ≤ 2 := by
  have h1 := canLayAll_of (vs.map dV) (fun d hd => by
    obtain ⟨v, _, rfl⟩ := List.mem_map.mp hd
    exact (dV_lay v).1)
  have h2 := depthAll_of 1 (vs.map dV) (fun d hd => by
    obtain ⟨v, _, rfl⟩ := List.mem_map.mp hd
    exact (dV_lay v).2)
  unfold dL
  simp only [PyData.canLay0, PyData.depth]
  exact ⟨h1, by omega⟩
theorem dLL_lay (vss : List (List V)) : (dLL vss).canLay0 = true ∧ (dLL vss).depth ≤ 3 := by
  have h1 := canLayAll_of (vss.map dL) (fun d hd => by
    obtain ⟨v, _, rfl⟩ := List.mem_map.mp hd
    exact (dL_lay v).1)
  have h2 := depthAll_of 2 (vss.map dL) (fun d hd => by
    obtain ⟨v, _, rfl⟩ := List.mem_map.mp hd
    exact (dL_lay v).2)
  unfold dLL
  simp only [PyData.canLay0, PyData.depth]
  exact ⟨h1, by omega⟩
theorem shaped_of {d : PyData} (h : d.canLay0 = true) (k : d.depth ≤ 64) : SeqAt.shaped d = true := by
  unfold SeqAt.shaped
  rw [h, decide_eq_true k]
  rfl
theorem dL_shaped (vs : List V) : SeqAt.shaped (dL vs) = true := shaped_of (dL_lay vs).1 (Nat.le_trans (dL_lay vs).2 (by decide))
theorem dLL_shaped (vss : List (List V)) : SeqAt.shaped (dLL vss) = true := shaped_of (dLL_lay vss).1 (Nat.le_trans (dLL_lay vss).2 (by decide))
theorem dL_refl (vs : List V) : (dL vs).eqv (dL vs) = true := SeqAt.eqv_refl _ (dL_lay vs).1
theorem dLL_refl (vss : List (List V)) : (dLL vss).eqv (dLL vss) = true := SeqAt.eqv_refl _ (dLL_lay vss).1

/-! ### Lists of lists in the heap -/
/-- at a a list of lists, whose items are the values vss -/
def TabV (K : PySem.W.Frag) (H : Hp) (a : Addr) (vss : List (List V)) : Prop :=
  ∃ as : List Addr, SqL K H a (as.map V.ref) ∧ as.length = vss.length ∧
    ∀ (i : Nat) (r : List V), vss[i]? = some r → ∃ b, as[i]? = some b ∧ SqL K H b r

theorem TabV.same {K : PySem.W.Frag} {H H' : Hp} {a : Addr} {vss : List (List V)} (e : Same H H') (t : TabV K H a vss) : TabV K H' a vss := by
  obtain ⟨as, h1, h2, h3⟩ := t
  refine ⟨as, e.seq h1, h2, fun i r hr => ?_⟩
  obtain ⟨b, hb, hs⟩ := h3 i r hr
  exact ⟨b, hb, e.seq hs⟩

theorem Tab.v {K : PySem.W.Frag} {H : Hp} {a : Addr} {ws : List (List Int)} (t : Tab K H a ws) : TabV K H a (ws.map fun r => r.map V.int) := by
  obtain ⟨as, h1, h2, h3⟩ := t
  refine ⟨as, h1, by rw [List.length_map]; exact h2, fun i r hr => ?_⟩
  rw [List.getElem?_map] at hr
  cases e : ws[i]? with
  | none => rw [e] at hr; cases hr
  | some q =>
    rw [e] at hr
    cases hr
    exact h3 i q e

theorem TabV.t {K : PySem.W.Frag} {H : Hp} {a : Addr} {ws : List (List Int)} (t : TabV K H a (ws.map fun r => r.map V.int)) : Tab K H a ws := by
  obtain ⟨as, h1, h2, h3⟩ := t
  refine ⟨as, h1, by rw [h2, List.length_map], fun i r hr => ?_⟩
  exact h3 i _ (by rw [List.getElem?_map, hr]; rfl)

theorem dpAll_refs {K : PySem.W.Frag} {H : Hp} : ∀ (as : List Addr) (vss : List (List V)), as.length = vss.length →
    (∀ (i : Nat) (r : List V), vss[i]? = some r → ∃ b, as[i]? = some b ∧ SqL K H b r) → (∀ r ∈ vss, ∀ v ∈ r, plainV v = true) →
    DpAll K H (as.map V.ref) (vss.map dL)
  | [], [], _, _, _ => .nil
  | [], _ :: _, h, _, _ => by cases h
  | _ :: _, [], h, _, _ => by cases h
  | a :: as, r :: vss, h, g, p => by
    obtain ⟨b, hb, hs⟩ := g 0 r rfl
    cases hb
    refine .cons (.lst hs (dpAll_plain r (p r (List.mem_cons_self ..)))) (dpAll_refs as vss (Nat.succ.inj h) (fun i q hq => ?_) fun q hq => p q (List.mem_cons_of_mem _ hq))
    exact g (i + 1) q hq

theorem TabV.dp {K : PySem.W.Frag} {H : Hp} {a : Addr} {vss : List (List V)} (t : TabV K H a vss) (p : ∀ r ∈ vss, ∀ v ∈ r, plainV v = true) : Dp K H (.ref a) (dLL vss) := by
  obtain ⟨as, h1, h2, h3⟩ := t
  exact .lst h1 (dpAll_refs as vss h2 h3 p)

theorem plain_ints (ws : List (List Int)) : ∀ r ∈ (ws.map fun r => r.map V.int), ∀ v ∈ r, plainV v = true := by
  intro r hr v hv
  obtain ⟨q, _, rfl⟩ := List.mem_map.mp hr
  obtain ⟨i, _, rfl⟩ := List.mem_map.mp hv
  rfl

theorem Tab.dp {K : PySem.W.Frag} {H : Hp} {a : Addr} {ws : List (List Int)} (t : Tab K H a ws) : Dp K H (.ref a) (dLL (ws.map fun r => r.map V.int)) := t.v.dp (plain_ints ws)

/-- a list of new objects (f r for the items r) that is being built at D: all that stood in H stands -/
def BuiltF {α : Type} (f : α → HO) (H : Hp) (D : Addr) (vss : List α) (H' : Hp) : Prop :=
  Same H H' ∧ ∃ as : List Addr, H' D = some (.lst (as.map V.ref)) ∧ as.length = vss.length ∧
    ∀ (i : Nat) (r : α), vss[i]? = some r → ∃ b, as[i]? = some b ∧ H' b = some (f r) ∧ b ≠ D ∧ H b = none

abbrev Built (H : Hp) (D : Addr) (vss : List (List V)) (H' : Hp) : Prop := BuiltF HO.lst H D vss H'

theorem built_start {α : Type} {f : α → HO} {H : Hp} {D : Addr} (h : H D = none) : BuiltF f H D [] (upd H D (.lst [])) :=
  ⟨same_new h _, [], upd_same, rfl, fun i r hr => by cases hr⟩

theorem built_step {α : Type} {f : α → HO} {H H1 H2 : Hp} {D p : Addr} {vss : List α} {r : α} (hD : H D = none) (b : BuiltF f H D vss H1) (e : Same H1 H2) (hp : H1 p = none) (hp2 : H2 p = some (f r)) :
    ∃ acc, H2 D = some (.lst acc) ∧ acc.length = vss.length ∧ BuiltF f H D (vss ++ [r]) (upd H2 D (.lst (acc ++ [.ref p]))) := by
  obtain ⟨s, as, h1, h2, h3⟩ := b
  have npD : p ≠ D := (ne_of_none h1 hp).symm
  refine ⟨_, e _ _ h1, by rw [List.length_map]; exact h2, same_put (s.trans e) hD _, as ++ [p], ?_, ?_, fun i q hq => ?_⟩
  · rw [upd_same, List.map_append]
    rfl
  · rw [List.length_append, List.length_append, h2]
    rfl
  · rw [List.getElem?_append] at hq
    rw [List.getElem?_append]
    by_cases c : i < vss.length
    · rw [if_pos c] at hq
      rw [if_pos (by rw [h2]; exact c)]
      obtain ⟨b, b1, b2, b3, b4⟩ := h3 i q hq
      exact ⟨b, b1, by rw [upd_ne b3]; exact e _ _ b2, b3, b4⟩
    · rw [if_neg c] at hq
      rw [if_neg (by rw [h2]; exact c)]
      have i0 : i - vss.length = 0 := by
        have := (List.getElem?_eq_some_iff.mp hq).1
        simp at this
        omega
      rw [i0] at hq
      cases hq
      rw [h2, i0]
      exact ⟨p, rfl, by rw [upd_ne npD]; exact hp2, npD, s.free hp⟩

theorem BuiltF.on {α : Type} {f : α → HO} {H H1 H2 : Hp} {D : Addr} {vss : List α} (B : BuiltF f H D vss H1) (e : Same H1 H2) : BuiltF f H D vss H2 := by
  obtain ⟨s, as, h1, h2, h3⟩ := B
  refine ⟨s.trans e, as, e _ _ h1, h2, fun i r hr => ?_⟩
  obtain ⟨b, b1, b2, b3, b4⟩ := h3 i r hr
  exact ⟨b, b1, e _ _ b2, b3, b4⟩

theorem Built.tab {K : PySem.W.Frag} {H H' : Hp} {D : Addr} {vss : List (List V)} (b : Built H D vss H') : TabV K H' D vss := by
  obtain ⟨s, as, h1, h2, h3⟩ := b
  refine ⟨as, SqL.of h1, h2, fun i r hr => ?_⟩
  obtain ⟨b, b1, b2, _⟩ := h3 i r hr
  exact ⟨b, b1, SqL.of b2⟩

theorem map_int_get {r : List Int} {i : Nat} {x : V} (h : (r.map V.int)[i]? = some x) : ∃ y, r[i]? = some y ∧ x = .int y := by
  rw [List.getElem?_map] at h
  cases e : r[i]? with
  | none => rw [e] at h; cases h
  | some y =>
    rw [e] at h
    exact ⟨y, rfl, (Option.some.inj h).symm⟩

theorem map_ref_get {r : List Addr} {i : Nat} {x : V} (h : (r.map V.ref)[i]? = some x) : ∃ y, r[i]? = some y ∧ x = .ref y := by
  rw [List.getElem?_map] at h
  cases e : r[i]? with
  | none => rw [e] at h; cases h
  | some y =>
    rw [e] at h
    exact ⟨y, rfl, (Option.some.inj h).symm⟩

theorem take_one {α : Type} {xs : List α} {i : Nat} {x : α} (h : xs[i]? = some x) : xs.take (i + 1) = xs.take i ++ [x] := by
  rw [List.take_add_one, h]
  rfl

theorem seqIx {i : Int} {n : Nat} (h0 : 0 ≤ i) (h1 : i < (n : Int)) : seqIndex? i n = some i.toNat := by
  have e1 : ¬ (i < 0) := by omega
  unfold seqIndex?
  simp only [if_neg e1]
  rw [decide_eq_true h0, decide_eq_true h1]
  rfl

theorem map_erase {α β : Type} (f : α → β) : ∀ (l : List α) (k : Nat), (l.map f).eraseIdx k = (l.eraseIdx k).map f
  | [], _ => rfl
  | _ :: _, 0 => rfl
  | a :: l, k + 1 => by
    show f a :: (l.map f).eraseIdx k = f a :: (l.eraseIdx k).map f
    rw [map_erase f l k]

theorem le_line {n : Nat} (h : n ≤ 1000) : n ≤ sizeLine := Nat.le_of_lt (small1000 h)

theorem cut_take (r : List Int) (k : Int) : ∃ m, cutV (r.map V.int) none (some k) = (r.take m).map V.int := by
  refine ⟨HT.sIx (r.map V.int).length (r.map V.int).length (some k) - 0, ?_⟩
  unfold cutV
  have e0 : HT.sIx (r.map V.int).length 0 none = 0 := rfl
  rw [e0, List.drop_zero, List.map_take]
/-! ### Rules within a comprehension's block, whose K is the def's -/
def rLof (K : PySem.W.Frag) : List V → Hp → VK → Prop := fun xs H Q => ∃ p ys, xs = [.ref p] ∧ (SqL K H p ys ∨ SqT K H p ys) ∧ ∀ l, H l = none → Q (.ref l) (upd H l (.lst ys))
theorem call_lof {X : Cx} {K : PySem.W.Frag} (h : X.K = K) : CallR X (.type "list") (rLof K) := by
  subst h
  exact call_list_of

theorem ix_lst {X : Cx} {K : PySem.W.Frag} (h : X.K = K) : IxR X (rIxL K) := by
  subst h
  exact ix_list
theorem in_lst {X : Cx} {K : PySem.W.Frag} (h : X.K = K) : OpR X (compareOp .In) (rIn K false) := by
  subst h
  exact op_in_seq
def rLenOf (K : PySem.W.Frag) : List V → Hp → VK → Prop := fun xs H Q => ∃ p ys, xs = [.ref p] ∧ (SqL K H p ys ∨ SqT K H p ys) ∧ Q (.int ys.length) H
theorem len_lst {X : Cx} {K : PySem.W.Frag} (h : X.K = K) : CallR X (.builtin "len") (rLenOf K) := by
  subst h
  exact call_len_seq

theorem suitsB_self {ws : List (List Int)} (hG : Good ws) {g : Int} (h0 : 0 ≤ g) (h1 : g < (ws.length : Int)) : suitsB ws g g = false := by
  have : ¬ g ∈ rowOf ws g := fun h => ((rowOf_good hG h0 h1).rg g h).2.2 rfl
  unfold suitsB
  rw [decide_eq_false this]
  rfl

end B2

namespace B2
open PySem L2 PyProof.Rows

/-! ### len(set(xs)) of any numbers -/
def metN (us : List Int) : List Int := firstMet (fun i => us.getD i 0) us.length
theorem met_full (us : List Int) : ∀ i, i ≤ us.length → (firstMet (fun i => us.getD i 0) i).length = i → (us.take i).Nodup ∧ firstMet (fun i => us.getD i 0) i = us.take i
  | 0, _, _ => ⟨List.nodup_nil, rfl⟩
  | i + 1, hi, hl => by
    have hg : us[i]? = some (us.getD i 0) := by
      rw [List.getD_eq_getElem?_getD, List.getElem?_eq_getElem (show i < us.length from hi)]
      rfl
    have hle := firstMet_length_le (fun i => us.getD i 0) i
    rw [firstMet_succ] at hl ⊢
    unfold step_dedup at hl ⊢
    by_cases c : (firstMet (fun i => us.getD i 0) i).any (fun x => x == us.getD i 0) = true
    · rw [if_pos c] at hl
      omega
    · rw [if_neg c] at hl ⊢
      rw [List.length_append, List.length_singleton] at hl
      obtain ⟨h1, h2⟩ := met_full us i (by omega) (by omega)
      rw [h2] at c ⊢
      refine ⟨?_, (take_one hg).symm⟩
      rw [take_one hg, List.nodup_append]
      refine ⟨h1, by simp, fun x hx y hy e => ?_⟩
      rw [List.mem_singleton] at hy
      exact c (List.any_eq_true.mpr ⟨x, hx, by rw [e, hy]; exact beq_self_eq_true _⟩)
theorem met_less {us : List Int} (h : ¬ us.Nodup) : (metN us).length < us.length := by
  have h1 := firstMet_length_le (fun i => us.getD i 0) us.length
  refine Classical.byContradiction fun z => h ?_
  have h2 := (met_full us us.length (Nat.le_refl _) (by unfold metN at z; omega)).1
  rw [List.take_length] at h2
  exact h2
theorem met_same {us : List Int} (h : us.Nodup) : (metN us).length = us.length := by
  unfold metN
  rw [RZ.firstMet_nodup h _ (Nat.le_refl _), List.take_length]
def tSetLen (K : PySem.W.Frag) (ta : TE) : TE := fun σ H Q => ta σ H fun x H1 => ∃ (p : Addr) (us : List Int), x = .ref p ∧ SqL K H1 p (us.map V.int) ∧ us.length ≤ 4000 ∧ Q (.int ((metN us).length : Nat)) H1
theorem pe_setLen {X : Cx} {e : Expr} {te : TE} {p1 p2 p3 p4 : Pos} (gl : Gl X "len") (ml : X.mg "len" = none) (gs : Gl X "set") (ms : X.mg "set" = none) (he : PE X e te) (calm : X.calm = true := by rfl)
    (plain : starEach [e] X.env = (false, eval e X.env) :: starEach [] X.env := by rfl) : PE X (.Call (.Name "len" p1) [.Call (.Name "set" p2) [e] [] p3] [] p4) (tSetLen X.K te) := by
  constructor
  intro pins s σ H Q inv hyp
  refine Call_ (ld_blt inv gl ml boot_len (callWith_builtin1 (args_cons ?_ rfl) rfl rfl))
  refine Call_ (ld_blt inv gs ms boot_set (callWith_type1 (args_cons ?_ plain) plain rfl))
  refine thn (he.run pins s σ H _ inv hyp) fun v s1 ⟨x, H1, inv1, rx, hx⟩ => args_nil ?_
  obtain ⟨p, us, ex, hS, small, fin⟩ := hx
  subst ex
  cases rx
  obtain ⟨vs, rv, stands, _⟩ := inv1.list hS
  have size : vs.toArray.size = us.length := by rw [List.size_toArray, ← rv.length, List.length_map]
  refine call_set_list (inv1.ok.hd calm) stands.isList (by simpa using RZ.intsAre_vals rv) (by rw [size]; unfold scanBound; omega) fun h2 tk set2 keep => args_nil ?_
  rw [size] at set2
  obtain ⟨o, es, ep, t, get, exact', dat, _, _, _, fits, count⟩ := set2
  have inv2 : Inv X pins σ H1 { s1 with heap := h2, toks := tk } := inv1.kept fun b o e => keep b o (Heap.lt_size e) e
  have few := firstMet_length_le (fun i => us.getD i 0) us.length
  have count' : es.size = (metN us).length := count
  have few' : (metN us).length ≤ us.length := few
  refine call_len_set get exact' dat fits (by rw [count'] <;> omega) ⟨.int (metN us).length, H1, inv2.tok _, ⟨_, by rw [count']⟩, fin⟩

/-! ### Texts that are put together for an error: which text does not matter -/
def Sm (t : TE) (σ : L2.St) (H : Hp) : Prop := ∀ Q : VK, (∀ y : Str, y.length ≤ 1000 → Q (.str y) H) → t σ H Q
theorem sm_str {c : Str} {σ : L2.St} {H : Hp} (h : c.length ≤ 1000) : Sm (tC (.str c)) σ H := fun Q q => q c h
theorem small_text {g : Int} (h0 : 0 ≤ g) (h7 : g ≤ 7) : (Str.ofString (toString g)).length ≤ 1000 := by
  have : g = 0 ∨ g = 1 ∨ g = 2 ∨ g = 3 ∨ g = 4 ∨ g = 5 ∨ g = 6 ∨ g = 7 := by omega
  rcases this with h | h | h | h | h | h | h | h <;> (subst h; decide +kernel)
theorem small_log {g : Int} (h0 : 0 ≤ g) (h7 : g ≤ 7) : g.natAbs.log2 < 1920 := by
  have : g = 0 ∨ g = 1 ∨ g = 2 ∨ g = 3 ∨ g = 4 ∨ g = 5 ∨ g = 6 ∨ g = 7 := by omega
  rcases this with h | h | h | h | h | h | h | h <;> (subst h; decide +kernel)
theorem sm_fmt {te : TE} {σ : L2.St} {H : Hp} {g : Int} (h : ∀ Q : VK, Q (.int g) H → te σ H Q) (h0 : 0 ≤ g) (h7 : g ≤ 7) : Sm (tFmt te) σ H := fun Q q =>
  h _ (.inr ⟨g, rfl, small_log h0 h7, q _ (small_text h0 h7)⟩)
theorem js_small {σ : L2.St} {H : Hp} : ∀ (ts : List TE) (acc : Str) (Q : Str → Hp → Prop), (∀ t ∈ ts, Sm t σ H) → acc.length + 1000 * ts.length ≤ 1000000 → (∀ out, Q out H) → tJs ts acc σ H Q
  | [], acc, Q, _, _, q => q acc
  | t :: ts, acc, Q, h, hl, q => by
    rw [List.length_cons] at hl
    show t σ H fun x H1 => ∃ y : Str, x = .str y ∧ (acc ++ y).length ≤ sizeLine ∧ tJs ts (acc ++ y) σ H1 Q
    refine h t (List.mem_cons_self ..) _ fun y hy => ⟨y, rfl, ?_, js_small ts (acc ++ y) Q (fun u hu => h u (List.mem_cons_of_mem _ hu)) ?_ q⟩
    · rw [Str.length_append]
      exact Nat.le_of_lt (by unfold sizeLine; omega)
    · rw [Str.length_append]; omega

/-! ### Own errors -/
structure ErrC (K : PySem.W.Frag) (mg : Str → Option Value) (x : Str) (C : Addr) : Prop where
  g : mg x = some (.ref C)
  ex : PySem.W.excIn K C [.type "ValueError", .type "Exception", .type "BaseException", .type "object"] "ValueError.__new__" = true
  k : PySem.W.keepIn K (.ref C) = true
  b : PySem.W.subIn K (.ref C) (.type "BaseException") = some true
  t : PySem.W.typeIn K (.ref C) = some (.type "type")

/-- what a caller wants of a def that may raise -/
structure CalX (P : Program) (w : World) (K : PySem.W.Frag) (mg : Str → Option Value) (base : Heap) (k : Nat) (x : Str) (ps : List Str) (sp : Sp) : Prop where
  ex : ∃ (g : Addr) (gd : FuncData), FnOk P w K mg base (L2N.CX P w) k g gd ps sp ∧ mg x = some (.ref g) ∧ PySem.W.keepIn K (.ref g) = true ∧ Binds K gd ps []

/-- isinstance of the error that a suite holds -/
def rIsEG (K : PySem.W.Frag) (cls : Value) (d : Option Addr) (a : Addr) : List V → Hp → VK → Prop := fun xs H Q => ∃ D, cls = .ref D ∧ d = none ∧ ExcC K D ∧ rIsE K D a xs H Q
theorem call_isEG {X : Cx} {K : PySem.W.Frag} (hK : X.K = K) {a : Addr} {oe : Obj} {cls : Value} {d : Option Addr} {pn : List (Addr × Obj)} (hz : Zc cls d oe) (hf : ∃ vs, oe.data = .fields vs) :
    CallR (X.suite a ((a, oe) :: pn)) (.builtin "isinstance") (rIsEG K cls d a) := by
  subst hK
  rintro pins s σ H xs us Q I r ⟨D, e1, e2, C, h⟩
  subst e1 e2
  exact call_isE C hz hf pins s σ H xs us Q I r h
/-- .. against a tuple of classes that was just laid -/
def rIsET (K : PySem.W.Frag) (cls : Value) (d : Option Addr) (a : Addr) : List V → Hp → VK → Prop := fun xs H Q => ∃ D, cls = .ref D ∧ d = none ∧ ExcC K D ∧
  ∃ (tp : Addr) (cs : List V) (ws : List Value) (b : Bool), xs = [.ref a, .ref tp] ∧ H tp = some (.tup cs) ∧ Paired ClsV cs ws ∧ PySem.W.kitAny K (.ref D) ws = some b ∧ Q (.bl b) H
theorem call_isET {X : Cx} {K : PySem.W.Frag} (hK : X.K = K) {a : Addr} {oe : Obj} {cls : Value} {d : Option Addr} {pn : List (Addr × Obj)} (hz : Zc cls d oe) (hf : ∃ vs, oe.data = .fields vs) :
    CallR (X.suite a ((a, oe) :: pn)) (.builtin "isinstance") (rIsET K cls d a) := by
  subst hK
  rintro pins s σ H xs us Q I r ⟨D, e1, e2, C, tp, cs, ws, b, e3, hT, pr, hk, q⟩
  subst e1 e2 e3
  obtain ⟨u1, u2, e4, r1, r2⟩ := vals2 r
  subst e4
  cases r1
  cases (show u2 = Value.ref tp from r2)
  obtain ⟨here, _⟩ := I.pin (a, oe) (List.mem_append.mpr (.inl List.mem_cons_self))
  obtain ⟨vs, dat⟩ := hf
  have inst : PySem.W.InstAt s.heap a oe D none := by
    obtain ⟨oc, od, oda, osl⟩ := oe
    obtain ⟨z1, z2⟩ := hz
    dsimp only at z1 z2 dat
    subst z1 z2 dat
    exact ⟨here, rfl, rfl, trivial⟩
  obtain ⟨_, its, rv, o, g1, g2, n, g3⟩ := (show ObjOk X.prog X.w H s.heap tp (.tup cs) from I.hok tp _ hT)
  have e5 := ClsV.all pr rv
  subst e5
  obtain ⟨oc, od, dt, sl⟩ := o
  simp only at g2 g3
  subst g2 g3
  exact PySem.W.kia_tup (PySem.W.handS_kitx_exc C.hg C.hk C.hs C.hd C.ha C.hn C.ht C.hm) I.kIn inst g1 hk (fun z => nomatch z) fun tk => ⟨.bl b, H, I.kept (t' := tk) fun _ _ z => z, rfl, q⟩

/-- an own class: what isinstance and except say of it -/
structure ClsK (K : PySem.W.Frag) (C : Addr) : Prop where
  d : PySem.W.hasDictIn K C = true
  t : PySem.W.typeIn K (.ref C) = some (.type "type")
  b : PySem.W.subIn K (.ref C) (.type "BaseException") = some true
theorem kit_own {K : PySem.W.Frag} {C D : Addr} {b : Bool} (c : ClsK K C) (s : PySem.W.subIn K (.ref D) (.ref C) = some b) (self : PySem.W.subIn K (.ref D) (.ref D) = some true) : PySem.W.kitOne K (.ref D) (.ref C) = some b := by
  unfold PySem.W.kitOne
  by_cases e : ((Value.ref D : Value) == .ref C) = true
  · rw [if_pos e]
    have e2 : D = C := Value.ref.inj (beq_iff_eq.mp e)
    subst e2
    rw [self] at s
    exact s
  · rw [if_neg e]
    obtain ⟨cd, hc, _⟩ := PySem.W.any_some c.d
    have e2 : ((PySem.W.clsIn K C).isSome && PySem.W.typeIn K (.ref C) == some (.type "type")) = true := by rw [hc, c.t]; rfl
    show (if ((PySem.W.clsIn K C).isSome && PySem.W.typeIn K (.ref C) == some (.type "type")) = true then PySem.W.subIn K (.ref D) (.ref C) else none) = some b
    rw [if_pos e2]
    exact s
theorem kit_val {K : PySem.W.Frag} {D : Addr} (s : PySem.W.subIn K (.ref D) (.type "ValueError") = some true) : PySem.W.kitOne K (.ref D) (.type "ValueError") = some true := by
  unfold PySem.W.kitOne
  have e : ((Value.ref D : Value) == .type "ValueError") = false := by
    apply beq_eq_false_iff_ne.mpr
    intro z
    cases z
  rw [e, if_neg Bool.false_ne_true]
  show (if PySem.W.kitMeta "ValueError" = true then PySem.W.subIn K (.ref D) (.type "ValueError") else none) = some true
  rw [if_pos (by decide +kernel)]
  exact s
theorem exm_own {K : PySem.W.Frag} {C : Addr} {cls : Value} {b : Bool} (c : ClsK K C) (s : PySem.W.subIn K cls (.ref C) = some b) : PySem.W.exmOne K cls (.ref C) = some b := PySem.W.exm_ref c.b c.d c.t s
theorem any_no {K : PySem.W.Frag} {t c : Value} {r : List Value} {b : Bool} (h : PySem.W.kitOne K t c = some false) (h2 : PySem.W.kitAny K t r = some b) : PySem.W.kitAny K t (c :: r) = some b := by
  unfold PySem.W.kitAny
  rw [h]
  exact h2
end B2

namespace L2
open PySem PySem.Spec PyProof.Rows
/-- a def that may raise; of its errors it is known that they hang on no other -/
theorem Fun.okN {P : Program} {w : World} {K : PySem.W.Frag} {mg : Str → Option Value} {base : Heap} {nm full : Str} {stm : Stmt} {adr : Addr} {dat : FuncData} {names given : List Str} {lv : Nat} {pr : Sp}
    (D : Fun K nm full stm adr dat) (sc : FnScope names given (defScope stm)) (few : ∀ vs H Q E, pr vs H Q E → vs.length = given.length)
    (does : ∀ (cdv : Value) (A : Around) (outer : List Env) (s : Shared) (H : Hp) (vs : List V) (Q : VK) (E : XK), Room lv (A.deeper (envOfC full (defScope stm) s.heap.objs.size adr cdv)) → pr vs H Q E →
      ∃ tr, PSs (cxOf (L2N.CX P w) P w K mg base names full (defScope stm) adr cdv A outer s H E) (defBody stm) tr ∧ tr { nx := fun _ H2 => Q .non H2, rt := Q } (start names vs) H) : FnOk P w K mg base (L2N.CX P w) (lv + 1) adr dat given pr := by
  obtain ⟨_, _, _, _, _, _, code, _, _, e, stands, here⟩ := D.ex
  subst e
  exact fn_of stands here sc few fun A out s H vs Q E room ask => does code A out s H vs Q E room ask
end L2
namespace B2
open PySem PySem.Spec PyProof.Rows L2
theorem takesN0 {X : Cx} : L2N.Takes X (fun _ _ _ _ => False) := fun u t air => by
  obtain ⟨_, _, _, _, _, _, _, _, _, _, _, _, _, _, _, _, never⟩ := air
  exact never.elim
/-- a new error of an own class, with what it tells -/
theorem pmk_ownAN {X : Cx} {pos : Pos} {cls : Addr} {tail : List Value} {Bn newN initN : String} {nm : Str} {at_ : Pos} {e1 : Expr} {more : List Expr} {ta : TA} (facts : ExcBaseFacts Bn newN initN tail) (isx : PySem.W.excIn X.K cls tail newN = true)
    (stands : X.mg nm = some (.ref cls)) (kept : PySem.W.keepIn X.K (.ref cls) = true) (rs : Raises X (.ref cls)) (glob : Gl X nm) (args : PA X (e1 :: more) ta) (nodb : (nm == ("__debug__" : Str)) = false := by decide)
    (nostar : starEach (e1 :: more) X.env = (false, eval e1 X.env) :: starEach more X.env := by rfl) (nostar2 : (backTo pos (starEach more X.env)).any (·.1) = false := by rfl) :
    L2N.PMk X (.Call (.Name nm at_) (e1 :: more) [] pos) (fun σ H Q => ta σ H fun vs H2 => vs.length ≤ sizeLine ∧ Q (.ref cls) none H2) := by
  intro pins s σ H Q inv ask
  refine wpAny_Call_Name_kw (ld_glob inv glob stands ?_ nodb)
  have step := args.run pos pins s σ H _ inv ask
  refine PySem.W.callWith_K (h₀ := X.base) inv.ok.mod.kin kept (thn step fun us t got => ?_) nostar nostar2
  obtain ⟨vs, H2, inv2, rel, small, ask2⟩ := got
  refine ⟨inv2.kIn, ?_⟩
  show wpAny _ _ (call (.ref cls) us) _ _ _
  obtain ⟨_, _, _, _, _, _, _, _, _, _, _, _, _, _, _, _, _, hC, hN, hni, Tl⟩ := exc_obj inv2.kIn isx
  exact wpAny_call_exc_subT facts Tl hC hN hni (fun h2 e made => L2N.mk_of inv2 made rs ask2 (inv2.hok.gone made.new)) (by rw [← rel.length]; exact small)
/-- in an except suite: what is handled hangs on no other -/
theorem hot_suite {X : Cx} {a : Addr} {oe : Obj} {cls : Value} {d : Option Addr} {pn : List (Addr × Obj)} (z : L2N.Zn cls d oe) (f : ∃ vs, oe.data = .fields vs) : L2H.HotC (X.suite a ((a, oe) :: pn)) := by
  obtain ⟨vs, e⟩ := f
  exact ⟨(a, oe), ⟨rfl, vs, e, z.2.2 vs e⟩, List.mem_cons_self⟩

/-! ### A list comprehension in an except suite -/
/-- the block's context, the handled error p pinned -/
abbrev hotBlk (X : Cx) (s : Shared) (H : Hp) (scope : Scope) (ce : Env) (fp : List Addr) (p : Addr × Obj) : Cx := (X.blk s H scope ce fp).tr [p] (fun _ _ => False)
theorem pe_lcH {X : Cx} {elt tg iter : Expr} {ifs : List Expr} {scope : Scope} {own : List (Str × Nat)} {pos : Pos} {wi : TI} {g : TG} {tt : TT} {te : TE} (hot : L2H.HotC X) (nd : X.N.Nodup) (walked : L2H.PIH X tg iter wi) (ok : BlkOk X.N X.env.scope scope own)
    (rg : ∀ (s : Shared) (H : Hp) (C : Addr) (cl : List (Str × Addr)) (fp : List Addr) (p : Addr × Obj), PG (hotBlk X s H scope (compEnvC scope cl C X.env) fp p) tg g)
    (rt : ∀ (s : Shared) (H : Hp) (C : Addr) (cl : List (Str × Addr)) (fp : List Addr) (p : Addr × Obj), PTs (hotBlk X s H scope (compEnvC scope cl C X.env) fp p) ifs tt)
    (re : ∀ (s : Shared) (H : Hp) (C : Addr) (cl : List (Str × Addr)) (fp : List Addr) (p : Addr × Obj), PE (hotBlk X s H scope (compEnvC scope cl C X.env) fp p) elt te)
    (unfolded : ∀ x, foldedSetIterable iter X.env x = pure x := by intro _; rfl) : PE X (.ListComp elt [⟨tg, iter, ifs, 0⟩] scope pos) (tLc wi g tt te (own.map (·.2))) := by
  constructor
  intro pins s σ H Q inv ask
  obtain ⟨p, hot1, pin⟩ := hot
  rw [eval_ListComp]
  have free : ∀ y ∈ scope.names, y.2 = .free → ∃ c, X.env.cells.lookup y.1 = some c := by
    intro y hy e
    exact (ok.free y hy e).elim (fun k => inv.ok.has _ (.inl k)) fun k => inv.ok.has _ (.inr k)
  have names : ∀ y ∈ scope.names, y.2 = .local → scope.names.lookup y.1 = some .local := by
    intro y hy e
    rw [ok.uniq y hy, e]
  refine wpAny_comprehension_free (use := none) rfl unfolded (closure_ok free) ok.kind names ?_
  refine thn (walked.run pins s σ H _ inv ask) fun v s1 h1 => thn h1 fun w s2 h2 => ?_
  obtain ⟨it, fp, tn, J, H2, e, inv2, T, t0, fresh, wish⟩ := h2
  subst e
  refine wpAny_newObj_type (newEnv_comp ?_) (by show 0 ≤ sizeLine; decide)
  have newD : H2 s2.heap.objs.size = none := inv2.hok.fresh (Nat.le_refl _)
  obtain ⟨W, ⟨m0, w0⟩, turns⟩ := wish _ newD
  obtain ⟨D, eD⟩ : ∃ D, D = s2.heap.objs.size := ⟨_, rfl⟩
  rw [← eD] at newD w0 turns ⊢
  obtain ⟨H3, e6⟩ : ∃ H3 : Hp, H3 = upd H2 D (.lst []) := ⟨_, rfl⟩
  rw [← e6] at w0
  -- the state with the new list
  obtain ⟨s3, e3⟩ : ∃ s3 : Shared, s3 = { s2 with heap := s2.heap.push { cls := .type "list", data := .seq ([] : List Value).toArray } } := ⟨_, rfl⟩
  have grown : s3.heap = s2.heap.push { cls := .type "list", data := .seq ([] : List Value).toArray } := by rw [e3]
  have inv3 : Inv X pins σ H3 s3 := by
    subst e3 e6
    refine inv2.laid (t' := s2.toks) (fun b o e => Heap.get?_push_of_some _ e) (Nat.le_of_eq eD.symm) ⟨Nat.zero_le _, [], 0, .nil, ?_⟩
    subst eD
    exact Heap.get?_push_size _ rfl
  have below : ∀ b, b < s2.heap.objs.size → b < s3.heap.objs.size := fun b h => by rw [grown, Heap.size_push]; exact Nat.lt_succ_of_lt h
  have notD : ∀ b, b < s2.heap.objs.size → b ≠ D := fun b h z => by rw [z, eD] at h; exact Nat.lt_irrefl _ h
  have stay3 : ∀ b o, s2.heap.get? b = some o → s3.heap.get? b = some o := fun b o e => by rw [grown]; exact Heap.get?_push_of_some _ e
  have fpLt : ∀ b ∈ fp, b < s2.heap.objs.size := fun b hb => by
    obtain ⟨_, e, _⟩ := T.obj _ _ t0 b hb
    exact Heap.lt_size e
  have fp3 : ∀ b ∈ fp, FpOk X pins H3 b ∧ b < s3.heap.objs.size := fun b hb =>
    ⟨⟨(by rw [e6]; exact (upd_ne (notD b (fpLt b hb))).trans (fresh b hb).1), (fresh b hb).2⟩, below b (fpLt b hb)⟩
  have t3 : tn 0 s3.heap := T.keep _ _ _ t0 fun b _ o e => stay3 b o e
  have start4 := block_start inv3 ok nd fp3
  -- the handled error, as it stands there
  obtain ⟨pe1, pe2, pe3, pe4, pe5⟩ := inv2.pin p (List.mem_append_left _ pin)
  have pLt := Heap.lt_size pe1
  obtain ⟨cells, ec⟩ : ∃ cells, cells = cellsFrom (s3.heap.objs.size + 1) scope.names (cloFrom X.env.cells scope.names []) := ⟨_, rfl⟩
  obtain ⟨ce, ee⟩ : ∃ ce, ce = compEnvC scope cells s3.heap.objs.size X.env := ⟨_, rfl⟩
  have rgC := rg s3 H3 s3.heap.objs.size cells fp p
  have rtC := rt s3 H3 s3.heap.objs.size cells fp p
  have reC := re s3 H3 s3.heap.objs.size cells fp p
  rw [← ec, ← ee] at start4
  rw [← ee] at rgC rtC reC
  have locC : ce.locals = s3.heap.objs.size := by rw [ee]; rfl
  rw [← grown]
  show codeAny _ _ (.compStart (.ListComp elt [⟨tg, iter, ifs, 0⟩] scope pos) 0 (.ref it) (.ref D) (compEnvC scope (cellsFrom (s3.heap.objs.size + 1) scope.names (cloFrom X.env.cells scope.names [])) s3.heap.objs.size X.env))
    (compPost (model X.prog X.w) X.A X.xe none (EP X pins σ Q) (.ref D) s3.heap.objs.size) { s2 with heap := pushCells (s3.heap.push { cls := .type "dict", data := .dict #[] }) scope.names }
  have e34 : ({ s2 with heap := pushCells (s3.heap.push { cls := .type "dict", data := .dict #[] }) scope.names } : Shared) = { s3 with heap := pushCells (s3.heap.push { cls := .type "dict", data := .dict #[] }) scope.names } := by rw [e3]
  rw [e34, ← ec, ← ee]
  obtain ⟨s4, e4⟩ : ∃ s4 : Shared, s4 = { s3 with heap := pushCells (s3.heap.push { cls := .type "dict", data := .dict #[] }) scope.names } := ⟨_, rfl⟩
  rw [← e4] at start4 ⊢
  have stay4 : ∀ b o, s3.heap.get? b = some o → s4.heap.get? b = some o := fun b o e => by rw [e4]; exact pushCells_keeps _ _ _ _ (Heap.get?_push_of_some _ e)
  have t4 : tn 0 s4.heap := T.keep _ _ _ t3 fun b _ o e => stay4 b o e
  have pinned4 : Inv (X.blk s3 H3 scope ce fp) [p] (wipe σ (own.map (·.2))) H3 s4 := by
    refine ⟨start4.ok, start4.os, start4.bare, start4.base, start4.loc, start4.cell, start4.free, start4.freeC, fun q hq => ?_, start4.hok, start4.len⟩
    obtain rfl := List.mem_singleton.mp (show q ∈ [p] from hq)
    refine ⟨stay4 _ _ (stay3 _ _ pe1), (by rw [e6]; exact (upd_ne (notD _ pLt)).trans pe2), ?_, fun z => ?_, pe5⟩
    · show q.1 ≠ ce.locals
      rw [locC]
      exact Nat.ne_of_lt (below _ pLt)
    · exact (List.mem_cons.mp (inv3.stkSub q.1 z)).elim pe3 pe4
  have inv4 : Inv (hotBlk X s3 H3 scope ce fp p) [] (wipe σ (own.map (·.2))) H3 s4 := pinned4.toTry fun _ _ => False
  have hotB : L2H.HotC (hotBlk X s3 H3 scope ce fp p) := ⟨p, hot1, List.mem_cons_self⟩
  have free3 : ∀ b ∈ fp, H3 b = none := fun b hb => (fp3 b hb).1.1
  -- the iterator's objects may turn
  have may : ∀ {σ' : L2.St} {H' : Hp} {s' : Shared}, Inv (hotBlk X s3 H3 scope ce fp p) [] σ' H' s' → (∀ b ∈ fp, H' b = none) → ∀ b ∈ fp, FpOk (hotBlk X s3 H3 scope ce fp p) [] H' b := by
    intro σ' H' s' I' no b hb
    refine ⟨no b hb, (I'.ok.exf b hb).1, I'.ok.exfs b hb, .inl hb, fun x c e => (I'.ok.exf b hb).2 x c e, fun q hq z => ?_⟩
    obtain rfl := List.mem_singleton.mp (show q ∈ [p] from by simpa using hq)
    exact (fp3 b hb).1.2.2.2.2.2 q (List.mem_append_left _ pin) z
  refine codeAny_compStart_list ?_ (T.self X.A 0 _ _ _ t4 ?_) <;>
  · refine compLoop_any (fun n s' => ∃ i H', Inv (hotBlk X s3 H3 scope ce fp p) [] (wipe σ (own.map (·.2))) H' s' ∧ tn i s'.heap ∧ (∀ b ∈ fp, H' b = none) ∧ W i n H') ?_ m0 ⟨0, H3, inv4, t4, free3, w0⟩
    rintro n s5 ⟨i, H5, I5, t5, n5, w5⟩
    rcases turns i n H5 w5 with ⟨stop, fin⟩ | ⟨go, Nx, onward, step⟩
    · have last := T.done (hotBlk X s3 H3 scope ce fp p) rfl rfl rfl hotB i [] s5 _ H5 (fun _ _ => False) I5 (may I5 n5) t5 stop
      refine thnF last fun r s6 ⟨er, I6⟩ => ?_
      subst er
      -- again the def's own context
      have back : Inv X pins σ H5 s6 := inv3.call' (ch := fp) I6.os I6.base I6.hok I6.bare fun b hb => ⟨(fp3 b hb).1.2.2.2.1, (fp3 b hb).1.2.1, (fp3 b hb).1.2.2.2.2.1, (fp3 b hb).1.2.2.2.2.2⟩
      have noC : H5 s3.heap.objs.size = none := by rw [← locC]; exact I6.free
      obtain ⟨m, ns, _⟩ := I6.loc
      have ns : s6.heap.Ns ce.locals m := ns
      rw [locC] at ns
      refine ⟨m, ns, fun h6 only => ?_⟩
      obtain ⟨a0, a1, a2, a3, a4, a5⟩ := inv3.fpOk (H' := H5) (Nat.le_refl _) noC
      exact ⟨.ref D, H5, back.turned (t' := s6.toks) (fun b o hb e => (only.2 b hb).trans e) a0 a1 a3 a4 a5, rfl, fin⟩
    · have next := T.item (hotBlk X s3 H3 scope ce fp p) rfl rfl rfl hotB i [] s5 _ H5 (fun _ _ => False) I5 (may I5 n5) t5 go
      refine thnF next fun r s6 ⟨u, er, h6⟩ => ?_
      subst er
      refine thnF h6 fun _ s7 ⟨x, H7, I7, r7, y7, t7, n7⟩ => ?_
      have held := I7.pinned (may I7 n7) (T.obj _ _ t7)
      refine thnF (rgC.run _ s7 _ H7 x u _ held r7 (step x H7 y7)) fun _ s8 ⟨σ8, H8, I8, same8, q8⟩ => ?_
      refine thnF (rtC.run _ s8 σ8 H8 _ I8 q8) fun b s9 ⟨H9, I9, q9⟩ => ?_
      have again : ∀ {s' : Shared} {H' : Hp}, Inv (hotBlk X s3 H3 scope ce fp p) ([] ++ pinsAt fp s7.heap) σ8 H' s' → Nx H' → ∃ m, m < n ∧ ∃ i H', Inv (hotBlk X s3 H3 scope ce fp p) [] (wipe σ (own.map (·.2))) H' s' ∧ tn i s'.heap ∧ (∀ b ∈ fp, H' b = none) ∧ W i m H' := by
        intro s' H' I' nx
        obtain ⟨m', less, w'⟩ := onward H' nx
        have stands : ∀ b ∈ fp, ∀ o, s7.heap.get? b = some o → s'.heap.get? b = some o ∧ H' b = none := fun b hb o e =>
          have z := I'.pin (b, o) (List.mem_append_right _ (List.mem_append_right _ (mem_pinsAt hb e)))
          ⟨z.1, z.2.1⟩
        refine ⟨m', less, i + 1, H', (I'.unpinned (pins := [])).weak (by rw [← same8, wipe_length]) (fun j v e => ?_), T.keep _ _ _ t7 fun b hb o e => (stands b hb o e).1, fun b hb => ?_, w'⟩
        · rw [← same8] at e
          exact (wipe_some e).1
        · obtain ⟨o, e, _⟩ := T.obj _ _ t7 b hb
          exact (stands b hb o e).2
      cases b with
      | false => exact again I9 q9
      | true =>
        refine thnF (reC.run _ s9 σ8 H9 _ I9 q9) fun z s10 ⟨yv, H10, I10, r10, acc, at10, small, nx⟩ => ?_
        exact app_ok (X := hotBlk X s3 H3 scope ce fp p) I10 at10 small r10 fun s11 I11 => again I11 nx
end B2

namespace B2
open PySem L2

/-- a walk within a comprehension, a loop: what holds between the turns -/
theorem in_it {J : It} {n : Nat} {G : Hp → Prop} {Y : Nat → Hp → V → Hp → Prop} (w : Walk J n G Y) {H1 : Hp} {Qd : Hp → Prop} {Body : (Hp → Prop) → V → Hp → Prop} (Pv : Nat → Hp → Prop)
    (h0 : Pv 0 H1) (hG : ∀ i H, i ≤ n → Pv i H → G H) (hs : ∀ i x H H', i < n → Pv i H → Y i H x H' → Body (Pv (i + 1)) x H') (hd : ∀ H, Pv n H → Qd H) :
    ∃ W : Nat → Nat → Hp → Prop, (∃ m, W 0 m H1) ∧ ∀ j k H, W j k H → (J.stop j H ∧ Qd H) ∨ (J.go j H ∧ ∃ Nx : Hp → Prop, (∀ H', Nx H' → ∃ k', k' < k ∧ W (j + 1) k' H') ∧ ∀ x H', J.yld j H x H' → Body Nx x H') := by
  refine ⟨fun j k H => k = n - j ∧ j ≤ n ∧ Pv j H, ⟨n, rfl, Nat.zero_le _, h0⟩, ?_⟩
  rintro j k H ⟨rfl, hj, p⟩
  have g := hG j H hj p
  by_cases c : j < n
  · refine .inr ⟨w.goes j H c g, Pv (j + 1), fun H' p' => ⟨n - (j + 1), by omega, rfl, c, p'⟩, fun x H' y => ?_⟩
    exact hs j x H H' c p (w.yields j H x H' c g y)
  · have e : j = n := by omega
    subst e
    exact .inl ⟨w.stops H g, hd H p⟩

/-! ### Mates -/
def mt (ms : List (Option Int)) (i : Int) : Option Int := ms.getD i.toNat none

structure OkMates (ws : List (List Int)) (ms : List (Option Int)) : Prop where
  len : ms.length = ws.length
  pr : ∀ i m : Int, 0 ≤ i → i < (ws.length : Int) → mt ms i = some m → 0 ≤ m ∧ m < (ws.length : Int) ∧ mt ms m = some i ∧ suitsB ws i m = true

theorem mt_get {ms : List (Option Int)} {i : Int} (h0 : 0 ≤ i) (h1 : i < (ms.length : Int)) : ms[i.toNat]? = some (mt ms i) := by
  have h : i.toNat < ms.length := by omega
  unfold mt
  rw [List.getD_eq_getElem?_getD, List.getElem?_eq_getElem h]
  rfl

theorem mt_at {ms : List (Option Int)} {i : Int} (h0 : 0 ≤ i) (h1 : i < (ms.length : Int)) : atI (ms.map ov) i = some (ov (mt ms i)) := by
  have e : i = ((i.toNat : Nat) : Int) := by omega
  have h : atI (ms.map ov) ((i.toNat : Nat) : Int) = some (ov (mt ms i)) := atI_nat (by rw [List.getElem?_map, mt_get h0 h1]; rfl)
  rw [← e] at h
  exact h

theorem OkMates.oko {ws : List (List Int)} {ms : List (Option Int)} (o : OkMates ws ms) {i : Int} (h0 : 0 ≤ i) (h1 : i < (ws.length : Int)) : OkO ws.length (mt ms i) := by
  cases e : mt ms i with
  | none => trivial
  | some m =>
    have := o.pr i m h0 h1 e
    exact ⟨this.1, this.2.1⟩

def tupO (p : Int × Int) : HO := .tup [.int p.1, .int p.2]

/-- the two are restless -/
def wild (ws : List (List Int)) (ms : List (Option Int)) (i j : Int) : Bool := aheadB ws i (some j) (mt ms i) && aheadB ws j (some i) (mt ms j)
/-- the restless pairs of i and the t guests behind it -/
def wildIn (ws : List (List Int)) (ms : List (Option Int)) (i : Nat) : Nat → List (Int × Int)
  | 0 => []
  | t + 1 => wildIn ws ms i t ++ (if wild ws ms (i : Int) ((i : Int) + 1 + (t : Int)) = true then [((i : Int), (i : Int) + 1 + (t : Int))] else [])
/-- the restless pairs of the first k guests, of n -/
def wildUp (ws : List (List Int)) (ms : List (Option Int)) (n : Nat) : Nat → List (Int × Int)
  | 0 => []
  | k + 1 => wildUp ws ms n k ++ wildIn ws ms k (n - (k + 1))
def wildAll (ws : List (List Int)) (ms : List (Option Int)) : List (Int × Int) := wildUp ws ms ws.length ws.length

theorem wildIn_le (ws : List (List Int)) (ms : List (Option Int)) (i : Nat) : ∀ t, (wildIn ws ms i t).length ≤ t
  | 0 => Nat.le_refl _
  | t + 1 => by
    have := wildIn_le ws ms i t
    unfold wildIn
    rw [List.length_append]
    split
    · rw [List.length_singleton]; omega
    · rw [List.length_nil]; omega
theorem wildUp_le (ws : List (List Int)) (ms : List (Option Int)) (n : Nat) : ∀ k, (wildUp ws ms n k).length ≤ k * n
  | 0 => Nat.zero_le _
  | k + 1 => by
    have h1 := wildUp_le ws ms n k
    have h2 := wildIn_le ws ms k (n - (k + 1))
    unfold wildUp
    rw [List.length_append, Nat.succ_mul]
    omega

theorem flat_ovs (ms : List (Option Int)) : ∀ v ∈ ms.map ov, plainV v = true := by
  intro v hv
  obtain ⟨i, _, rfl⟩ := List.mem_map.mp hv
  cases i <;> rfl

/-! ### Pairs as data -/
def dP (p : Int × Int) : PyData := .tuple [.int p.1, .int p.2]
def dPs (ps : List (Int × Int)) : PyData := .list (ps.map dP)
theorem dP_lay (p : Int × Int) : (dP p).canLay0 = true ∧ (dP p).depth ≤ 2 := by
  simp [dP, PyData.canLay0, PyData.canLayAll0, PyData.depth, PyData.depthAll]
theorem dPs_lay (ps : List (Int × Int)) : (dPs ps).canLay0 = true ∧ (dPs ps).depth ≤ 3 := by
  have h1 := canLayAll_of (ps.map dP) (fun d hd => by
    obtain ⟨v, _, rfl⟩ := List.mem_map.mp hd
    exact (dP_lay v).1)
  have h2 := depthAll_of 2 (ps.map dP) (fun d hd => by
    obtain ⟨v, _, rfl⟩ := List.mem_map.mp hd
    exact (dP_lay v).2)
  unfold dPs
  simp only [PyData.canLay0, PyData.depth]
  exact ⟨h1, by omega⟩
theorem dPs_shaped (ps : List (Int × Int)) : SeqAt.shaped (dPs ps) = true := shaped_of (dPs_lay ps).1 (Nat.le_trans (dPs_lay ps).2 (by decide))
theorem dPs_refl (ps : List (Int × Int)) : (dPs ps).eqv (dPs ps) = true := SeqAt.eqv_refl _ (dPs_lay ps).1
theorem dPs_nil (ps : List (Int × Int)) : (dPs ps).eqv (dPs []) = ps.isEmpty := by
  cases ps <;> simp [dPs, PyData.eqv, PyData.eqvAll]

/-- at a a list of pairs -/
def PrsAt (H : Hp) (a : Addr) (ps : List (Int × Int)) : Prop :=
  ∃ as : List Addr, H a = some (.lst (as.map V.ref)) ∧ as.length = ps.length ∧ ∀ (i : Nat) (p : Int × Int), ps[i]? = some p → ∃ b, as[i]? = some b ∧ H b = some (tupO p)
theorem PrsAt.same {H H' : Hp} {a : Addr} {ps : List (Int × Int)} (e : Same H H') (t : PrsAt H a ps) : PrsAt H' a ps := by
  obtain ⟨as, h1, h2, h3⟩ := t
  refine ⟨as, e _ _ h1, h2, fun i r hr => ?_⟩
  obtain ⟨b, hb, hs⟩ := h3 i r hr
  exact ⟨b, hb, e _ _ hs⟩
theorem BuiltF.prs {H H' : Hp} {D : Addr} {ps : List (Int × Int)} (b : BuiltF tupO H D ps H') : PrsAt H' D ps := by
  obtain ⟨s, as, h1, h2, h3⟩ := b
  refine ⟨as, h1, h2, fun i r hr => ?_⟩
  obtain ⟨b, b1, b2, _⟩ := h3 i r hr
  exact ⟨b, b1, b2⟩
theorem dpAll_prs {K : PySem.W.Frag} {H : Hp} : ∀ (as : List Addr) (ps : List (Int × Int)), as.length = ps.length →
    (∀ (i : Nat) (p : Int × Int), ps[i]? = some p → ∃ b, as[i]? = some b ∧ H b = some (tupO p)) → DpAll K H (as.map V.ref) (ps.map dP)
  | [], [], _, _ => .nil
  | [], _ :: _, h, _ => by cases h
  | _ :: _, [], h, _ => by cases h
  | a :: as, r :: ps, h, g => by
    obtain ⟨b, hb, hs⟩ := g 0 r rfl
    cases hb
    exact .cons (.tup (SqT.of hs) (.cons (.int _) (.cons (.int _) .nil))) (dpAll_prs as ps (Nat.succ.inj h) fun i q hq => g (i + 1) q hq)
theorem PrsAt.dp {K : PySem.W.Frag} {H : Hp} {a : Addr} {ps : List (Int × Int)} (t : PrsAt H a ps) : Dp K H (.ref a) (dPs ps) := by
  obtain ⟨as, h1, h2, h3⟩ := t
  exact .lst (SqL.of h1) (dpAll_prs as ps h2 h3)
end B2

namespace B2
open PySem L2

/-! ### All mates -/
def joinL (ms : List (Option Int)) (g o : Int) : List (Option Int) := (ms.set g.toNat (some o)).set o.toNat (some g)
def joinsL (ws : List (List Int)) (ms : List (Option Int)) (g : Nat) : Nat → List (List (Option Int))
  | 0 => []
  | t + 1 => joinsL ws ms g t ++ (if (mt ms ((g : Int) + 1 + (t : Int)) = none ∧ suitsB ws (g : Int) ((g : Int) + 1 + (t : Int)) = true) then [joinL ms (g : Int) ((g : Int) + 1 + (t : Int))] else [])
/-- what may come of these mates by what guest g does, behind that it stays as it is -/
def moreL (ws : List (List Int)) (ms : List (Option Int)) (g : Nat) : List (List (Option Int)) := if mt ms (g : Int) = none then joinsL ws ms g (ws.length - (g + 1)) else []
def settledL (ws : List (List Int)) (ms : List (Option Int)) (g : Nat) : List (List (Option Int)) := ms :: moreL ws ms g
def stageL (ws : List (List Int)) : Nat → List (List (Option Int))
  | 0 => [List.replicate ws.length none]
  | g + 1 => (stageL ws g).flatMap fun ms => settledL ws ms g
def allTwos (ws : List (List Int)) : List (List (Option Int)) := stageL ws ws.length
def allCalm (ws : List (List Int)) : List (List (Option Int)) := (allTwos ws).filter fun ms => (wildAll ws ms).isEmpty

theorem mt_none (n : Nat) (i : Int) : mt (List.replicate n none) i = none := by
  unfold mt
  rw [List.getD_eq_getElem?_getD, List.getElem?_replicate]
  split <;> rfl
theorem mt_set {ms : List (Option Int)} {k : Nat} {v : Option Int} {i : Int} (hk : k < ms.length) : mt (ms.set k v) i = if i.toNat = k then v else mt ms i := by
  unfold mt
  rw [List.getD_eq_getElem?_getD, List.getD_eq_getElem?_getD, List.getElem?_set]
  by_cases c : k = i.toNat
  · rw [if_pos c, if_pos c.symm, if_pos hk]; rfl
  · rw [if_neg c, if_neg (fun z => c z.symm)]

theorem OkMates.put {ws : List (List Int)} {ms : List (Option Int)} (o : OkMates ws ms) {g m : Int} (g0 : 0 ≤ g) (g1 : g < (ws.length : Int)) (m0 : 0 ≤ m) (m1 : m < (ws.length : Int)) (ne : m ≠ g)
    (hg : mt ms g = none) (hm : mt ms m = none) (hs : suitsB ws g m = true) : OkMates ws ((ms.set g.toNat (some m)).set m.toNat (some g)) := by
  have hl := o.len
  refine ⟨by rw [List.length_set, List.length_set]; exact hl, fun i k i0 i1 h => ?_⟩
  have h1 : m.toNat < (ms.set g.toNat (some m)).length := by rw [List.length_set]; omega
  have h2 : g.toNat < ms.length := by omega
  rw [mt_set h1, mt_set h2] at h
  by_cases c1 : i.toNat = m.toNat
  · rw [if_pos c1] at h
    cases h
    have e : i = m := by omega
    subst e
    refine ⟨g0, g1, ?_, by rw [suitsB_comm]; exact hs⟩
    rw [mt_set h1, mt_set h2, if_neg (by omega), if_pos rfl]
  · rw [if_neg c1] at h
    by_cases c2 : i.toNat = g.toNat
    · rw [if_pos c2] at h
      cases h
      have e : i = g := by omega
      subst e
      refine ⟨m0, m1, ?_, hs⟩
      rw [mt_set h1, if_pos rfl]
    · rw [if_neg c2] at h
      obtain ⟨p0, p1, p2, p3⟩ := o.pr i k i0 i1 h
      refine ⟨p0, p1, ?_, p3⟩
      have n1 : ¬ k.toNat = m.toNat := fun z => by
        have e : k = m := by omega
        rw [e, hm] at p2
        cases p2
      have n2 : ¬ k.toNat = g.toNat := fun z => by
        have e : k = g := by omega
        rw [e, hg] at p2
        cases p2
      rw [mt_set h1, mt_set h2, if_neg n1, if_neg n2]
      exact p2

theorem ixN_of {n : Nat} {i : Int} (h0 : 0 ≤ i) (h1 : i < (n : Int)) : ixN n i = some i.toNat := by
  unfold ixN
  rw [if_pos h0, if_pos h1]
theorem flat_nones : ∀ n : Nat, (List.replicate n [V.non]).flatten = (List.replicate n (none : Option Int)).map ov
  | 0 => rfl
  | n + 1 => by
    rw [List.replicate_succ, List.flatten_cons, flat_nones n, List.replicate_succ]
    rfl

theorem joins_ok {ws : List (List Int)} {ms : List (Option Int)} (o : OkMates ws ms) {g : Nat} (hn : mt ms (g : Int) = none) (hg : g < ws.length) : ∀ t, g + 1 + t ≤ ws.length → ∀ m ∈ joinsL ws ms g t, OkMates ws m
  | 0, _, m, h => by cases h
  | t + 1, ht, m, h => by
    unfold joinsL at h
    rcases List.mem_append.mp h with h | h
    · exact joins_ok o hn hg t (by omega) m h
    · split at h
      · rename_i c
        rw [List.mem_singleton] at h
        rw [h]
        exact o.put (by omega) (by omega) (by omega) (by omega) (by omega) hn c.1 c.2
      · cases h
theorem joins_le (ws : List (List Int)) (ms : List (Option Int)) (g : Nat) : ∀ t, (joinsL ws ms g t).length ≤ t
  | 0 => Nat.le_refl _
  | t + 1 => by
    have := joins_le ws ms g t
    unfold joinsL
    rw [List.length_append]
    split
    · rw [List.length_singleton]; omega
    · rw [List.length_nil]; omega
theorem settled_ok {ws : List (List Int)} {ms : List (Option Int)} (o : OkMates ws ms) {g : Nat} (hg : g < ws.length) : ∀ m ∈ settledL ws ms g, OkMates ws m := by
  intro m h
  unfold settledL at h
  rcases List.mem_cons.mp h with h | h
  · rw [h]; exact o
  · unfold moreL at h
    split at h
    · rename_i c
      exact joins_ok o c hg _ (by omega) m h
    · cases h
theorem settled_le {ws : List (List Int)} {ms : List (Option Int)} {g : Nat} (hg : g < ws.length) : (settledL ws ms g).length ≤ ws.length := by
  unfold settledL moreL
  rw [List.length_cons]
  split
  · have := joins_le ws ms g (ws.length - (g + 1)); omega
  · rw [List.length_nil]; omega
theorem stage_ok (ws : List (List Int)) : ∀ g, g ≤ ws.length → ∀ m ∈ stageL ws g, OkMates ws m
  | 0, _, m, h => by
    unfold stageL at h
    rw [List.mem_singleton] at h
    rw [h]
    exact ⟨List.length_replicate, fun i k _ _ h => by rw [mt_none] at h; cases h⟩
  | g + 1, hg, m, h => by
    unfold stageL at h
    obtain ⟨a, ha, hm⟩ := List.mem_flatMap.mp h
    exact settled_ok (stage_ok ws g (by omega) a ha) (by omega) m hm
theorem flatMap_le {α β : Type} (f : α → List β) (k : Nat) : ∀ l : List α, (∀ a ∈ l, (f a).length ≤ k) → (l.flatMap f).length ≤ l.length * k
  | [], _ => Nat.zero_le _
  | a :: l, h => by
    have h1 := h a (List.mem_cons_self ..)
    have h2 := flatMap_le f k l fun b hb => h b (List.mem_cons_of_mem _ hb)
    rw [List.flatMap_cons, List.length_append, List.length_cons, Nat.succ_mul]
    omega
theorem stage_le (ws : List (List Int)) (h6 : ws.length ≤ 6) : ∀ g, g ≤ ws.length → (stageL ws g).length ≤ 6 ^ g
  | 0, _ => Nat.le_refl _
  | g + 1, hg => by
    have h1 := stage_le ws h6 g (by omega)
    have h2 := flatMap_le (fun ms => settledL ws ms g) 6 (stageL ws g) fun a _ => Nat.le_trans (settled_le (by omega)) h6
    unfold stageL
    rw [Nat.pow_succ]
    exact Nat.le_trans h2 (Nat.mul_le_mul_right 6 h1)
theorem stage_small (ws : List (List Int)) (h6 : ws.length ≤ 6) (g : Nat) (hg : g ≤ ws.length) : (stageL ws g).length ≤ 46656 :=
  Nat.le_trans (stage_le ws h6 g hg) (Nat.le_trans (Nat.pow_le_pow_right (by decide) (Nat.le_trans hg h6)) (by decide))

/-- mates as an object -/
def fm (ms : List (Option Int)) : HO := .lst (ms.map ov)

theorem built_put {α : Type} {f : α → HO} {H H1 : Hp} {D b : Addr} {vss : List α} {r : α} (hD : H D = none) (B : BuiltF f H D vss H1) (hb : H1 b = some (f r)) (nb : b ≠ D) (h0 : H b = none) :
    ∃ acc, H1 D = some (.lst acc) ∧ acc.length = vss.length ∧ BuiltF f H D (vss ++ [r]) (upd H1 D (.lst (acc ++ [.ref b]))) := by
  obtain ⟨s, as, h1, h2, h3⟩ := B
  refine ⟨_, h1, by rw [List.length_map]; exact h2, same_put s hD _, as ++ [b], ?_, ?_, fun i q hq => ?_⟩
  · rw [upd_same, List.map_append]
    rfl
  · rw [List.length_append, List.length_append, h2]
    rfl
  · rw [List.getElem?_append] at hq
    rw [List.getElem?_append]
    by_cases c : i < vss.length
    · rw [if_pos c] at hq
      rw [if_pos (by rw [h2]; exact c)]
      obtain ⟨b, b1, b2, b3, b4⟩ := h3 i q hq
      exact ⟨b, b1, by rw [upd_ne b3]; exact b2, b3, b4⟩
    · rw [if_neg c] at hq
      rw [if_neg (by rw [h2]; exact c)]
      have i0 : i - vss.length = 0 := by
        have := (List.getElem?_eq_some_iff.mp hq).1
        simp at this
        omega
      rw [i0] at hq
      cases hq
      rw [h2, i0]
      exact ⟨b, rfl, by rw [upd_ne nb]; exact hb, nb, h0⟩

theorem BuiltF.back {α : Type} {f : α → HO} {H0 H H1 : Hp} {D : Addr} {vss : List α} (s : Same H0 H) (B : BuiltF f H D vss H1) : BuiltF f H0 D vss H1 := by
  obtain ⟨e, as, h1, h2, h3⟩ := B
  refine ⟨s.trans e, as, h1, h2, fun i r hr => ?_⟩
  obtain ⟨b, b1, b2, b3, b4⟩ := h3 i r hr
  exact ⟨b, b1, b2, b3, s.free b4⟩

theorem big_line {n : Nat} (h : n ≤ 1000000) : n < sizeLine := by
  unfold sizeLine
  omega
theorem pi_lst {X : Cx} {K : PySem.W.Frag} (h : X.K = K) {tg l : Expr} {tl : TE} (e : PE X l tl) : PI X tg l (iList K tl) := by
  subst h
  exact pi_list e
theorem eq_dat {X : Cx} {K : PySem.W.Frag} (h : X.K = K) (hu : X.A.units + 64 < cLine) : OpR X (compareOp .Eq) (rEqD K) := by
  subst h
  exact op_eqD hu
end B2

namespace B2
open PySem L2

/-! ### How many mates, and in which order: the mathematics -/
def rngL (lo : Int) (k : Nat) : List Int := (List.range k).map fun (j : Nat) => lo + (j : Int)
def sumL (f : Int → Int) : List Int → Int
  | [] => 0
  | x :: r => f x + sumL f r
theorem sumL_append (f : Int → Int) : ∀ a b : List Int, sumL f (a ++ b) = sumL f a + sumL f b
  | [], b => by show sumL f b = 0 + sumL f b; omega
  | x :: a, b => by
    show f x + sumL f (a ++ b) = f x + sumL f a + sumL f b
    rw [sumL_append f a b]
    omega
theorem sumL_congr {f h : Int → Int} : ∀ l : List Int, (∀ x ∈ l, f x = h x) → sumL f l = sumL h l
  | [], _ => rfl
  | x :: r, e => by
    show f x + sumL f r = h x + sumL h r
    rw [e x (List.mem_cons_self ..), sumL_congr r fun y hy => e y (List.mem_cons_of_mem _ hy)]
theorem sumL_if (p : Int → Bool) (f : Int → Int) : ∀ l : List Int, sumL (fun m => if p m = true then f m else 0) l = sumL f (l.filter p)
  | [] => rfl
  | x :: r => by
    have ih := sumL_if p f r
    show (if p x = true then f x else 0) + sumL _ r = _
    rw [ih, List.filter_cons]
    by_cases c : p x = true
    · rw [if_pos c, if_pos c]; rfl
    · rw [if_neg c, if_neg c]; omega

theorem rngL_succ (lo : Int) (k : Nat) : rngL lo (k + 1) = rngL lo k ++ [lo + (k : Int)] := by
  unfold rngL
  rw [List.range_succ, List.map_append]
  rfl
theorem rngL_cons (lo : Int) (k : Nat) : rngL lo (k + 1) = lo :: rngL (lo + 1) k := by
  unfold rngL
  rw [List.range_succ_eq_map, List.map_cons, List.map_map]
  congr 1
  · show lo + 0 = lo
    omega
  · apply List.map_congr_left
    intro j _
    show lo + ((j + 1 : Nat) : Int) = lo + 1 + (j : Int)
    omega
theorem rngL_mem {lo : Int} {k : Nat} {x : Int} (h : x ∈ rngL lo k) : lo ≤ x ∧ x < lo + (k : Int) := by
  unfold rngL at h
  obtain ⟨j, hj, rfl⟩ := List.mem_map.mp h
  have := List.mem_range.mp hj
  omega
theorem rngL_len (lo : Int) (k : Nat) : (rngL lo k).length = k := by
  unfold rngL
  rw [List.length_map, List.length_range]
theorem rngL_lt (lo : Int) (k : Nat) : (rngL lo k).Pairwise (· < ·) := by
  unfold rngL
  rw [List.pairwise_map]
  exact List.Pairwise.imp (fun {i j} (h : i < j) => by omega) List.pairwise_lt_range

/-- may g share with o -/
def mayJ (ws : List (List Int)) (ms : List (Option Int)) (g : Int) (o : Int) : Bool := suitsB ws g o && (mt ms o).isNone
theorem joins_is (ws : List (List Int)) (ms : List (Option Int)) (g : Nat) : ∀ t, joinsL ws ms g t = ((rngL ((g : Int) + 1) t).filter (mayJ ws ms (g : Int))).map fun o => joinL ms (g : Int) o
  | 0 => rfl
  | t + 1 => by
    rw [rngL_succ, List.filter_append, List.map_append, ← joins_is ws ms g t]
    have e : joinsL ws ms g (t + 1) = joinsL ws ms g t ++ (if (mt ms ((g : Int) + 1 + (t : Int)) = none ∧ suitsB ws (g : Int) ((g : Int) + 1 + (t : Int)) = true) then [joinL ms (g : Int) ((g : Int) + 1 + (t : Int))] else []) := rfl
    rw [e]
    congr 1
    rw [List.filter_cons]
    unfold mayJ
    by_cases c : mt ms ((g : Int) + 1 + (t : Int)) = none ∧ suitsB ws (g : Int) ((g : Int) + 1 + (t : Int)) = true
    · rw [if_pos c, c.1, c.2]
      rfl
    · rw [if_neg c, if_neg]
      · rfl
      · intro z
        rw [Bool.and_eq_true] at z
        exact c ⟨Option.isNone_iff_eq_none.mp z.2, z.1⟩

/-- all that comes of these mates by what the last k guests do -/
def procL (ws : List (List Int)) : Nat → List (Option Int) → List (List (Option Int))
  | 0, ms => [ms]
  | k + 1, ms => (settledL ws ms (ws.length - (k + 1))).flatMap (procL ws k)
theorem proc_stage (ws : List (List Int)) : ∀ k, k ≤ ws.length → (stageL ws (ws.length - k)).flatMap (procL ws k) = allTwos ws
  | 0, _ => by
    show (stageL ws ws.length).flatMap (fun ms => [ms]) = stageL ws ws.length
    induction stageL ws ws.length with
    | nil => rfl
    | cons a l ih => rw [List.flatMap_cons, ih]; rfl
  | k + 1, h => by
    rw [← proc_stage ws k (by omega)]
    have e : ws.length - k = (ws.length - (k + 1)) + 1 := by omega
    have e2 : stageL ws ((ws.length - (k + 1)) + 1) = (stageL ws (ws.length - (k + 1))).flatMap fun ms => settledL ws ms (ws.length - (k + 1)) := rfl
    rw [e, e2, List.flatMap_assoc]
    rfl
theorem all_proc (ws : List (List Int)) : allTwos ws = procL ws ws.length (List.replicate ws.length none) := by
  have h := proc_stage ws ws.length (Nat.le_refl _)
  rw [Nat.sub_self] at h
  have e : stageL ws 0 = [List.replicate ws.length none] := rfl
  rw [e, List.flatMap_cons, List.flatMap_nil, List.append_nil] at h
  exact h.symm

/-- how many mates there are of those in the list -/
def countL (ws : List (List Int)) : Nat → List Int → Int
  | 0, _ => 1
  | _ + 1, [] => 1
  | k + 1, x :: r => countL ws k r + sumL (fun m => if suitsB ws x m = true then countL ws k (r.filter fun y => decide (y ≠ m)) else 0) r
theorem count_fuel (ws : List (List Int)) : ∀ (k : Nat) (l : List Int), l.length ≤ k → countL ws (k + 1) l = countL ws k l
  | 0, [], _ => rfl
  | 0, _ :: _, h => by simp at h
  | k + 1, [], _ => rfl
  | k + 1, x :: r, h => by
    have hr : r.length ≤ k := Nat.le_of_succ_le_succ h
    show countL ws (k + 1) r + sumL (fun m => if suitsB ws x m = true then countL ws (k + 1) (r.filter fun y => decide (y ≠ m)) else 0) r =
      countL ws k r + sumL (fun m => if suitsB ws x m = true then countL ws k (r.filter fun y => decide (y ≠ m)) else 0) r
    rw [count_fuel ws k r hr]
    congr 1
    apply sumL_congr
    intro m _
    by_cases c : suitsB ws x m = true
    · rw [if_pos c, if_pos c, count_fuel ws k _ (Nat.le_trans (List.length_filter_le _ _) hr)]
    · rw [if_neg c, if_neg c]

def freeL (ms : List (Option Int)) (lo : Int) (k : Nat) : List Int := (rngL lo k).filter fun i => (mt ms i).isNone

theorem mt_join {ms : List (Option Int)} {g o i : Int} (g0 : 0 ≤ g) (g1 : g < (ms.length : Int)) (o0 : 0 ≤ o) (o1 : o < (ms.length : Int)) (i0 : 0 ≤ i) :
    mt (joinL ms g o) i = if i = o then some g else if i = g then some o else mt ms i := by
  unfold joinL
  rw [mt_set (by rw [List.length_set]; omega), mt_set (by omega)]
  by_cases c : i = o
  · rw [if_pos c, if_pos (by rw [c])]
  · rw [if_neg c, if_neg (by omega)]
    by_cases c2 : i = g
    · rw [if_pos c2, if_pos (by rw [c2])]
    · rw [if_neg c2, if_neg (by omega)]

theorem free_join {ms : List (Option Int)} {g : Nat} {o : Int} {k : Nat} (hk : g + 1 + k = ms.length) (ho : o ∈ rngL ((g : Int) + 1) k) :
    freeL (joinL ms (g : Int) o) ((g : Int) + 1) k = (freeL ms ((g : Int) + 1) k).filter fun y => decide (y ≠ o) := by
  unfold freeL
  rw [List.filter_filter]
  apply List.filter_congr
  intro x hx
  have hx' := rngL_mem hx
  have ho' := rngL_mem ho
  rw [mt_join (by omega) (by omega) (by omega) (by omega) (by omega)]
  by_cases c : x = o
  · rw [if_pos c, decide_eq_false (fun z => z c)]
    rfl
  · rw [if_neg c, if_neg (by omega), decide_eq_true c, Bool.true_and]

theorem join_len (ms : List (Option Int)) (g o : Int) : (joinL ms g o).length = ms.length := by
  unfold joinL
  rw [List.length_set, List.length_set]

theorem len_flat (f : List (Option Int) → List (List (Option Int))) : ∀ (l : List Int) (h : Int → List (Option Int)), (((l.map h).flatMap f).length : Int) = sumL (fun m => ((f (h m)).length : Int)) l
  | [], _ => rfl
  | x :: r, h => by
    rw [List.map_cons, List.flatMap_cons, List.length_append]
    have := len_flat f r h
    show (((f (h x)).length + ((r.map h).flatMap f).length : Nat) : Int) = ((f (h x)).length : Int) + sumL (fun m => ((f (h m)).length : Int)) r
    omega

/-- as many as are counted -/
theorem proc_count (ws : List (List Int)) : ∀ (k : Nat) (ms : List (Option Int)), k ≤ ws.length → ms.length = ws.length →
    ((procL ws k ms).length : Int) = countL ws k (freeL ms (((ws.length - k : Nat)) : Int) k)
  | 0, ms, _, _ => rfl
  | k + 1, ms, hk, hl => by
    have hg : ∃ g : Nat, ws.length - (k + 1) = g ∧ ws.length - k = g + 1 ∧ g + 1 + k = ws.length := ⟨ws.length - (k + 1), rfl, by omega, by omega⟩
    obtain ⟨g, eg, eg1, egk⟩ := hg
    have ih : ∀ ms : List (Option Int), ms.length = ws.length → ((procL ws k ms).length : Int) = countL ws k (freeL ms ((g : Int) + 1) k) := fun ms h => by
      have := proc_count ws k ms (by omega) h
      rw [eg1] at this
      exact this
    show ((((settledL ws ms (ws.length - (k + 1))).flatMap (procL ws k)).length : Nat) : Int) = _
    rw [eg]
    have ekg : ws.length - (g + 1) = k := by omega
    unfold settledL moreL
    rw [ekg, List.flatMap_cons, List.length_append]
    have ef : freeL ms ((g : Nat) : Int) (k + 1) = if mt ms (g : Int) = none then (g : Int) :: freeL ms ((g : Int) + 1) k else freeL ms ((g : Int) + 1) k := by
      unfold freeL
      rw [rngL_cons, List.filter_cons]
      by_cases c : mt ms (g : Int) = none
      · rw [if_pos c, c]; rfl
      · rw [if_neg c, if_neg (fun z => c (Option.isNone_iff_eq_none.mp z))]
    rw [ef]
    have h1 := ih ms hl
    have hfl : (freeL ms ((g : Int) + 1) k).length ≤ k := by
      unfold freeL
      exact Nat.le_trans (List.length_filter_le _ _) (by rw [rngL_len]; exact Nat.le_refl _)
    by_cases c : mt ms (g : Int) = none
    · rw [if_pos c, if_pos c, joins_is]
      have h2 := len_flat (procL ws k) ((rngL ((g : Int) + 1) k).filter (mayJ ws ms (g : Int))) (fun o => joinL ms (g : Int) o)
      show (((procL ws k ms).length + _ : Nat) : Int) = countL ws k (freeL ms ((g : Int) + 1) k) + sumL (fun m => if suitsB ws (g : Int) m = true then countL ws k ((freeL ms ((g : Int) + 1) k).filter fun y => decide (y ≠ m)) else 0) (freeL ms ((g : Int) + 1) k)
      rw [sumL_if]
      have e3 : (freeL ms ((g : Int) + 1) k).filter (suitsB ws (g : Int)) = (rngL ((g : Int) + 1) k).filter (mayJ ws ms (g : Int)) := by
        unfold freeL
        rw [List.filter_filter]
        rfl
      rw [e3]
      have e4 : sumL (fun m => ((procL ws k (joinL ms (g : Int) m)).length : Int)) ((rngL ((g : Int) + 1) k).filter (mayJ ws ms (g : Int))) =
          sumL (fun m => countL ws k ((freeL ms ((g : Int) + 1) k).filter fun y => decide (y ≠ m))) ((rngL ((g : Int) + 1) k).filter (mayJ ws ms (g : Int))) := by
        apply sumL_congr
        intro m hm
        have hm' := (List.mem_filter.mp hm).1
        rw [ih (joinL ms (g : Int) m) (by rw [join_len]; exact hl), free_join (by omega) hm']
      omega
    · rw [if_neg c, if_neg c, List.flatMap_nil, count_fuel ws k _ hfl]
      show (((procL ws k ms).length + 0 : Nat) : Int) = _
      omega

theorem all_count (ws : List (List Int)) : ((allTwos ws).length : Int) = countL ws ws.length (rngL 0 ws.length) := by
  rw [all_proc, proc_count ws ws.length _ (Nat.le_refl _) List.length_replicate, Nat.sub_self]
  congr 1
  unfold freeL
  apply List.filter_eq_self.mpr
  intro x _
  rw [mt_none]
  rfl

/-! the order -/
def keyO (o : Option Int) : Int := o.getD (-1)
/-- the first place at which they differ has less at a -/
def ltK (n : Nat) (a b : List (Option Int)) : Prop := ∃ i : Nat, i < n ∧ (∀ j : Nat, j < i → mt a (j : Int) = mt b (j : Int)) ∧ keyO (mt a (i : Int)) < keyO (mt b (i : Int))

theorem proc_order (ws : List (List Int)) : ∀ (k : Nat) (ms : List (Option Int)), k ≤ ws.length → ms.length = ws.length →
    (∀ m ∈ procL ws k ms, m.length = ws.length ∧ ∀ i : Nat, i < ws.length - k → mt m (i : Int) = mt ms (i : Int)) ∧ (procL ws k ms).Pairwise (ltK ws.length)
  | 0, ms, _, hl => by
    refine ⟨fun m h => ?_, List.pairwise_singleton _ _⟩
    have e : m = ms := List.mem_singleton.mp h
    rw [e]
    exact ⟨hl, fun i _ => rfl⟩
  | k + 1, ms, hk, hl => by
    obtain ⟨g, eg, eg1, egk⟩ : ∃ g : Nat, ws.length - (k + 1) = g ∧ ws.length - k = g + 1 ∧ g + 1 + k = ws.length := ⟨ws.length - (k + 1), rfl, by omega, by omega⟩
    have ih := fun m h => proc_order ws k m (by omega) h
    rw [eg1] at ih
    rw [eg]
    have eP : procL ws (k + 1) ms = (settledL ws ms g).flatMap (procL ws k) := by
      rw [← eg]
      rfl
    rw [eP]
    have ekg : ws.length - (g + 1) = k := by omega
    -- what a choice changes
    have hs : ∀ s ∈ settledL ws ms g, s.length = ws.length ∧ ∀ i : Nat, i < g → mt s (i : Int) = mt ms (i : Int) := by
      intro s h
      unfold settledL moreL at h
      rw [ekg] at h
      rcases List.mem_cons.mp h with h | h
      · rw [h]; exact ⟨hl, fun i _ => rfl⟩
      · split at h
        · rw [joins_is] at h
          obtain ⟨o, ho, rfl⟩ := List.mem_map.mp h
          have ho' := rngL_mem (List.mem_filter.mp ho).1
          refine ⟨by rw [join_len]; exact hl, fun i hi => ?_⟩
          rw [mt_join (by omega) (by omega) (by omega) (by omega) (by omega), if_neg (by omega), if_neg (by omega)]
        · cases h
    have hp : (settledL ws ms g).Pairwise fun s t => keyO (mt s (g : Int)) < keyO (mt t (g : Int)) := by
      unfold settledL moreL
      rw [ekg]
      refine List.pairwise_cons.mpr ⟨fun t ht => ?_, ?_⟩
      · split at ht
        · rename_i c
          rw [joins_is] at ht
          obtain ⟨o, ho, rfl⟩ := List.mem_map.mp ht
          have ho' := rngL_mem (List.mem_filter.mp ho).1
          rw [c, mt_join (by omega) (by omega) (by omega) (by omega) (by omega), if_neg (by omega), if_pos rfl]
          show (-1 : Int) < o
          omega
        · cases ht
      · split
        · rw [joins_is, List.pairwise_map]
          refine List.Pairwise.imp_of_mem (fun {a b} ha hb hab => ?_) ((rngL_lt ((g : Int) + 1) k).sublist List.filter_sublist)
          have ha' := rngL_mem (List.mem_filter.mp ha).1
          have hb' := rngL_mem (List.mem_filter.mp hb).1
          rw [mt_join (by omega) (by omega) (by omega) (by omega) (by omega), mt_join (by omega) (by omega) (by omega) (by omega) (by omega), if_neg (by omega), if_pos rfl, if_neg (by omega), if_pos rfl]
          exact hab
        · exact List.Pairwise.nil
    refine ⟨fun m h => ?_, ?_⟩
    · obtain ⟨s, hs1, hm⟩ := List.mem_flatMap.mp h
      obtain ⟨q1, q2⟩ := hs s hs1
      obtain ⟨p1, p2⟩ := (ih s q1).1 m hm
      exact ⟨p1, fun i hi => (p2 i (by omega)).trans (q2 i hi)⟩
    · rw [List.pairwise_flatMap]
      refine ⟨fun s h => (ih s (hs s h).1).2, List.Pairwise.imp_of_mem (fun {s t} h1 h2 hst => ?_) hp⟩
      intro x hx y hy
      obtain ⟨a1, a2⟩ := hs s h1
      obtain ⟨b1, b2⟩ := hs t h2
      obtain ⟨c1, c2⟩ := (ih s a1).1 x hx
      obtain ⟨d1, d2⟩ := (ih t b1).1 y hy
      refine ⟨g, by omega, fun j hj => ?_, ?_⟩
      · rw [c2 j (by omega), d2 j (by omega), a2 j hj, b2 j hj]
      · rw [c2 g (by omega), d2 g (by omega)]
        exact hst

theorem all_order (ws : List (List Int)) : (allTwos ws).Pairwise (ltK ws.length) := by
  rw [all_proc]
  exact (proc_order ws ws.length _ (Nat.le_refl _) List.length_replicate).2
end B2

namespace B2
open PySem L2

/-! ### All calm mates leave the same guests alone: the mathematics -/
theorem nodup_le : ∀ (n : Nat) (r : List Int), r.Nodup → (∀ x ∈ r, 0 ≤ x ∧ x < (n : Int)) → r.length ≤ n
  | 0, r, _, h => by
    cases r with
    | nil => exact Nat.le_refl _
    | cons x r =>
      have := h x (List.mem_cons_self ..)
      omega
  | n + 1, r, nd, h => by
    have h1 := nodup_le n (r.filter fun x => decide ¬((x == (n : Int)) = true)) (nd.sublist List.filter_sublist) (fun x hx => by
      obtain ⟨a, b⟩ := List.mem_filter.mp hx
      have := h x a
      have c : ¬ (x == (n : Int)) = true := of_decide_eq_true b
      have d : x ≠ (n : Int) := fun z => c (by rw [z]; exact beq_self_eq_true _)
      omega)
    have h2 := List.length_eq_countP_add_countP (fun x : Int => x == (n : Int)) (l := r)
    have h3 : r.countP (fun x : Int => x == (n : Int)) ≤ 1 := List.nodup_iff_count.mp nd (n : Int)
    rw [List.countP_eq_length_filter (p := fun a => decide ¬((a == (n : Int)) = true))] at h2
    omega

theorem wildIn_nil {ws : List (List Int)} {ms : List (Option Int)} {i : Nat} : ∀ {t : Nat}, wildIn ws ms i t = [] → ∀ k, k < t → wild ws ms (i : Int) ((i : Int) + 1 + (k : Int)) = false
  | 0, _, k, hk => by omega
  | t + 1, h, k, hk => by
    unfold wildIn at h
    rw [List.append_eq_nil_iff] at h
    by_cases c : k < t
    · exact wildIn_nil h.1 k c
    · have e : k = t := by omega
      subst e
      cases z : wild ws ms (i : Int) ((i : Int) + 1 + (k : Int)) with
      | false => rfl
      | true =>
        have h2 := h.2
        rw [z] at h2
        cases h2
theorem wildUp_nil {ws : List (List Int)} {ms : List (Option Int)} {n : Nat} : ∀ {k : Nat}, wildUp ws ms n k = [] → ∀ i, i < k → wildIn ws ms i (n - (i + 1)) = []
  | 0, _, i, hi => by omega
  | k + 1, h, i, hi => by
    unfold wildUp at h
    rw [List.append_eq_nil_iff] at h
    by_cases c : i < k
    · exact wildUp_nil h.1 i c
    · have e : i = k := by omega
      subst e
      exact h.2

/-- no two different guests would rather have each other -/
def Calm (ws : List (List Int)) (ms : List (Option Int)) : Prop := ∀ i j : Int, 0 ≤ i → i < (ws.length : Int) → 0 ≤ j → j < (ws.length : Int) → i ≠ j → wild ws ms i j = false
theorem wild_comm (ws : List (List Int)) (ms : List (Option Int)) (i j : Int) : wild ws ms i j = wild ws ms j i := Bool.and_comm _ _
theorem calm_of {ws : List (List Int)} {ms : List (Option Int)} (h : (wildAll ws ms).isEmpty = true) : Calm ws ms := by
  have h0 : wildUp ws ms ws.length ws.length = [] := List.isEmpty_iff.mp h
  have key : ∀ i j : Int, 0 ≤ i → i < j → j < (ws.length : Int) → wild ws ms i j = false := fun i j i0 ij j1 => by
    have h1 := wildUp_nil h0 i.toNat (by omega)
    have h2 := wildIn_nil h1 (j - i - 1).toNat (by omega)
    have e1 : ((i.toNat : Nat) : Int) = i := by omega
    have e2 : ((i.toNat : Nat) : Int) + 1 + (((j - i - 1).toNat : Nat) : Int) = j := by omega
    rw [e2, e1] at h2
    exact h2
  intro i j i0 i1 j0 j1 ne
  by_cases c : i < j
  · exact key i j i0 c j1
  · rw [wild_comm]
    exact key j i j0 (by omega) i1

theorem ahead_total {ws : List (List Int)} {g a b : Int} (ha : suitsB ws g a = true) (hb : suitsB ws g b = true) (ne : a ≠ b) (h : aheadB ws g (some a) (some b) = false) : aheadB ws g (some b) (some a) = true := by
  have e1 : aheadB ws g (some a) (some b) = if a = b then false else if suitsB ws g a = true then (if suitsB ws g b = true then decide ((rowOf ws g).idxOf a < (rowOf ws g).idxOf b) else true) else false := rfl
  have e2 : aheadB ws g (some b) (some a) = if b = a then false else if suitsB ws g b = true then (if suitsB ws g a = true then decide ((rowOf ws g).idxOf b < (rowOf ws g).idxOf a) else true) else false := rfl
  rw [e1, if_neg ne, if_pos ha, if_pos hb] at h
  rw [e2, if_neg (fun z => ne z.symm), if_pos hb, if_pos ha]
  have h' : ¬ (rowOf ws g).idxOf a < (rowOf ws g).idxOf b := of_decide_eq_false h
  apply decide_eq_true
  have h3 := (suitsB_mem ha).1
  have h4 := (suitsB_mem hb).1
  have h5 : (rowOf ws g).idxOf a ≠ (rowOf ws g).idxOf b := fun z => by
    have p1 := (index_at a (rowOf ws g) h3).1
    have p2 := (index_at b (rowOf ws g) h4).1
    rw [z, p2] at p1
    cases p1
    exact ne rfl
  omega

theorem ahead_same (ws : List (List Int)) (g : Int) (x : Option Int) : aheadB ws g x x = false := by
  cases x with
  | none => rfl
  | some a =>
    show (if a = a then false else _) = false
    rw [if_pos rfl]

section
variable {ws : List (List Int)} {M : Bool → List (Option Int)}

/-- where the walk stands: a guest who would rather have its mate by p than that by the other -/
structure On (ws : List (List Int)) (M : Bool → List (Option Int)) (s : Int × Bool) : Prop where
  lo : 0 ≤ s.1
  hi : s.1 < (ws.length : Int)
  is : ∃ u, mt (M s.2) s.1 = some u
  ra : aheadB ws s.1 (mt (M s.2) s.1) (mt (M (!s.2)) s.1) = true

def goOn (M : Bool → List (Option Int)) (s : Int × Bool) : Int × Bool := ((mt (M s.2) s.1).getD 0, !s.2)

theorem on_go (hG : Good ws) (hO : ∀ p, OkMates ws (M p)) (hC : ∀ p, Calm ws (M p)) {s : Int × Bool} (h : On ws M s) : On ws M (goOn M s) := by
  obtain ⟨v, p⟩ := s
  obtain ⟨v0, v1, ⟨u, hu⟩, ra⟩ := h
  simp only at v0 v1 hu ra
  obtain ⟨u0, u1, hv, su⟩ := (hO p).pr v u v0 v1 hu
  have su' : suitsB ws u v = true := by rw [suitsB_comm]; exact su
  have e : goOn M (v, p) = (u, !p) := by unfold goOn; simp only [hu]; rfl
  rw [e]
  have nvu : v ≠ u := fun z => by
    subst z
    rw [suitsB_self hG v0 v1] at su
    cases su
  have hw := hC (!p) v u v0 v1 u0 u1 nvu
  unfold wild at hw
  rw [hu] at ra
  rw [ra, Bool.true_and] at hw
  cases hq : mt (M (!p)) u with
  | none =>
    rw [hq] at hw
    have : aheadB ws u (some v) none = suitsB ws u v := rfl
    rw [this, su'] at hw
    cases hw
  | some w =>
    rw [hq] at hw
    obtain ⟨w0, w1, hwu, sw⟩ := (hO (!p)).pr u w u0 u1 hq
    have nwv : v ≠ w := fun z => by
      subst z
      rw [hwu] at ra
      rw [ahead_same] at ra
      cases ra
    refine ⟨u0, u1, ⟨w, hq⟩, ?_⟩
    show aheadB ws u (mt (M (!p)) u) (mt (M (!!p)) u) = true
    rw [Bool.not_not, hq, hv]
    exact ahead_total su' sw nwv hw

theorem go_inj (hO : ∀ p, OkMates ws (M p)) {s t : Int × Bool} (hs : On ws M s) (ht : On ws M t) (e : goOn M s = goOn M t) : s = t := by
  obtain ⟨v, p⟩ := s
  obtain ⟨v', p'⟩ := t
  obtain ⟨v0, v1, ⟨u, hu⟩, _⟩ := hs
  obtain ⟨w0, w1, ⟨u', hu'⟩, _⟩ := ht
  simp only at v0 v1 hu w0 w1 hu'
  unfold goOn at e
  simp only [hu, hu', Option.getD_some, Prod.mk.injEq] at e
  obtain ⟨e1, e2⟩ := e
  have e3 : p = p' := by cases p <;> cases p' <;> first | rfl | cases e2
  subst e3
  subst e1
  have a := ((hO p).pr v u v0 v1 hu).2.2.1
  have b := ((hO p).pr v' u w0 w1 hu').2.2.1
  rw [a] at b
  cases b
  rfl

def walkOn (M : Bool → List (Option Int)) (a : Int) : Nat → Int × Bool
  | 0 => (a, false)
  | k + 1 => goOn M (walkOn M a k)

theorem walk_on (hG : Good ws) (hO : ∀ p, OkMates ws (M p)) (hC : ∀ p, Calm ws (M p)) {a : Int} (h0 : On ws M (a, false)) : ∀ k, On ws M (walkOn M a k)
  | 0 => h0
  | k + 1 => on_go hG hO hC (walk_on hG hO hC h0 k)

theorem walk_new (hG : Good ws) (hO : ∀ p, OkMates ws (M p)) (hC : ∀ p, Calm ws (M p)) {a : Int} (h0 : On ws M (a, false)) (hn : mt (M true) a = none) : ∀ i k, walkOn M a i ≠ walkOn M a (i + (k + 1))
  | 0, k => by
    intro e
    rw [Nat.zero_add] at e
    obtain ⟨v0, v1, ⟨u, hu⟩, _⟩ := walk_on hG hO hC h0 k
    generalize hs : walkOn M a k = s at v0 v1 hu
    obtain ⟨v, p⟩ := s
    simp only at v0 v1 hu
    have e' : (a, false) = goOn M (v, p) := by
      have : walkOn M a (k + 1) = goOn M (walkOn M a k) := rfl
      rw [this, hs] at e
      exact e
    unfold goOn at e'
    simp only [hu, Option.getD_some, Prod.mk.injEq] at e'
    obtain ⟨e1, e2⟩ := e'
    have hp : p = true := by cases p <;> first | rfl | cases e2
    subst hp
    subst e1
    have := ((hO true).pr v a v0 v1 hu).2.2.1
    rw [hn] at this
    cases this
  | i + 1, k => by
    intro e
    have e1 : i + 1 + (k + 1) = (i + (k + 1)) + 1 := by omega
    rw [e1] at e
    exact walk_new hG hO hC h0 hn i k (go_inj hO (walk_on hG hO hC h0 i) (walk_on hG hO hC h0 _) e)

theorem no_walk (hG : Good ws) (hO : ∀ p, OkMates ws (M p)) (hC : ∀ p, Calm ws (M p)) {a : Int} (h0 : On ws M (a, false)) (hn : mt (M true) a = none) : False := by
  let f : Nat → Int := fun k => 2 * (walkOn M a k).1 + (if (walkOn M a k).2 = true then 1 else 0)
  have finj : ∀ i j, i < j → f i ≠ f j := fun i j hij e => by
    have ne := walk_new hG hO hC h0 hn i (j - i - 1)
    have ej : i + (j - i - 1 + 1) = j := by omega
    rw [ej] at ne
    apply ne
    have e' : 2 * (walkOn M a i).1 + (if (walkOn M a i).2 = true then 1 else 0) = 2 * (walkOn M a j).1 + (if (walkOn M a j).2 = true then 1 else 0) := e
    generalize walkOn M a i = s at e'
    generalize walkOn M a j = t at e'
    obtain ⟨v, p⟩ := s
    obtain ⟨v', p'⟩ := t
    simp only at e'
    cases p <;> cases p' <;> simp at e' ⊢ <;> omega
  have nd : ((List.range (2 * ws.length + 1)).map f).Nodup := by
    unfold List.Nodup
    rw [List.pairwise_map]
    exact List.Pairwise.imp (fun {i j} h => finj i j h) List.pairwise_lt_range
  have := nodup_le (2 * ws.length) _ nd (fun x hx => by
    obtain ⟨k, _, rfl⟩ := List.mem_map.mp hx
    obtain ⟨v0, v1, _, _⟩ := walk_on hG hO hC h0 k
    show 0 ≤ 2 * (walkOn M a k).1 + _ ∧ 2 * (walkOn M a k).1 + _ < _
    split <;> omega)
  rw [List.length_map, List.length_range] at this
  omega
end

theorem alone_half {ws : List (List Int)} (hG : Good ws) {m1 m2 : List (Option Int)} (o1 : OkMates ws m1) (o2 : OkMates ws m2) (c1 : Calm ws m1) (c2 : Calm ws m2) {a : Int} (a0 : 0 ≤ a) (a1 : a < (ws.length : Int))
    (h : mt m2 a = none) : mt m1 a = none := by
  cases e : mt m1 a with
  | none => rfl
  | some b =>
    exfalso
    have hsu := (o1.pr a b a0 a1 e).2.2.2
    let M : Bool → List (Option Int) := fun p => if p = true then m2 else m1
    have hO : ∀ p, OkMates ws (M p) := fun p => by cases p; exact o1; exact o2
    have hC : ∀ p, Calm ws (M p) := fun p => by cases p; exact c1; exact c2
    refine no_walk (M := M) hG hO hC (a := a) ⟨a0, a1, ⟨b, e⟩, ?_⟩ h
    show aheadB ws a (mt m1 a) (mt m2 a) = true
    rw [e, h]
    exact hsu
/-- all calm mates leave the same guests alone -/
theorem same_alone {ws : List (List Int)} (hG : Good ws) {m1 m2 : List (Option Int)} (o1 : OkMates ws m1) (o2 : OkMates ws m2) (c1 : Calm ws m1) (c2 : Calm ws m2) {a : Int} (a0 : 0 ≤ a) (a1 : a < (ws.length : Int)) :
    (mt m1 a).isNone = (mt m2 a).isNone := by
  cases e1 : mt m1 a with
  | none => rw [alone_half hG o2 o1 c2 c1 a0 a1 e1]
  | some b =>
    cases e2 : mt m2 a with
    | none =>
      have := alone_half hG o1 o2 c1 c2 a0 a1 e2
      rw [e1] at this
      cases this
    | some c => rfl
end B2

namespace B2
open PySem L2

/-! ### Tables and the mathematics of parties -/

/-! #### All mates there are stand in allTwos -/
theorem ext_mt {a b : List (Option Int)} (hl : a.length = b.length) (h : ∀ i : Int, 0 ≤ i → i < (a.length : Int) → mt a i = mt b i) : a = b := by
  apply List.ext_getElem?
  intro i
  by_cases c : i < a.length
  · have h1 := mt_get (ms := a) (i := (i : Int)) (by omega) (by omega)
    have h2 := mt_get (ms := b) (i := (i : Int)) (by omega) (by omega)
    rw [Int.toNat_natCast] at h1 h2
    rw [h1, h2, h i (by omega) (by omega)]
  · rw [List.getElem?_eq_none (by omega), List.getElem?_eq_none (by omega)]

/-- of these mates only those of whom one is ahead of g -/
def upTo (g : Nat) (ms : List (Option Int)) : List (Option Int) :=
  (List.range ms.length).map fun (i : Nat) => match mt ms (i : Int) with
    | none => none
    | some m => if i < g ∨ m < (g : Int) then some m else none
theorem upTo_len (g : Nat) (ms : List (Option Int)) : (upTo g ms).length = ms.length := by
  unfold upTo
  rw [List.length_map, List.length_range]
theorem upTo_at {g : Nat} {ms : List (Option Int)} {i : Int} (i0 : 0 ≤ i) (i1 : i < (ms.length : Int)) :
    mt (upTo g ms) i = match mt ms i with
      | none => none
      | some m => if i < (g : Int) ∨ m < (g : Int) then some m else none := by
  have e : (upTo g ms)[i.toNat]? = some (match mt ms ((i.toNat : Nat) : Int) with
    | none => none
    | some m => if i.toNat < g ∨ m < (g : Int) then some m else none) := by
    unfold upTo
    rw [List.getElem?_map, List.getElem?_range (by omega)]
    rfl
  have e2 : ((i.toNat : Nat) : Int) = i := by omega
  rw [e2] at e
  have e3 : mt (upTo g ms) i = (match mt ms i with
    | none => none
    | some m => if i.toNat < g ∨ m < (g : Int) then some m else none) := by
    show List.getD _ _ _ = _
    rw [List.getD_eq_getElem?_getD, e]
    rfl
  rw [e3]
  cases mt ms i with
  | none => rfl
  | some m =>
    have : (i.toNat < g ∨ m < (g : Int)) ↔ (i < (g : Int) ∨ m < (g : Int)) := by omega
    show (if _ then _ else _) = if _ then _ else _
    by_cases c : i < (g : Int) ∨ m < (g : Int)
    · rw [if_pos c, if_pos (this.mpr c)]
    · rw [if_neg c, if_neg (fun z => c (this.mp z))]
theorem upTo_zero {ws : List (List Int)} {ms : List (Option Int)} (o : OkMates ws ms) : upTo 0 ms = List.replicate ws.length none := by
  have hl := o.len
  refine ext_mt (by rw [upTo_len, List.length_replicate, hl]) fun i i0 i1 => ?_
  rw [upTo_len] at i1
  rw [upTo_at i0 i1, mt_none]
  cases e : mt ms i with
  | none => rfl
  | some m =>
    have := o.pr i m i0 (by omega) e
    show (if _ then _ else _) = _
    rw [if_neg (by omega)]
theorem upTo_all {ws : List (List Int)} {ms : List (Option Int)} (o : OkMates ws ms) : upTo ws.length ms = ms := by
  have hl := o.len
  refine ext_mt (upTo_len _ _) fun i i0 i1 => ?_
  rw [upTo_len] at i1
  rw [upTo_at i0 i1]
  cases e : mt ms i with
  | none => rfl
  | some m =>
    show (if _ then _ else _) = _
    rw [if_pos (by omega)]
theorem upTo_step {ws : List (List Int)} (hG : Good ws) {ms : List (Option Int)} (o : OkMates ws ms) {g : Nat} (hg : g < ws.length) : upTo (g + 1) ms ∈ settledL ws (upTo g ms) g := by
  have hl := o.len
  unfold settledL
  by_cases c : ∃ m : Int, mt ms (g : Int) = some m ∧ (g : Int) < m
  · obtain ⟨m, hm, lt⟩ := c
    obtain ⟨m0, m1, hm', hs⟩ := o.pr (g : Int) m (by omega) (by omega) hm
    refine List.mem_cons_of_mem _ ?_
    unfold moreL
    have e0 : mt (upTo g ms) (g : Int) = none := by
      rw [upTo_at (by omega) (by omega), hm]
      show (if _ then _ else _) = _
      rw [if_neg (by omega)]
    rw [if_pos e0, joins_is]
    refine List.mem_map.mpr ⟨m, List.mem_filter.mpr ⟨?_, ?_⟩, ?_⟩
    · unfold rngL
      refine List.mem_map.mpr ⟨(m - (g : Int) - 1).toNat, List.mem_range.mpr (by omega), by omega⟩
    · unfold mayJ
      rw [hs, Bool.true_and, upTo_at m0 (by omega), hm']
      show ((if _ then _ else _ : Option Int)).isNone = true
      rw [if_neg (by omega)]
      rfl
    · refine (ext_mt (by rw [upTo_len, join_len, upTo_len]) fun i i0 i1 => ?_).symm
      rw [upTo_len] at i1
      rw [mt_join (by omega) (by rw [upTo_len]; omega) m0 (by rw [upTo_len]; omega) i0, upTo_at i0 i1, upTo_at i0 i1]
      by_cases c1 : i = m
      · rw [if_pos c1, c1, hm']
        show (if _ then _ else _) = _
        rw [if_pos (by omega)]
      · rw [if_neg c1]
        by_cases c2 : i = (g : Int)
        · rw [if_pos c2, c2, hm]
          show (if _ then _ else _) = _
          rw [if_pos (by omega)]
        · rw [if_neg c2]
          cases e : mt ms i with
          | none => rfl
          | some k =>
            have hk := o.pr i k i0 (by omega) e
            show (if _ then _ else _) = if _ then _ else _
            have ne : k ≠ (g : Int) := fun z => by
              rw [z] at hk
              rw [hm] at hk
              exact c1 (Option.some.inj hk.2.2.1).symm
            have : (i < ((g + 1 : Nat) : Int) ∨ k < ((g + 1 : Nat) : Int)) ↔ (i < (g : Int) ∨ k < (g : Int)) := by omega
            by_cases c3 : i < (g : Int) ∨ k < (g : Int)
            · rw [if_pos c3, if_pos (this.mpr c3)]
            · rw [if_neg c3, if_neg (fun z => c3 (this.mp z))]
  · refine List.mem_cons.mpr (.inl ?_)
    refine ext_mt (by rw [upTo_len, upTo_len]) fun i i0 i1 => ?_
    rw [upTo_len] at i1
    rw [upTo_at i0 i1, upTo_at i0 i1]
    cases e : mt ms i with
    | none => rfl
    | some k =>
      have hk := o.pr i k i0 (by omega) e
      show (if _ then _ else _) = if _ then _ else _
      have n1 : ¬ (i = (g : Int) ∧ (g : Int) < k) := fun z => c ⟨k, by rw [← z.1]; exact e, z.2⟩
      have n2 : ¬ (k = (g : Int) ∧ (g : Int) < i) := fun z => c ⟨i, by rw [← z.1]; exact hk.2.2.1, z.2⟩
      have n3 : ¬ (i = (g : Int) ∧ k = (g : Int)) := fun z => by
        have q := hk.2.2.2
        rw [z.1, z.2, suitsB_self hG (by omega) (by omega)] at q
        cases q
      have : (i < ((g + 1 : Nat) : Int) ∨ k < ((g + 1 : Nat) : Int)) ↔ (i < (g : Int) ∨ k < (g : Int)) := by omega
      by_cases c3 : i < (g : Int) ∨ k < (g : Int)
      · rw [if_pos c3, if_pos (this.mpr c3)]
      · rw [if_neg c3, if_neg (fun z => c3 (this.mp z))]
theorem all_in {ws : List (List Int)} (hG : Good ws) {ms : List (Option Int)} (o : OkMates ws ms) : ms ∈ allTwos ws := by
  have key : ∀ g, g ≤ ws.length → upTo g ms ∈ stageL ws g := by
    intro g
    induction g with
    | zero => exact fun _ => by rw [upTo_zero o]; exact List.mem_singleton.mpr rfl
    | succ g ih => exact fun hg => List.mem_flatMap.mpr ⟨_, ih (by omega), upTo_step hG o (by omega)⟩
  have := key ws.length (Nat.le_refl _)
  rw [upTo_all o] at this
  exact this
end B2

namespace B2
open PySem L2
def top (i : Nat) : Stmt := PySem.Challenge.pw_bedtwos_k03_other_refusals.main.body.getD i (.Pass ⟨0, 0, 0, 0⟩)
abbrev s_is_guest : Stmt := top 9
abbrev s_need_row : Stmt := top 10
abbrev s_need_wishes : Stmt := top 11
abbrev s_need_guest : Stmt := top 12
abbrev s_in_both : Stmt := top 13
abbrev s_is_ahead : Stmt := top 14
abbrev s_suits : Stmt := top 15
abbrev s_rather : Stmt := top 16
abbrev s_need_mates : Stmt := top 18
abbrev s_restless_pairs : Stmt := top 19
abbrev s_restless : Stmt := top 20
abbrev s_calm : Stmt := top 21
abbrev s_joined : Stmt := top 22
abbrev s_settled : Stmt := top 23
abbrev s_all_twos : Stmt := top 24
abbrev s_all_calm : Stmt := top 25
abbrev s_need_parties : Stmt := top 29
abbrev s_rings : Stmt := top 36
abbrev s_holds : Stmt := top 37
abbrev s_paired : Stmt := top 38
abbrev s_cell_at : Stmt := top 40
abbrev s_row_by : Stmt := top 41
abbrev s_wishes_by : Stmt := top 42
abbrev s_lguest_asked : Stmt := top 43
abbrev s_lasked : Stmt := top 44
abbrev s_ltold : Stmt := top 45
abbrev s_lbased : Stmt := top 46
abbrev s_lbad_mates : Stmt := top 47
abbrev s_lbad_after : Stmt := top 48
abbrev s_lbad_row : Stmt := top 49
abbrev s_law : Stmt := top 50
abbrev s_inn_init : Stmt := inClass (top 27) 0
abbrev s_inn_turn : Stmt := inClass (top 27) 1
abbrev s_inn_twos : Stmt := inClass (top 27) 2
abbrev s_inn_table : Stmt := inClass (top 27) 3
abbrev s_inn_settle : Stmt := inClass (top 27) 4
/-- the names of the machine's own -/
structure Own (mg : Str → Option Value) : Prop where
  len : mg "len" = none
  rng : mg "range" = none
  isI : mg "isinstance" = none
  int : mg "int" = none
  bool : mg "bool" = none
  list : mg "list" = none
  set : mg "set" = none
  enm : mg "enumerate" = none
  all : mg "all" = none
  tup : mg "tuple" = none
end B2

namespace B2
open PySem L2

/-- what a caller wants of a def: it stands under its name, it keeps its promise -/
structure Cal (P : Program) (w : World) (K : PySem.W.Frag) (mg : Str → Option Value) (base : Heap) (k : Nat) (x : Str) (ps : List Str) (sp : Sp) : Prop where
  ex : ∃ (g : Addr) (gd : FuncData), FnOk P w K mg base CX0 k g gd ps sp ∧ mg x = some (.ref g) ∧ PySem.W.keepIn K (.ref g) = true ∧ Binds K gd ps []

theorem kit_ii {K : PySem.W.Frag} : PySem.W.kitOne K (.type "int") (.type "int") = some true := kit_ty (by decide +kernel)
theorem kit_ib {K : PySem.W.Frag} : PySem.W.kitOne K (.type "int") (.type "bool") = some false := kit_ty (by decide +kernel)
theorem kit_bb {K : PySem.W.Frag} : PySem.W.kitOne K (.type "bool") (.type "bool") = some true := kit_ty (by decide +kernel)
theorem kit_ll {K : PySem.W.Frag} : PySem.W.kitOne K (.type "list") (.type "list") = some true := kit_ty (by decide +kernel)
theorem ty_list {K : PySem.W.Frag} {H : Hp} {a : Addr} {xs : List V} (h : SqL K H a xs) : TyX K H (.ref a) (.type "list") := by
  rcases h with h | ⟨o, its, n, h, hc, _⟩
  · rcases h with h | ⟨o, h⟩
    · exact .base (.lst h)
    · exact .base (.frz h)
  · exact .kList h hc
end B2

namespace B2
open PySem L2

/-- no whole number: another kind, or a truth -/
def NotInt (K : PySem.W.Frag) (H : Hp) (x : V) : Prop := ∃ t, TyX K H x t ∧ (PySem.W.kitOne K t (.type "int") = some false ∨ (PySem.W.kitOne K t (.type "int") = some true ∧ PySem.W.kitOne K t (.type "bool") = some true))
def NotList (K : PySem.W.Frag) (H : Hp) (x : V) : Prop := ∃ t, TyX K H x t ∧ PySem.W.kitOne K t (.type "list") = some false
/-- no wish of guest g, one of n -/
def BadWish (K : PySem.W.Frag) (H : Hp) (n : Nat) (g : Int) (x : V) : Prop := NotInt K H x ∨ ∃ y : Int, x = V.int y ∧ ¬ (0 ≤ y ∧ y < (n : Int) ∧ y ≠ g)
/-- what can't be the list of guest g, one of n -/
def RowBad (K : PySem.W.Frag) (H : Hp) (n : Nat) (g : Int) (v : V) : Prop :=
  NotList K H v ∨
  (∃ (b : Addr) (xs : List V) (j : Nat) (x : V), v = V.ref b ∧ SqL K H b xs ∧ xs[j]? = some x ∧ (∀ i, i < j → ∃ y : Int, xs[i]? = some (V.int y) ∧ 0 ≤ y ∧ y < (n : Int) ∧ y ≠ g) ∧ BadWish K H n g x) ∨
  (∃ (b : Addr) (ns : List Int), v = V.ref b ∧ SqL K H b (ns.map V.int) ∧ (∀ y ∈ ns, 0 ≤ y ∧ y < (n : Int) ∧ y ≠ g) ∧ ¬ ns.Nodup ∧ ns.length ≤ 64)
/-- what is no table of wishes -/
def TabBad (K : PySem.W.Frag) (H : Hp) (v : V) : Prop :=
  NotList K H v ∨
  (∃ (a : Addr) (xs : List V), v = V.ref a ∧ SqL K H a xs ∧ (xs.length = 0 ∨ xs.length = 7)) ∨
  (∃ (a : Addr) (xs : List V) (g : Nat) (x : V), v = V.ref a ∧ SqL K H a xs ∧ 1 ≤ xs.length ∧ xs.length ≤ 6 ∧ xs[g]? = some x ∧
    (∀ i, i < g → ∃ (b : Addr) (r : List Int), xs[i]? = some (V.ref b) ∧ SqL K H b (r.map V.int) ∧ GoodRow xs.length (i : Int) r) ∧ RowBad K H xs.length (g : Int) x)

theorem tyOf_same {K : PySem.W.Frag} {H H' : Hp} {x : V} {t : Value} (e : Same H H') (h : TyOf K H x t) : TyOf K H' x t := by
  cases h with
  | non => exact .non
  | bl b => exact .bl b
  | int i => exact .int i
  | str s => exact .str s
  | flt f => exact .flt f
  | lst h => exact .lst (e _ _ h)
  | frz h => exact .frz (e _ _ h)
  | tup h => exact .tup (e _ _ h)
  | dK h => exact .dK (e _ _ h)
  | dT h => exact .dT (e _ _ h)
  | ins h a b c d f => exact .ins (e _ _ h) a b c d f
theorem tyX_same {K : PySem.W.Frag} {H H' : Hp} {x : V} {t : Value} (e : Same H H') (h : TyX K H x t) : TyX K H' x t := by
  cases h with
  | base h => exact .base (tyOf_same e h)
  | byt b => exact .byt b
  | set h => exact .set (e _ _ h)
  | kList h c => exact .kList h c
  | kTuple h c => exact .kTuple h c
  | kDict h c => exact .kDict h c
  | fTuple h => exact .fTuple (e _ _ h)
  | fDict h => exact .fDict (e _ _ h)
theorem NotInt.same {K : PySem.W.Frag} {H H' : Hp} {x : V} (h : NotInt K H x) (e : Same H H') : NotInt K H' x := by
  obtain ⟨t, ty, r⟩ := h
  exact ⟨t, tyX_same e ty, r⟩
theorem NotList.same {K : PySem.W.Frag} {H H' : Hp} {x : V} (h : NotList K H x) (e : Same H H') : NotList K H' x := by
  obtain ⟨t, ty, r⟩ := h
  exact ⟨t, tyX_same e ty, r⟩
theorem RowBad.same {K : PySem.W.Frag} {H H' : Hp} {n : Nat} {g : Int} {v : V} (h : RowBad K H n g v) (e : Same H H') : RowBad K H' n g v := by
  rcases h with h | ⟨b, xs, j, x, e1, hS, hj, hb, hbad⟩ | ⟨b, ns, e1, hS, r⟩
  · exact .inl (h.same e)
  · refine .inr (.inl ⟨b, xs, j, x, e1, e.seq hS, hj, hb, ?_⟩)
    rcases hbad with z | z
    · exact .inl (z.same e)
    · exact .inr z
  · exact .inr (.inr ⟨b, ns, e1, e.seq hS, r⟩)

section
variable {P : Program} {w : World} {K : PySem.W.Frag} {mg : Str → Option Value} {base : Heap}

/-! ### is_guest -/
theorem sc_is_guest : FnScope ["number", "many"] ["number", "many"] (defScope s_is_guest) := ⟨rfl, rfl, rfl, by decide +kernel, rfl, by decide +kernel, by decide +kernel⟩
def sp_is_guestX (K : PySem.W.Frag) : Sp := fun vs H Q _ => ∃ (x : V) (n : Int), vs = [x, .int n] ∧ ((∃ i : Int, x = V.int i ∧ Q (.bl (decide (0 ≤ i ∧ i < n))) H) ∨ (NotInt K H x ∧ Q (.bl false) H))
theorem ok_is_guestX {f : Addr} {fd : FuncData} (F : Fun K "is_guest" "is_guest" s_is_guest f fd) (T : Own mg) : FnOk P w K mg base CX0 1 f fd ["number", "many"] (sp_is_guestX K) := by
  refine F.ok sc_is_guest (fun vs H Q E h => ?_) (fun cdv A outer s H vs Q E hr h => ?_)
  · obtain ⟨i, n, rfl, _⟩ := h
    rfl
  obtain ⟨x, n, rfl, q⟩ := h
  refine ⟨_, pss_cons (ps_if (PW.pt (pw_or (pt_not (pt_val (pe_callB call_isi (by rfl) T.isI (by decide +kernel) (pa_cons (pv 0) (pa_cons (pe_bltn (v := .ty "int") (by rfl) T.int (by decide +kernel) rfl) pa_nil)))))
      (pw_or1 (pt_val (pe_callB call_isi (by rfl) T.isI (by decide +kernel) (pa_cons (pv 0) (pa_cons (pe_bltn (v := .ty "bool") (by rfl) T.bool (by decide +kernel) rfl) pa_nil))))))) (pss_one (ps_ret pe_bl)) pss_nil)
    (pss_one (ps_ret (pe_chain op_le op_lt pe_int (pv 0) (pv 1)))), ?_⟩
  rcases q with ⟨i, rfl, q⟩ | ⟨⟨t, ty, h | ⟨h1, h2⟩⟩, q⟩
  · refine ⟨_, rfl, _, _, _, _, _, rfl, .ty _, .base (.int i), kit_ii, _, rfl, iteF ⟨_, rfl, _, _, _, _, _, rfl, .ty _, .base (.int i), kit_ib, _, rfl, iteF ⟨_, rfl, _, _, rfl, rfl, _, rfl, ?_⟩⟩⟩
    refine ite2 (fun c => ?_) (fun c => ?_)
    · have c' : (0 : Int) ≤ i := of_decide_eq_true c
      refine ⟨_, rfl, _, _, rfl, rfl, ?_⟩
      have e : decide (i < n) = decide (0 ≤ i ∧ i < n) := by
        by_cases h : i < n
        · rw [decide_eq_true h, decide_eq_true ⟨c', h⟩]
        · rw [decide_eq_false h, decide_eq_false (fun z => h z.2)]
      show Q (.bl (decide (i < n))) H
      rw [e]; exact q
    · have c' : ¬ (0 : Int) ≤ i := of_decide_eq_false (Bool.eq_false_iff.mpr c)
      have e : decide (0 ≤ i ∧ i < n) = false := decide_eq_false (fun z => c' z.1)
      rw [e] at q; exact q
  · exact ⟨_, rfl, _, _, _, _, _, rfl, .ty _, ty, h, _, rfl, iteT q⟩
  · exact ⟨_, rfl, _, _, _, _, _, rfl, .ty _, ty, h1, _, rfl, iteF ⟨_, rfl, _, _, _, _, _, rfl, .ty _, ty, h2, _, rfl, iteT q⟩⟩

/-! ### need_row -/
theorem sc_need_row : FnScope ["row", "guest", "many", "wish"] ["row", "guest", "many"] (defScope s_need_row) := ⟨rfl, rfl, rfl, by decide +kernel, rfl, by decide +kernel, by decide +kernel⟩
def sp_need_rowX (K : PySem.W.Frag) (C : Addr) : Sp := fun vs H Q E => ∃ (v : V) (g : Int) (n : Nat), vs = [v, .int g, .int n] ∧ 0 ≤ g ∧ g ≤ 7 ∧
  ((∃ (b : Addr) (r : List Int), v = V.ref b ∧ SqL K H b (r.map V.int) ∧ GoodRow n g r ∧ Q .non H) ∨ (RowBad K H n g v ∧ E (.ref C) none H))
theorem ok_need_rowX {C : Addr} {f : Addr} {fd : FuncData} (F : Fun K "need_row" "need_row" s_need_row f fd) (T : Own mg) (W : ErrC K mg "BadWishes" C) (C1 : Cal P w K mg base 1 "is_guest" ["number", "many"] (sp_is_guestX K)) :
    FnOk P w K mg base (L2N.CX P w) 2 f fd ["row", "guest", "many"] (sp_need_rowX K C) := by
  obtain ⟨g1, gd1, G1, m1, k1, b1⟩ := C1
  refine F.okN sc_need_row (fun vs H Q E h => ?_) (fun cdv A outer s H vs Q E hr h => ?_)
  · obtain ⟨v, g, n, rfl, _⟩ := h
    rfl
  obtain ⟨v, g, n, rfl, g0, g7, q⟩ := h
  refine ⟨_, pss_cons (ps_if (pt_not (pt_val (pe_callB call_isi (by rfl) T.isI (by decide +kernel) (pa_cons (pv 0) (pa_cons (pe_bltn (v := .ty "list") (by rfl) T.list (by decide +kernel) rfl) pa_nil)))))
      (pss_one (L2N.ps_raise rfl (L2N.takes_of rfl rfl rfl rfl) (pmk_ownAN PySem.F.excBase_ValueError W.ex W.g W.k (raises_own W.b W.t) (by rfl) (pa_cons (pe_joined (.cons pe_str (.cons (pe_fmt (pv 1)) (.cons pe_str .nil)))) pa_nil)))) pss_nil)
    (pss_cons (ps_for (passes_of rfl) rfl (pi_list (pv 0)) (pg_name (i := 3) sc_need_row.nd rfl (Or.inl rfl))
      (pss_one (ps_if (PW.pt (pw_or (pt_not (pt_val (pe_call G1 hr (by rfl) m1 k1 b1 .nil pass0 (pa_cons (pv 3) (pa_cons (pv 2) pa_nil)))))
        (pw_or1 (pt_cmpR op_eq (pv 3) (pv 1) (nomark _)))))
        (pss_one (L2N.ps_raise rfl (L2N.takes_of rfl rfl rfl rfl) (pmk_ownAN PySem.F.excBase_ValueError W.ex W.g W.k (raises_own W.b W.t) (by rfl) (pa_cons (pe_joined (.cons pe_str (.cons (pe_fmt (pv 1)) (.cons pe_str .nil)))) pa_nil)))) pss_nil)))
    (pss_one (ps_if (pt_cmpR op_lt (pe_setLen (by rfl) T.len (by rfl) T.set (pv 0)) (pe_callB call_len_seq (by rfl) T.len PySem.boot_len (pa_cons (pv 0) pa_nil)) (nomark _))
      (pss_one (L2N.ps_raise rfl (L2N.takes_of rfl rfl rfl rfl) (pmk_ownAN PySem.F.excBase_ValueError W.ex W.g W.k (raises_own W.b W.t) (by rfl) (pa_cons (pe_joined (.cons pe_str (.cons (pe_fmt (pv 1)) (.cons pe_str .nil)))) pa_nil)))) pss_nil))), ?_⟩
  -- an error's text
  have txt : ∀ (σ : St) (c1 c2 : Str) (Q2 : Str → Hp → Prop), σ[1]? = some (some (.int g)) → c1.length ≤ 1000 → c2.length ≤ 1000 → (∀ out, Q2 out H) → tJs [tC (.str c1), tFmt (tVar 1), tC (.str c2)] Str.empty σ H Q2 := fun σ c1 c2 Q2 h1 l1 l2 q2 =>
    js_small _ _ _ (fun t ht => by
      rcases List.mem_cons.mp ht with e | ht
      · rw [e]; exact sm_str l1
      rcases List.mem_cons.mp ht with e | ht
      · rw [e]; exact sm_fmt (g := g) (fun Q q => ⟨_, h1, q⟩) g0 g7
      rw [List.mem_singleton] at ht
      rw [ht]; exact sm_str l2) (by rw [show Str.empty.length = 0 from rfl]; show 0 + 1000 * 3 ≤ 1000000; decide) q2
  rcases q with ⟨b, r, rfl, hS, hG, q⟩ | ⟨hB, q⟩
  · refine ⟨_, rfl, _, _, _, _, _, rfl, .ty _, ty_list hS, kit_ll, _, rfl, iteF ?_⟩
    refine ⟨_, rfl, b, rfl, ⟨_, hS⟩, for_list (K := K) (a := b) (xs := r.map V.int) (fun i σ H' => H' = H ∧ ∃ z, σ = [some (.ref b), some (.int g), some (.int n), z])
      ⟨rfl, none, rfl⟩ (fun i σ H' _ h => by rw [h.1]; exact hS) ?_ ?_⟩
    · rintro i x σ H' hx ⟨rfl, z, rfl⟩
      obtain ⟨y, hy, rfl⟩ := map_int_get hx
      obtain ⟨y0, y1, y2⟩ := hG.rg y (List.mem_of_getElem? hy)
      refine ⟨_, rfl, _, rfl, _, n, rfl, .inl ⟨y, rfl, _, rfl, ?_⟩⟩
      rw [decide_eq_true (And.intro y0 y1)]
      refine iteF ⟨_, rfl, _, rfl, rfl, _, rfl, ?_⟩
      rw [decide_eq_false (fun z => y2 (by cases z; rfl))]
      exact iteF ⟨rfl, _, rfl⟩
    · rintro σ H' ⟨rfl, z, rfl⟩
      have hl := hG.sm
      refine ⟨_, rfl, b, r, rfl, hS, by omega, _, rfl, b, _, rfl, .inl hS, _, _, rfl, rfl, _, rfl, ?_⟩
      rw [met_same hG.nd, List.length_map, decide_eq_false (show ¬ ((r.length : Nat) : Int) < ((r.length : Nat) : Int) by omega)]
      exact iteF q
  · rcases hB with ⟨t, ty, hk⟩ | ⟨b, xs, j, x, rfl, hS, hj, hbef, hbad⟩ | ⟨b, ns, rfl, hS, hv, hnd, hl⟩
    · refine ⟨_, rfl, _, _, _, _, _, rfl, .ty _, ty, hk, _, rfl, iteT ?_⟩
      exact txt _ _ _ _ rfl (by decide +kernel) (by decide +kernel) fun out => ⟨(by show 1 ≤ sizeLine; decide), q⟩
    · refine ⟨_, rfl, _, _, _, _, _, rfl, .ty _, ty_list hS, kit_ll, _, rfl, iteF ?_⟩
      refine ⟨_, rfl, b, rfl, ⟨_, hS⟩, for_list (K := K) (a := b) (xs := xs) (fun i σ H' => H' = H ∧ i ≤ j ∧ ∃ z, σ = [some (.ref b), some (.int g), some (.int n), z])
        ⟨rfl, Nat.zero_le _, none, rfl⟩ (fun i σ H' _ h => by rw [h.1]; exact hS) ?_ ?_⟩
      · rintro i u σ H' hu ⟨rfl, hij, z, rfl⟩
        by_cases c : i = j
        · subst c
          rw [hj] at hu
          cases hu
          rcases hbad with hN | ⟨y, rfl, hy⟩
          · refine ⟨_, rfl, _, rfl, _, n, rfl, .inr ⟨hN, _, rfl, iteT ?_⟩⟩
            exact txt _ _ _ _ rfl (by decide +kernel) (by decide +kernel) fun out => ⟨(by show 1 ≤ sizeLine; decide), q⟩
          · refine ⟨_, rfl, _, rfl, _, n, rfl, .inl ⟨y, rfl, _, rfl, ?_⟩⟩
            by_cases c2 : 0 ≤ y ∧ y < (n : Int)
            · rw [decide_eq_true c2]
              refine iteF ⟨_, rfl, _, rfl, rfl, _, rfl, ?_⟩
              have e : y = g := Classical.byContradiction fun z => hy ⟨c2.1, c2.2, z⟩
              rw [decide_eq_true (show V.int y = V.int g by rw [e])]
              exact iteT (txt _ _ _ _ rfl (by decide +kernel) (by decide +kernel) fun out => ⟨(by show 1 ≤ sizeLine; decide), q⟩)
            · rw [decide_eq_false c2]
              exact iteT (txt _ _ _ _ rfl (by decide +kernel) (by decide +kernel) fun out => ⟨(by show 1 ≤ sizeLine; decide), q⟩)
        · obtain ⟨y, hy, y0, y1, y2⟩ := hbef i (by omega)
          rw [hu] at hy
          cases hy
          refine ⟨_, rfl, _, rfl, _, n, rfl, .inl ⟨y, rfl, _, rfl, ?_⟩⟩
          rw [decide_eq_true (And.intro y0 y1)]
          refine iteF ⟨_, rfl, _, rfl, rfl, _, rfl, ?_⟩
          rw [decide_eq_false (fun z => y2 (by cases z; rfl))]
          exact iteF ⟨rfl, by omega, _, rfl⟩
      · rintro σ H' ⟨_, hij, _⟩
        have := (List.getElem?_eq_some_iff.mp hj).1
        omega
    · refine ⟨_, rfl, _, _, _, _, _, rfl, .ty _, ty_list hS, kit_ll, _, rfl, iteF ?_⟩
      refine ⟨_, rfl, b, rfl, ⟨_, hS⟩, for_list (K := K) (a := b) (xs := ns.map V.int) (fun i σ H' => H' = H ∧ ∃ z, σ = [some (.ref b), some (.int g), some (.int n), z])
        ⟨rfl, none, rfl⟩ (fun i σ H' _ h => by rw [h.1]; exact hS) ?_ ?_⟩
      · rintro i x σ H' hx ⟨rfl, z, rfl⟩
        obtain ⟨y, hy, rfl⟩ := map_int_get hx
        obtain ⟨y0, y1, y2⟩ := hv y (List.mem_of_getElem? hy)
        refine ⟨_, rfl, _, rfl, _, n, rfl, .inl ⟨y, rfl, _, rfl, ?_⟩⟩
        rw [decide_eq_true (And.intro y0 y1)]
        refine iteF ⟨_, rfl, _, rfl, rfl, _, rfl, ?_⟩
        rw [decide_eq_false (fun z => y2 (by cases z; rfl))]
        exact iteF ⟨rfl, _, rfl⟩
      · rintro σ H' ⟨rfl, z, rfl⟩
        refine ⟨_, rfl, b, ns, rfl, hS, by omega, _, rfl, b, _, rfl, .inl hS, _, _, rfl, rfl, _, rfl, ?_⟩
        have hlt := met_less hnd
        rw [List.length_map, decide_eq_true (show (((metN ns).length : Nat) : Int) < ((ns.length : Nat) : Int) by omega)]
        refine iteT ?_
        exact txt _ _ _ _ rfl (by decide +kernel) (by decide +kernel) fun out => ⟨(by show 1 ≤ sizeLine; decide), q⟩

/-! ### need_wishes -/
theorem sc_need_wishes : FnScope ["wishes", "many", "guest", "row"] ["wishes"] (defScope s_need_wishes) := ⟨rfl, rfl, rfl, by decide +kernel, rfl, by decide +kernel, by decide +kernel⟩
def sp_need_wishesX (K : PySem.W.Frag) (C : Addr) : Sp := fun vs H Q E => ∃ (v : V), vs = [v] ∧
  ((∃ a ws, v = V.ref a ∧ Tab K H a ws ∧ Good ws ∧ ∀ H', Same H H' → Q .non H') ∨ (TabBad K H v ∧ ∀ H', Same H H' → E (.ref C) none H'))
theorem ok_need_wishesX {C : Addr} {f : Addr} {fd : FuncData} (F : Fun K "need_wishes" "need_wishes" s_need_wishes f fd) (T : Own mg) (M : ∃ t, mg "MOST_GUESTS" = some (.int 6 t)) (W : ErrC K mg "BadWishes" C) (C1 : CalX P w K mg base 2 "need_row" ["row", "guest", "many"] (sp_need_rowX K C)) :
    FnOk P w K mg base (L2N.CX P w) 3 f fd ["wishes"] (sp_need_wishesX K C) := by
  obtain ⟨g1, gd1, G1, m1, k1, b1⟩ := C1
  obtain ⟨t, mM⟩ := M
  refine F.okN sc_need_wishes (fun vs H Q E h => ?_) (fun cdv A outer s H vs Q E hr h => ?_)
  · obtain ⟨v, rfl, _⟩ := h
    rfl
  obtain ⟨v, rfl, q⟩ := h
  refine ⟨_, pss_cons (ps_if (pt_not (pt_val (pe_callB call_isi (by rfl) T.isI (by decide +kernel) (pa_cons (pv 0) (pa_cons (pe_bltn (v := .ty "list") (by rfl) T.list (by decide +kernel) rfl) pa_nil)))))
      (pss_one (L2N.ps_raise rfl (L2N.takes_of rfl rfl rfl rfl) (L2N.pmk_own PySem.F.excBase_ValueError W.ex W.g W.k (raises_own W.b W.t) (by rfl)))) pss_nil)
    (pss_cons (ps_set (i := 1) sc_need_wishes.nd rfl (Or.inl rfl) (pe_callB call_len_seq (by rfl) T.len PySem.boot_len (pa_cons (pv 0) pa_nil)))
    (pss_cons (ps_if (pt_not (pt_chain op_le op_le pe_int (pv 1) (pe_glob (v := .int 6) rfl mM ⟨_, rfl⟩)))
      (pss_one (L2N.ps_raise rfl (L2N.takes_of rfl rfl rfl rfl) (pmk_ownAN PySem.F.excBase_ValueError W.ex W.g W.k (raises_own W.b W.t) (by rfl)
        (pa_cons (pe_joined (.cons pe_str (.cons (pe_fmt (pe_glob (v := .int 6) rfl mM ⟨_, rfl⟩)) (.cons pe_str (.cons (pe_fmt (pv 1)) .nil))))) pa_nil)))) pss_nil)
    (pss_one (ps_for (passes_of rfl) rfl (pi_enum (by rfl) T.enm (pa_cons (pv 0) pa_nil))
      (pg_tup (by rfl) (pgs_cons (pg_name (i := 2) sc_need_wishes.nd rfl (Or.inl rfl)) (pgs_cons (pg_name (i := 3) sc_need_wishes.nd rfl (Or.inl rfl)) pgs_nil)))
      (pss_one (ps_expr (pe_call G1 hr (by rfl) m1 k1 b1 .nil (L2N.passes_call (L2N.takes_of rfl rfl rfl rfl) fun _ _ _ _ h => h) (pa_cons (pv 3) (pa_cons (pv 2) (pa_cons (pv 1) pa_nil)))))))))), ?_⟩
  -- the rows one by one, until one is bad
  rcases q with ⟨a, ws, rfl, hT, hG, q⟩ | ⟨⟨t, ty, hk⟩ | ⟨a, xs, rfl, hS, hl⟩ | ⟨a, xs, g, x, rfl, hS, l1, l6, hg, hbef, hbad⟩, q⟩
  · obtain ⟨as, h1, h2, h3⟩ := id hT
    have hl : (as.map V.ref).length = ws.length := by rw [List.length_map]; exact h2
    have lo := hG.lo
    have hi := hG.hi
    refine ⟨_, rfl, _, _, _, _, _, rfl, .ty _, ty_list h1, kit_ll, _, rfl, iteF ?_⟩
    refine ⟨_, rfl, a, _, rfl, .inl h1, ?_⟩
    rw [hl]
    refine ⟨_, rfl, _, _, rfl, rfl, _, rfl, ?_⟩
    rw [decide_eq_true (show (1 : Int) ≤ ((ws.length : Nat) : Int) by omega)]
    refine iteT ⟨_, _, rfl, rfl, _, rfl, ?_⟩
    rw [decide_eq_true (show ((ws.length : Nat) : Int) ≤ 6 by omega)]
    refine iteF ?_
    refine ⟨_, rfl, a, _, rfl, h1, for_it walk_enum (fun i σ H' => Same H H' ∧ ∃ y z, σ = [some (.ref a), some (.int ws.length), y, z])
      ⟨Same.refl H, none, none, rfl⟩ (fun i σ H' _ h => h.1.seq h1) ?_ ?_⟩
    · rintro i x σ H' H2 hi' ⟨hs, y, z, rfl⟩ ⟨t, x1, x2, rfl, ht, rfl, ex1, ex2⟩
      rw [hl] at hi'
      cases ex1
      obtain ⟨b, hb, hsb⟩ := h3 i ws[i] (List.getElem?_eq_getElem hi')
      change (as.map V.ref)[i]? = some x2 at ex2
      rw [List.getElem?_map, hb] at ex2
      cases ex2
      have hs2 := hs.trans (same_new ht (.tup [V.int (i : Nat), V.ref b]))
      refine ⟨t, _, rfl, SqT.of upd_same, rfl, _, _, rfl, _, _, rfl, rfl, ?_⟩
      exact ⟨_, rfl, _, rfl, _, rfl, _, (i : Int), ws.length, rfl, by omega, by omega, .inl ⟨b, ws[i], rfl, hs2.seq hsb, hG.row i _ (List.getElem?_eq_getElem hi'), hs2, _, _, rfl⟩⟩
    · rintro σ H' ⟨hs, y, z, rfl⟩
      exact q H' hs
  · exact ⟨_, rfl, _, _, _, _, _, rfl, .ty _, ty, hk, _, rfl, iteT (q H (Same.refl H))⟩
  · refine ⟨_, rfl, _, _, _, _, _, rfl, .ty _, ty_list hS, kit_ll, _, rfl, iteF ?_⟩
    refine ⟨_, rfl, a, _, rfl, .inl hS, ?_⟩
    have txt : tJs [tC (.str ("there are from one to " : Str)), tFmt (tC (.int 6)), tC (.str (" guests, not " : Str)), tFmt (tVar 1)] Str.empty [some (V.ref a), some (.int (xs.length : Nat)), none, none] H (fun out H1 => ([V.str out] : List V).length ≤ sizeLine ∧ E (.ref C) none H1) :=
      js_small _ _ _ (fun t ht => by
        rcases List.mem_cons.mp ht with e | ht
        · rw [e]; exact sm_str (by decide +kernel)
        rcases List.mem_cons.mp ht with e | ht
        · rw [e]; exact sm_fmt (g := 6) (fun Q q => q) (by decide) (by decide)
        rcases List.mem_cons.mp ht with e | ht
        · rw [e]; exact sm_str (by decide +kernel)
        rw [List.mem_singleton] at ht
        rw [ht]
        exact sm_fmt (g := ((xs.length : Nat) : Int)) (fun Q q => ⟨_, rfl, q⟩) (by omega) (by omega)) (by rw [show Str.empty.length = 0 from rfl]; show 0 + 1000 * 4 ≤ 1000000; decide) fun out => ⟨(by show 1 ≤ sizeLine; decide), q H (Same.refl H)⟩
    refine ⟨_, rfl, _, _, rfl, rfl, _, rfl, ?_⟩
    rcases hl with hl | hl
    · rw [decide_eq_false (show ¬ (1 : Int) ≤ ((xs.length : Nat) : Int) by omega)]
      exact ⟨_, rfl, txt⟩
    · rw [decide_eq_true (show (1 : Int) ≤ ((xs.length : Nat) : Int) by omega)]
      refine iteT ⟨_, _, rfl, rfl, _, rfl, ?_⟩
      rw [decide_eq_false (show ¬ ((xs.length : Nat) : Int) ≤ 6 by omega)]
      exact txt
  · refine ⟨_, rfl, _, _, _, _, _, rfl, .ty _, ty_list hS, kit_ll, _, rfl, iteF ?_⟩
    refine ⟨_, rfl, a, _, rfl, .inl hS, ?_⟩
    refine ⟨_, rfl, _, _, rfl, rfl, _, rfl, ?_⟩
    rw [decide_eq_true (show (1 : Int) ≤ ((xs.length : Nat) : Int) by omega)]
    refine iteT ⟨_, _, rfl, rfl, _, rfl, ?_⟩
    rw [decide_eq_true (show ((xs.length : Nat) : Int) ≤ 6 by omega)]
    refine iteF ?_
    refine ⟨_, rfl, a, _, rfl, hS, for_it walk_enum (fun i σ H' => Same H H' ∧ i ≤ g ∧ ∃ y z, σ = [some (.ref a), some (.int xs.length), y, z])
      ⟨Same.refl H, Nat.zero_le _, none, none, rfl⟩ (fun i σ H' _ h => h.1.seq hS) ?_ ?_⟩
    · rintro i u σ H' H2 hi' ⟨hs, hig, y, z, rfl⟩ ⟨t, x1, x2, rfl, ht, rfl, ex1, ex2⟩
      cases ex1
      change xs[i]? = some x2 at ex2
      have hs2 := hs.trans (same_new ht (.tup [V.int (i : Nat), x2]))
      refine ⟨t, _, rfl, SqT.of upd_same, rfl, _, _, rfl, _, _, rfl, rfl, ?_⟩
      by_cases c : i = g
      · subst c
        rw [hg] at ex2
        cases ex2
        exact ⟨_, rfl, _, rfl, _, rfl, _, (i : Int), xs.length, rfl, by omega, by omega, .inr ⟨hbad.same hs2, q _ hs2⟩⟩
      · obtain ⟨b, r, hb, hsb, hgr⟩ := hbef i (by omega)
        rw [hb] at ex2
        cases ex2
        exact ⟨_, rfl, _, rfl, _, rfl, _, (i : Int), xs.length, rfl, by omega, by omega, .inl ⟨b, r, rfl, hs2.seq hsb, hgr, hs2, by omega, _, _, rfl⟩⟩
    · rintro σ H' ⟨hs, hig, _⟩
      have := (List.getElem?_eq_some_iff.mp hg).1
      omega

/-! ### Whoever asks need_wishes first refuses as it does -/
theorem pe_no {X : Cx} {e : Expr} : PE X e (fun _ _ _ => False) := ⟨fun _ _ _ _ _ _ h => h.elim⟩
theorem pt_no {X : Cx} {e : Expr} : PT X e (fun _ _ _ => False) := ⟨fun _ _ _ _ _ _ h => h.elim⟩
def sp_bad (K : PySem.W.Frag) (C : Addr) (n : Nat) : Sp := fun vs H _ E => vs.length = n ∧ ∃ v r, vs = v :: r ∧ TabBad K H v ∧ ∀ H', Same H H' → E (.ref C) none H'

theorem pss_no {X : Cx} {st : List Stmt} : PSs X st (fun _ _ _ => False) := ⟨fun _ _ _ _ _ _ h => h.elim⟩
end
end B2

namespace B2
open PySem L2
/-! ### What the defs that may raise promise to those who hand in what is right -/
theorem codeAny_up {P : Program} {w : World} {K : PySem.W.Frag} {mg : Str → Option Value} {base : Heap} {k : Nat} {f : Addr} {fd : FuncData} {ps : List Str} {sp : Sp} (F : FnOk P w K mg base CX0 k f fd ps sp) : FnOk P w K mg base (L2N.CX P w) k f fd ps sp := by
  refine ⟨F.len, fun A outer s H args us vs Q E hr he hb hv hs => ?_⟩
  refine codeAny_mono (F.run A outer s H args us vs Q E hr he hb hv hs) fun r s' c => ?_
  cases r with
  | ok v => cases v <;> exact c
  | error e => exact (show False from c).elim
theorem fn_calm {P : Program} {w : World} {K : PySem.W.Frag} {mg : Str → Option Value} {base : Heap} {k : Nat} {f : Addr} {fd : FuncData} {ps : List Str} {sp sp' : Sp} (F : FnOk P w K mg base (L2N.CX P w) k f fd ps sp)
    (h : ∀ vs H Q E, sp' vs H Q E → sp vs H Q (fun _ _ _ => False)) : FnOk P w K mg base CX0 k f fd ps sp' := by
  refine ⟨fun vs H Q E q => F.len vs H Q _ (h _ _ _ _ q), fun A outer s H args us vs Q E hr he hb hv hs => ?_⟩
  refine codeAny_mono (F.run A outer s H args us vs Q _ hr he hb hv (h _ _ _ _ hs)) fun r s' c => ?_
  cases r with
  | ok v => cases v <;> exact c
  | error e =>
    obtain ⟨_, _, _, _, _, _, _, _, _, _, _, _, z⟩ := (show L2N.CX P w outer H s (fun _ _ _ => False) e s' from c)
    exact z.elim
theorem CalX.calm {P : Program} {w : World} {K : PySem.W.Frag} {mg : Str → Option Value} {base : Heap} {k : Nat} {x : Str} {ps : List Str} {sp sp' : Sp} (C : CalX P w K mg base k x ps sp)
    (h : ∀ vs H Q E, sp' vs H Q E → sp vs H Q (fun _ _ _ => False)) : Cal P w K mg base k x ps sp' := by
  obtain ⟨g, gd, G, m, kk, b⟩ := C
  exact ⟨g, gd, fn_calm G h, m, kk, b⟩
theorem CalX.imp {P : Program} {w : World} {K : PySem.W.Frag} {mg : Str → Option Value} {base : Heap} {k : Nat} {x : Str} {ps : List Str} {sp sp' : Sp} (C : CalX P w K mg base k x ps sp)
    (h : ∀ vs H Q E, sp' vs H Q E → sp vs H Q E) : CalX P w K mg base k x ps sp' := by
  obtain ⟨g, gd, G, m, kk, b⟩ := C
  exact ⟨g, gd, G.imp h, m, kk, b⟩
theorem Cal.imp {P : Program} {w : World} {K : PySem.W.Frag} {mg : Str → Option Value} {base : Heap} {k : Nat} {x : Str} {ps : List Str} {sp sp' : Sp} (C : Cal P w K mg base k x ps sp)
    (h : ∀ vs H Q E, sp' vs H Q E → sp vs H Q E) : Cal P w K mg base k x ps sp' := by
  obtain ⟨g, gd, G, m, kk, b⟩ := C
  exact ⟨g, gd, G.imp h, m, kk, b⟩
end B2

namespace B2
open PySem L2
section
variable {P : Program} {w : World} {K : PySem.W.Frag} {mg : Str → Option Value} {base : Heap}
def sp_is_guest : Sp := fun vs H Q _ => ∃ (i n : Int), vs = [.int i, .int n] ∧ Q (.bl (decide (0 ≤ i ∧ i < n))) H
theorem cal_is_guest (D : Cal P w K mg base 1 "is_guest" ["number", "many"] (sp_is_guestX K)) : Cal P w K mg base 1 "is_guest" ["number", "many"] sp_is_guest :=
  D.imp fun vs H Q E ⟨i, n, e, q⟩ => ⟨.int i, n, e, .inl ⟨i, rfl, q⟩⟩
def sp_need_wishes (K : PySem.W.Frag) : Sp := fun vs H Q _ => ∃ (a : Addr) (ws : List (List Int)), vs = [.ref a] ∧ Tab K H a ws ∧ Good ws ∧ ∀ H', Same H H' → Q .non H'
theorem cal_need_wishes {C : Addr} (D : CalX P w K mg base 3 "need_wishes" ["wishes"] (sp_need_wishesX K C)) : Cal P w K mg base 3 "need_wishes" ["wishes"] (sp_need_wishes K) :=
  D.calm fun vs H Q E ⟨a, ws, e, hT, hG, q⟩ => ⟨.ref a, e, .inl ⟨a, ws, rfl, hT, hG, q⟩⟩

/-! ### need_guest -/
theorem sc_need_guest : FnScope ["wishes", "guest"] ["wishes", "guest"] (defScope s_need_guest) := ⟨rfl, rfl, rfl, by decide +kernel, rfl, by decide +kernel, by decide +kernel⟩
/-- no guest, of n -/
def GuestBad (K : PySem.W.Frag) (H : Hp) (n : Nat) (x : V) : Prop := NotInt K H x ∨ ∃ i : Int, x = V.int i ∧ ¬ (0 ≤ i ∧ i < (n : Int))
theorem GuestBad.same {H H' : Hp} {n : Nat} {x : V} (h : GuestBad K H n x) (e : Same H H') : GuestBad K H' n x := by
  rcases h with h | h
  · exact .inl (h.same e)
  · exact .inr h
def sp_need_guestX (K : PySem.W.Frag) (C : Addr) : Sp := fun vs H Q E => ∃ (a : Addr) (xs : List V) (x : V), vs = [.ref a, x] ∧ SqL K H a xs ∧ 1 ≤ xs.length ∧ xs.length ≤ 6 ∧
  ((∃ i : Int, x = V.int i ∧ 0 ≤ i ∧ i < (xs.length : Int) ∧ Q .non H) ∨ (GuestBad K H xs.length x ∧ E (.ref C) none H))
theorem ok_need_guestX {C : Addr} {f : Addr} {fd : FuncData} (F : Fun K "need_guest" "need_guest" s_need_guest f fd) (T : Own mg) (W : ErrC K mg "BadGuest" C) (C1 : Cal P w K mg base 1 "is_guest" ["number", "many"] (sp_is_guestX K)) :
    FnOk P w K mg base (L2N.CX P w) 2 f fd ["wishes", "guest"] (sp_need_guestX K C) := by
  obtain ⟨g1, gd1, G1, m1, k1, b1⟩ := C1
  refine F.okN sc_need_guest (fun vs H Q E h => ?_) (fun cdv A outer s H vs Q E hr h => ?_)
  · obtain ⟨a, xs, x, rfl, _⟩ := h
    rfl
  obtain ⟨a, xs, x, rfl, hS, l1, l6, q⟩ := h
  refine ⟨_, pss_one (ps_if (pt_not (pt_val (pe_call G1 hr (by rfl) m1 k1 b1 .nil pass0 (pa_cons (pv 1) (pa_cons (pe_callB call_len_seq (by rfl) T.len PySem.boot_len (pa_cons (pv 0) pa_nil)) pa_nil)))))
    (pss_one (L2N.ps_raise rfl (L2N.takes_of rfl rfl rfl rfl) (pmk_ownAN PySem.F.excBase_ValueError W.ex W.g W.k (raises_own W.b W.t) (by rfl)
      (pa_cons (pe_joined (.cons pe_str (.cons (pe_fmt (pe_op op_sub (pe_callB call_len_seq (by rfl) T.len PySem.boot_len (pa_cons (pv 0) pa_nil)) pe_int)) .nil))) pa_nil)))) pss_nil), ?_⟩
  rcases q with ⟨i, rfl, i0, i1, q⟩ | ⟨hN | ⟨i, rfl, hi⟩, q⟩
  · refine ⟨_, rfl, _, rfl, a, xs, rfl, .inl hS, _, _, rfl, .inl ⟨i, rfl, _, rfl, ?_⟩⟩
    rw [decide_eq_true (And.intro i0 i1)]
    exact iteF q
  · refine ⟨_, rfl, _, rfl, a, xs, rfl, .inl hS, _, _, rfl, .inr ⟨hN, _, rfl, iteT ?_⟩⟩
    exact js_small _ _ _ (fun t ht => by
      rcases List.mem_cons.mp ht with e | ht
      · rw [e]; exact sm_str (by decide +kernel)
      rw [List.mem_singleton] at ht
      rw [ht]; exact sm_fmt (g := (xs.length : Int) - 1) (fun Q q => ⟨_, rfl, a, xs, rfl, .inl hS, _, _, rfl, rfl, q⟩) (by omega) (by omega)) (by rw [show Str.empty.length = 0 from rfl]; show 0 + 1000 * 2 ≤ 1000000; decide) fun out => ⟨(by show 1 ≤ sizeLine; decide), q⟩
  · refine ⟨_, rfl, _, rfl, a, xs, rfl, .inl hS, _, _, rfl, .inl ⟨i, rfl, _, rfl, ?_⟩⟩
    rw [decide_eq_false hi]
    exact iteT (js_small _ _ _ (fun t ht => by
      rcases List.mem_cons.mp ht with e | ht
      · rw [e]; exact sm_str (by decide +kernel)
      rw [List.mem_singleton] at ht
      rw [ht]; exact sm_fmt (g := (xs.length : Int) - 1) (fun Q q => ⟨_, rfl, a, xs, rfl, .inl hS, _, _, rfl, rfl, q⟩) (by omega) (by omega)) (by rw [show Str.empty.length = 0 from rfl]; show 0 + 1000 * 2 ≤ 1000000; decide) fun out => ⟨(by show 1 ≤ sizeLine; decide), q⟩)
end
end B2

namespace B2
open PySem L2
section
variable {P : Program} {w : World} {K : PySem.W.Frag} {mg : Str → Option Value} {base : Heap}

/-! ### in_both -/
theorem sc_in_both : FnScope ["wishes", "one", "other"] ["wishes", "one", "other"] (defScope s_in_both) := ⟨rfl, rfl, rfl, by decide +kernel, rfl, by decide +kernel, by decide +kernel⟩
def sp_in_both (K : PySem.W.Frag) : Sp := fun vs H Q _ => ∃ (a : Addr) (ws : List (List Int)) (i j : Int), vs = [.ref a, .int i, .int j] ∧ Tab K H a ws ∧
  0 ≤ i ∧ i < (ws.length : Int) ∧ 0 ≤ j ∧ j < (ws.length : Int) ∧ Q (.bl (suitsB ws i j)) H
theorem ok_in_both {f : Addr} {fd : FuncData} (F : Fun K "in_both" "in_both" s_in_both f fd) : FnOk P w K mg base CX0 1 f fd ["wishes", "one", "other"] (sp_in_both K) := by
  refine F.ok sc_in_both (fun vs H Q E h => ?_) (fun cdv A outer s H vs Q E hr h => ?_)
  · obtain ⟨a, ws, i, j, rfl, _⟩ := h
    rfl
  obtain ⟨a, ws, i, j, rfl, hT, i0, i1, j0, j1, q⟩ := h
  refine ⟨_, pss_one (ps_ret (pe_and (pe_cmpR op_in_seq (pv 2) (pe_ix ix_list (pv 0) (pv 1) (fun _ _ => rfl)) (by rfl))
    (pe_one (pe_cmpR op_in_seq (pv 1) (pe_ix ix_list (pv 0) (pv 2) (fun _ _ => rfl)) (by rfl))))), ?_⟩
  obtain ⟨as, h1, h2, h3⟩ := hT.at
  obtain ⟨bi, hbi, hsi⟩ := h3 i i0 i1
  obtain ⟨bj, hbj, hsj⟩ := h3 j j0 j1
  refine ⟨_, rfl, _, rfl, _, rfl, a, _, _, _, rfl, rfl, h1, hbi, bi, _, rfl, .inl hsi, rfl, flat_ints _, _, rfl, ?_⟩
  show if inV (.int j) ((rowOf ws i).map V.int) = true then _ else _
  rw [inV_int]
  refine ite2 (fun c => ?_) (fun c => ?_)
  · refine ⟨_, rfl, _, rfl, _, rfl, a, _, _, _, rfl, rfl, h1, hbj, bj, _, rfl, .inl hsj, rfl, flat_ints _, ?_⟩
    show Q (.bl (inV (.int i) ((rowOf ws j).map V.int))) H
    rw [inV_int]
    have e : suitsB ws i j = decide (i ∈ rowOf ws j) := by unfold suitsB; rw [c, Bool.true_and]
    rw [← e]; exact q
  · have e : suitsB ws i j = false := by unfold suitsB; rw [Bool.eq_false_iff.mpr c, Bool.false_and]
    rw [e] at q; exact q

/-! ### is_ahead -/
theorem sc_is_ahead : FnScope ["wishes", "guest", "one", "other", "row"] ["wishes", "guest", "one", "other"] (defScope s_is_ahead) := ⟨rfl, rfl, rfl, by decide +kernel, rfl, by decide +kernel, by decide +kernel⟩
def sp_is_ahead (K : PySem.W.Frag) : Sp := fun vs H Q _ => ∃ (a : Addr) (ws : List (List Int)) (g : Int) (x y : Option Int), vs = [.ref a, .int g, ov x, ov y] ∧ Tab K H a ws ∧
  0 ≤ g ∧ g < (ws.length : Int) ∧ OkO ws.length x ∧ OkO ws.length y ∧ Q (.bl (aheadB ws g x y)) H
theorem ok_is_ahead {f : Addr} {fd : FuncData} (F : Fun K "is_ahead" "is_ahead" s_is_ahead f fd) (C1 : Cal P w K mg base 1 "in_both" ["wishes", "one", "other"] (sp_in_both K)) :
    FnOk P w K mg base CX0 2 f fd ["wishes", "guest", "one", "other"] (sp_is_ahead K) := by
  obtain ⟨g1, gd1, G1, m1, k1, b1⟩ := C1
  refine F.ok sc_is_ahead (fun vs H Q E h => ?_) (fun cdv A outer s H vs Q E hr h => ?_)
  · obtain ⟨a, ws, g, x, y, rfl, _⟩ := h
    rfl
  obtain ⟨a, ws, g, x, y, rfl, hT, g0, g1, hx, hy, q⟩ := h
  refine ⟨_, pss_cons (ps_if (PW.pt (pw_or (pt_cmpR op_eq (pv 2) (pv 3) (nomark _)) (pw_or (pt_cmpR op_isN (pv 2) pe_non (nomark _))
      (pw_or1 (pt_not (pt_val (pe_call G1 hr (by rfl) m1 k1 b1 .nil pass0 (pa_cons (pv 0) (pa_cons (pv 1) (pa_cons (pv 2) pa_nil))))))))))
      (pss_one (ps_ret pe_bl)) pss_nil)
    (pss_cons (ps_if (PW.pt (pw_or (pt_cmpR op_isN (pv 3) pe_non (nomark _))
      (pw_or1 (pt_not (pt_val (pe_call G1 hr (by rfl) m1 k1 b1 .nil pass0 (pa_cons (pv 0) (pa_cons (pv 1) (pa_cons (pv 3) pa_nil)))))))))
      (pss_one (ps_ret pe_bl)) pss_nil)
    (pss_cons (ps_set (i := 4) sc_is_ahead.nd rfl (Or.inl rfl) (pe_ix ix_list (pv 0) (pv 1) (fun _ _ => rfl)))
    (pss_one (ps_ret (pe_cmpR op_lt
      (pe_bm PySem.F.plainAttrs_list PySem.F.slot_list_index PySem.F.type_list_index mt_index (pv 4) (pa_cons (pv 2) pa_nil))
      (pe_bm PySem.F.plainAttrs_list PySem.F.slot_list_index PySem.F.type_list_index mt_index (pv 4) (pa_cons (pv 3) pa_nil)) (nomark _)))))), ?_⟩
  refine ⟨_, rfl, _, rfl, (by cases x <;> cases y <;> rfl), _, rfl, ?_⟩
  rw [ov_dec]
  refine ite2 (fun c => ?_) (fun c => ?_)
  · have c' : x = y := of_decide_eq_true c
    subst c'
    have e : aheadB ws g x x = false := by
      cases x with
      | none => rfl
      | some a =>
        show (if a = a then false else _) = false
        rw [if_pos rfl]
    rw [e] at q; exact q
  have c' : ¬ x = y := of_decide_eq_false (Bool.eq_false_iff.mpr c)
  refine ⟨_, rfl, rfl, _, rfl, ?_⟩
  cases x with
  | none => exact iteT q
  | some x =>
  refine iteF ?_
  refine ⟨_, rfl, _, rfl, _, rfl, a, ws, g, x, rfl, hT, g0, g1, hx.1, hx.2, _, rfl, ?_⟩
  cases e1 : suitsB ws g x with
  | false =>
    refine iteT ?_
    have e : aheadB ws g (some x) y = false := by
      cases y with
      | none => exact e1
      | some y =>
        show (if x = y then false else _) = false
        rw [if_neg (fun z => c' (congrArg some z)), e1]
        rfl
    rw [e] at q; exact q
  | true =>
  refine iteF ?_
  refine ⟨_, rfl, rfl, _, rfl, ?_⟩
  cases y with
  | none =>
    have e : aheadB ws g (some x) none = true := e1
    rw [e] at q
    exact iteT q
  | some y =>
  refine iteF ?_
  refine ⟨_, rfl, _, rfl, _, rfl, a, ws, g, y, rfl, hT, g0, g1, hy.1, hy.2, _, rfl, ?_⟩
  have e0 : aheadB ws g (some x) (some y) = if suitsB ws g y = true then decide ((rowOf ws g).idxOf x < (rowOf ws g).idxOf y) else true := by
    show (if x = y then false else _) = _
    rw [if_neg (fun z => c' (congrArg some z)), if_pos e1]
  rw [e0] at q
  cases e2 : suitsB ws g y with
  | false =>
    rw [e2] at q
    exact iteT q
  | true =>
  rw [e2, if_pos rfl] at q
  refine iteF ?_
  obtain ⟨as, h1, h2, h3⟩ := hT.at
  obtain ⟨b, hb, hs⟩ := h3 g g0 g1
  obtain ⟨p1, p2⟩ := index_at x (rowOf ws g) (suitsB_mem e1).1
  obtain ⟨r1, r2⟩ := index_at y (rowOf ws g) (suitsB_mem e2).1
  refine ⟨_, rfl, _, rfl, a, _, _, _, rfl, rfl, h1, hb, ?_⟩
  refine ⟨_, rfl, .inl ⟨rfl, _, hs⟩, _, rfl, b, _, _, _, _, rfl, rfl, hs, rfl, flat_ints _, p1, (by show (x == x) = true; exact beq_self_eq_true x), p2, ?_⟩
  refine ⟨_, rfl, .inl ⟨rfl, _, hs⟩, _, rfl, b, _, _, _, _, rfl, rfl, hs, rfl, flat_ints _, r1, (by show (y == y) = true; exact beq_self_eq_true y), r2, ?_⟩
  refine ⟨_, _, rfl, rfl, ?_⟩
  have e3 : decide ((((rowOf ws g).idxOf x : Nat) : Int) < (((rowOf ws g).idxOf y : Nat) : Int)) = decide ((rowOf ws g).idxOf x < (rowOf ws g).idxOf y) := by
    by_cases z : (rowOf ws g).idxOf x < (rowOf ws g).idxOf y
    · rw [decide_eq_true z, decide_eq_true (by omega)]
    · rw [decide_eq_false z, decide_eq_false (by omega)]
  show Q (.bl (decide ((((rowOf ws g).idxOf x : Nat) : Int) < (((rowOf ws g).idxOf y : Nat) : Int)))) H
  rw [e3]; exact q
end
end B2

namespace B2
open PySem L2
section
variable {P : Program} {w : World} {K : PySem.W.Frag} {mg : Str → Option Value} {base : Heap}

/-! ### restless_pairs -/
theorem sc_restless_pairs : FnScope ["wishes", "mates", "many", "one", "other"] ["wishes", "mates"] (defScope s_restless_pairs) := ⟨rfl, rfl, rfl, by decide +kernel, rfl, by decide +kernel, by decide +kernel⟩
def sp_pairs (K : PySem.W.Frag) : Sp := fun vs H Q _ => ∃ (a b : Addr) (ws : List (List Int)) (ms : List (Option Int)), vs = [.ref a, .ref b] ∧ Tab K H a ws ∧ Good ws ∧ SqL K H b (ms.map ov) ∧ OkMates ws ms ∧
  ∀ (H' : Hp) (p : Addr), H p = none → BuiltF tupO H p (wildAll ws ms) H' → Q (.ref p) H'
theorem ok_restless_pairs {f : Addr} {fd : FuncData} (F : Fun K "restless_pairs" "restless_pairs" s_restless_pairs f fd) (T : Own mg) (C1 : Cal P w K mg base 2 "is_ahead" ["wishes", "guest", "one", "other"] (sp_is_ahead K)) :
    FnOk P w K mg base CX0 3 f fd ["wishes", "mates"] (sp_pairs K) := by
  obtain ⟨g1, gd1, G1, m1, k1, b1⟩ := C1
  refine F.ok sc_restless_pairs (fun vs H Q E h => ?_) (fun cdv A outer s H vs Q E hr h => ?_)
  · obtain ⟨a, b, ws, ms, rfl, _⟩ := h
    rfl
  obtain ⟨a, b, ws, ms, rfl, hT, hG, hM, hO, q⟩ := h
  refine ⟨_, pss_cons (ps_set (i := 2) sc_restless_pairs.nd rfl (Or.inr rfl) (pe_callB call_len_seq (by rfl) T.len PySem.boot_len (pa_cons (pv 0) pa_nil)))
    (pss_one (ps_ret (pe_lc2 (own := [("one", 3), ("other", 4)]) (vs1 := [4]) (g := gName 3) (tt := tYes) (g1 := gName 4) rfl sc_restless_pairs.nd (pi_range1 rfl T.rng (pa_cons (pv 2) pa_nil))
      (blkOk_by (N := ["wishes", "mates", "many", "one", "other"]) (sc := defScope s_restless_pairs) (by decide +kernel)) (by decide)
      (fun _ _ _ _ _ => pg_name (i := 3) sc_restless_pairs.nd rfl (Or.inl rfl)) (fun _ _ _ _ _ => pts_nil)
      (fun _ _ _ _ _ => pi_range2 (by rfl) T.rng (pa_cons (pe_op op_add (pv 3) pe_int) (pa_cons (pv 2) pa_nil)))
      (fun _ _ _ _ _ => pg_name (i := 4) sc_restless_pairs.nd rfl (Or.inl rfl))
      (fun _ _ _ _ _ => pts_one (PW.pt (pw_and (pt_val (pe_call G1 hr (by rfl) m1 k1 b1 .nil pass0 (pa_cons (pv 0) (pa_cons (pv 3) (pa_cons (pv 4) (pa_cons (pe_ix (ix_lst (K := K) rfl) (pv 1) (pv 3) (fun _ _ => rfl)) pa_nil))))))
        (pw_and1 (pt_val (pe_call G1 hr (by rfl) m1 k1 b1 .nil pass0 (pa_cons (pv 0) (pa_cons (pv 4) (pa_cons (pv 3) (pa_cons (pe_ix (ix_lst (K := K) rfl) (pv 1) (pv 4) (fun _ _ => rfl)) pa_nil))))))))))
      (fun _ _ _ _ _ => pe_tup (pa_cons (pv 3) (pa_cons (pv 4) pa_nil)))))), ?_⟩
  obtain ⟨as, h1, h2, h3⟩ := id hT
  have hl : (as.map V.ref).length = ws.length := by rw [List.length_map]; exact h2
  have hi := hG.hi
  have hml := hO.len
  refine ⟨_, rfl, a, _, rfl, .inl h1, ?_⟩
  rw [hl]
  refine ⟨_, rfl, (ws.length : Int), rfl, by omega, by omega, fun D hD => ?_⟩
  refine in_it (walk_range (lo := 0) (n := ((ws.length : Nat) : Int).toNat)) (fun i H' => BuiltF tupO H D (wildUp ws ms ws.length i) H')
    (built_start hD) (fun _ _ _ _ => trivial) ?_ ?_
  · rintro i x H1 H2 hin hB ⟨rfl, hx⟩
    obtain rfl : x = V.int (i : Int) := by
      rw [hx]
      show V.int (0 + (i : Int)) = _
      rw [Int.zero_add]
    clear hx
    have hin' : i < ws.length := by omega
    refine ⟨rfl, ?_⟩
    refine ⟨_, rfl, _, _, rfl, rfl, _, rfl, _, _, rfl, ⟨by omega, by omega, by omega, by omega⟩, ?_⟩
    have en : (((ws.length : Nat) : Int) - ((i : Int) + 1)).toNat = ws.length - (i + 1) := by omega
    refine in_it (walk_range (lo := (i : Int) + 1) (n := (((ws.length : Nat) : Int) - ((i : Int) + 1)).toNat)) (fun t H' => BuiltF tupO H D (wildUp ws ms ws.length i ++ wildIn ws ms i t) H')
      (by show BuiltF tupO H D (wildUp ws ms ws.length i ++ []) H2; rw [List.append_nil]; exact hB) (fun _ _ _ _ => trivial) ?_ ?_
    · rintro t x H3 H4 hlt hB2 ⟨rfl, rfl⟩
      have hT4 := hT.same hB2.1
      have hM4 := hB2.1.seq hM
      refine ⟨rfl, ?_⟩
      refine ⟨_, rfl, _, rfl, _, rfl, _, rfl, _, rfl, b, _, _, _, rfl, rfl, hM4, mt_at (ms := ms) (i := (i : Int)) (by omega) (by omega), ?_⟩
      refine ⟨a, ws, (i : Int), some ((i : Int) + 1 + (t : Int)), mt ms (i : Int), rfl, hT4, by omega, by omega, ⟨by omega, by omega⟩, hO.oko (by omega) (by omega), _, rfl, ?_⟩
      have ew : wildIn ws ms i (t + 1) = wildIn ws ms i t ++ (if wild ws ms (i : Int) ((i : Int) + 1 + (t : Int)) = true then [((i : Int), (i : Int) + 1 + (t : Int))] else []) := rfl
      have eu : wild ws ms (i : Int) ((i : Int) + 1 + (t : Int)) = (aheadB ws (i : Int) (some ((i : Int) + 1 + (t : Int))) (mt ms (i : Int)) && aheadB ws ((i : Int) + 1 + (t : Int)) (some (i : Int)) (mt ms ((i : Int) + 1 + (t : Int)))) := rfl
      rw [ew, eu]
      cases e1 : aheadB ws (i : Int) (some ((i : Int) + 1 + (t : Int))) (mt ms (i : Int)) with
      | false =>
        rw [Bool.false_and]
        show BuiltF tupO H D (wildUp ws ms ws.length i ++ (wildIn ws ms i t ++ [])) H4
        rw [List.append_nil]
        exact hB2
      | true =>
        rw [Bool.true_and]
        refine ⟨_, rfl, _, rfl, _, rfl, _, rfl, _, rfl, b, _, _, _, rfl, rfl, hM4, mt_at (ms := ms) (i := (i : Int) + 1 + (t : Int)) (by omega) (by omega), ?_⟩
        refine ⟨a, ws, (i : Int) + 1 + (t : Int), some (i : Int), mt ms ((i : Int) + 1 + (t : Int)), rfl, hT4, by omega, by omega, ⟨by omega, by omega⟩, hO.oko (by omega) (by omega), _, rfl, ?_⟩
        cases e2 : aheadB ws ((i : Int) + 1 + (t : Int)) (some (i : Int)) (mt ms ((i : Int) + 1 + (t : Int))) with
        | false =>
          show BuiltF tupO H D (wildUp ws ms ws.length i ++ (wildIn ws ms i t ++ [])) H4
          rw [List.append_nil]
          exact hB2
        | true =>
          refine ⟨_, rfl, _, rfl, (by show 2 ≤ sizeLine; decide), fun p hp => ?_⟩
          obtain ⟨acc, z1, z2, z3⟩ := built_step (r := ((i : Int), (i : Int) + 1 + (t : Int))) hD hB2 (same_new hp _) hp upd_same
          refine ⟨acc, z1, ?_, ?_⟩
          · have l1 := wildUp_le ws ms ws.length i
            have l2 := wildIn_le ws ms i t
            have l3 : i * ws.length ≤ 6 * 6 := Nat.mul_le_mul (by omega) (by omega)
            rw [z2, List.length_append]
            exact small1000 (by omega)
          · show BuiltF tupO H D (wildUp ws ms ws.length i ++ (wildIn ws ms i t ++ [((i : Int), (i : Int) + 1 + (t : Int))])) _
            rw [← List.append_assoc]
            exact z3
    · intro H' h
      rw [en] at h
      exact h
  · intro H' h
    have e : ((ws.length : Nat) : Int).toNat = ws.length := by omega
    rw [e] at h
    exact q H' D hD h
end
end B2

namespace B2
open PySem L2
section
variable {P : Program} {w : World} {K : PySem.W.Frag} {mg : Str → Option Value} {base : Heap}

/-! ### joined -/
theorem sc_joined : FnScope ["mates", "one", "other", "changed"] ["mates", "one", "other"] (defScope s_joined) := ⟨rfl, rfl, rfl, by decide +kernel, rfl, by decide +kernel, by decide +kernel⟩
def sp_joined (K : PySem.W.Frag) : Sp := fun vs H Q _ => ∃ (b : Addr) (ms : List (Option Int)) (i j : Int), vs = [.ref b, .int i, .int j] ∧ SqL K H b (ms.map ov) ∧ 0 ≤ i ∧ i < (ms.length : Int) ∧ 0 ≤ j ∧ j < (ms.length : Int) ∧
  ∀ (H' : Hp) (p : Addr), Same H H' → H p = none → H' p = some (fm (joinL ms i j)) → Q (.ref p) H'
theorem ok_joined {f : Addr} {fd : FuncData} (F : Fun K "joined" "joined" s_joined f fd) (T : Own mg) : FnOk P w K mg base CX0 1 f fd ["mates", "one", "other"] (sp_joined K) := by
  refine F.ok sc_joined (fun vs H Q E h => ?_) (fun cdv A outer s H vs Q E hr h => ?_)
  · obtain ⟨b, ms, i, j, rfl, _⟩ := h
    rfl
  obtain ⟨b, ms, i, j, rfl, hM, i0, i1, j0, j1, q⟩ := h
  refine ⟨_, pss_cons (ps_set (i := 3) sc_joined.nd rfl (Or.inl rfl) (pe_callTy (T := "list") (call_lof (K := K) rfl) (by rfl) T.list (by decide +kernel) (pa_cons (pv 0) pa_nil)))
    (pss_cons (ps_asg (pv 2) (pg_sub (pv 3) (pv 1) set_list))
    (pss_cons (ps_asg (pv 1) (pg_sub (pv 3) (pv 2) set_list))
    (pss_one (ps_ret (pv 3))))), ?_⟩
  refine ⟨_, rfl, b, _, rfl, .inl hM, fun p hp => ?_⟩
  refine ⟨_, rfl, _, rfl, _, rfl, p, _, _, _, rfl, rfl, upd_same, ixN_of i0 (by rw [List.length_map]; exact i1), ?_⟩
  refine ⟨_, rfl, _, rfl, _, rfl, p, _, _, _, rfl, rfl, upd_same, ixN_of j0 (by rw [List.length_set, List.length_map]; exact j1), ?_⟩
  refine ⟨_, rfl, q _ p (same_put (same_put (same_new hp _) hp _) hp _) hp ?_⟩
  rw [upd_same]
  unfold fm joinL
  rw [List.map_set, List.map_set]
  rfl

/-! ### settled -/
theorem sc_settled : FnScope ["wishes", "mates", "guest", "found", "other"] ["wishes", "mates", "guest"] (defScope s_settled) := ⟨rfl, rfl, rfl, by decide +kernel, rfl, by decide +kernel, by decide +kernel⟩
/-- at p the mates at b, then new ones -/
def MoreAt (H : Hp) (b p : Addr) (ls : List (List (Option Int))) (H' : Hp) : Prop :=
  Same H H' ∧ ∃ bs : List Addr, H' p = some (.lst (V.ref b :: bs.map V.ref)) ∧ bs.length = ls.length ∧ ∀ (i : Nat) (r : List (Option Int)), ls[i]? = some r → ∃ c, bs[i]? = some c ∧ H' c = some (fm r) ∧ c ≠ p ∧ H c = none
def sp_settled (K : PySem.W.Frag) : Sp := fun vs H Q _ => ∃ (a b : Addr) (ws : List (List Int)) (ms : List (Option Int)) (g : Nat), vs = [.ref a, .ref b, .int g] ∧ Tab K H a ws ∧ ws.length ≤ 6 ∧ SqL K H b (ms.map ov) ∧ OkMates ws ms ∧ g < ws.length ∧
  ∀ (H' : Hp) (p : Addr), H p = none → MoreAt H b p (moreL ws ms g) H' → Q (.ref p) H'
theorem ok_settled {f : Addr} {fd : FuncData} (F : Fun K "settled" "settled" s_settled f fd) (T : Own mg) (C1 : Cal P w K mg base 1 "in_both" ["wishes", "one", "other"] (sp_in_both K))
    (C2 : Cal P w K mg base 1 "joined" ["mates", "one", "other"] (sp_joined K)) : FnOk P w K mg base CX0 2 f fd ["wishes", "mates", "guest"] (sp_settled K) := by
  obtain ⟨g1, gd1, G1, m1, k1, b1⟩ := C1
  obtain ⟨g2, gd2, G2, m2, k2, b2⟩ := C2
  refine F.ok sc_settled (fun vs H Q E h => ?_) (fun cdv A outer s H vs Q E hr h => ?_)
  · obtain ⟨a, b, ws, ms, g, rfl, _⟩ := h
    rfl
  obtain ⟨a, b, ws, ms, g, rfl, hT, h6, hM, hO, hg, q⟩ := h
  refine ⟨_, pss_cons (ps_set (i := 3) sc_settled.nd rfl (Or.inl rfl) (pe_lst (pa_cons (pv 1) pa_nil)))
    (pss_cons (ps_if (pt_cmpR op_isN (pe_ix ix_list (pv 1) (pv 2) (fun _ _ => rfl)) pe_non (nomark _))
      (pss_one (ps_for PassesOwn.never rfl (pi_range2 (by rfl) T.rng (pa_cons (pe_op op_add (pv 2) pe_int) (pa_cons (pe_callB call_len_seq (by rfl) T.len PySem.boot_len (pa_cons (pv 0) pa_nil)) pa_nil))) (pg_name (i := 4) sc_settled.nd rfl (Or.inl rfl))
        (pss_one (ps_if (PW.pt (pw_and (pt_cmpR op_isN (pe_ix ix_list (pv 1) (pv 4) (fun _ _ => rfl)) pe_non (nomark _))
          (pw_and1 (pt_val (pe_call G1 hr (by rfl) m1 k1 b1 .nil pass0 (pa_cons (pv 0) (pa_cons (pv 2) (pa_cons (pv 4) pa_nil))))))))
          (pss_one (ps_expr (pe_bm PySem.F.plainAttrs_list PySem.F.slot_list_append PySem.F.type_list_append mt_append (pv 3)
            (pa_cons (pe_call G2 hr (by rfl) m2 k2 b2 .nil pass0 (pa_cons (pv 1) (pa_cons (pv 2) (pa_cons (pv 4) pa_nil)))) pa_nil)))) pss_nil)))) pss_nil)
    (pss_one (ps_ret (pv 3)))), ?_⟩
  have hml := hO.len
  obtain ⟨as, h1, h2, h3⟩ := id hT
  have hl : (as.map V.ref).length = ws.length := by rw [List.length_map]; exact h2
  refine ⟨_, rfl, (by show 1 ≤ sizeLine; decide), fun D hD => ?_⟩
  have s0 := same_new hD (.lst [V.ref b])
  refine ⟨_, rfl, _, rfl, b, _, _, _, rfl, rfl, s0.seq hM, mt_at (ms := ms) (i := (g : Int)) (by omega) (by omega), rfl, _, rfl, ?_⟩
  rw [ov_non]
  cases e1 : mt ms (g : Int) with
  | some k =>
    have e2 : moreL ws ms g = [] := by unfold moreL; rw [e1]; rfl
    refine iteF ⟨_, rfl, q _ D hD ?_⟩
    rw [e2]
    exact ⟨s0, [], upd_same, rfl, fun i r h => by cases h⟩
  | none =>
  have e2 : moreL ws ms g = joinsL ws ms g (ws.length - (g + 1)) := by unfold moreL; rw [if_pos e1]
  refine iteT ?_
  refine ⟨_, rfl, _, _, rfl, rfl, _, rfl, a, _, rfl, .inl (s0.seq h1), _, _, rfl, ⟨by omega, by omega, by rw [hl]; omega, by rw [hl]; omega⟩, ?_⟩
  rw [hl]
  have en : (((ws.length : Nat) : Int) - ((g : Int) + 1)).toNat = ws.length - (g + 1) := by omega
  refine for_range (lo := (g : Int) + 1) (n := (((ws.length : Nat) : Int) - ((g : Int) + 1)).toNat) (fun t σ H' => MoreAt H b D (joinsL ws ms g t) H' ∧ ∃ z, σ = [some (.ref a), some (.ref b), some (.int g), some (.ref D), z])
    ⟨⟨s0, [], upd_same, rfl, fun i r h => by cases h⟩, none, rfl⟩ ?_ ?_
  · rintro t σ H1 hlt ⟨⟨s1, bs, y1, y2, y3⟩, z, rfl⟩
    have hM1 := s1.seq hM
    have hjl := joins_le ws ms g t
    refine ⟨_, rfl, _, rfl, b, _, _, _, rfl, rfl, hM1, mt_at (ms := ms) (i := (g : Int) + 1 + (t : Int)) (by omega) (by omega), rfl, _, rfl, ?_⟩
    rw [ov_non]
    have ej : joinsL ws ms g (t + 1) = joinsL ws ms g t ++ (if (mt ms ((g : Int) + 1 + (t : Int)) = none ∧ suitsB ws (g : Int) ((g : Int) + 1 + (t : Int)) = true) then [joinL ms (g : Int) ((g : Int) + 1 + (t : Int))] else []) := rfl
    cases e3 : mt ms ((g : Int) + 1 + (t : Int)) with
    | some k =>
      refine iteF ⟨?_, _, rfl⟩
      rw [ej, e3, if_neg (by intro z; cases z.1), List.append_nil]
      exact ⟨s1, bs, y1, y2, y3⟩
    | none =>
    refine iteT ?_
    refine ⟨_, rfl, _, rfl, _, rfl, a, ws, (g : Int), (g : Int) + 1 + (t : Int), rfl, hT.same s1, by omega, by omega, by omega, by omega, _, rfl, ?_⟩
    cases e4 : suitsB ws (g : Int) ((g : Int) + 1 + (t : Int)) with
    | false =>
      refine iteF ⟨?_, _, rfl⟩
      rw [ej, e3, e4, if_neg (by intro z; cases z.2), List.append_nil]
      exact ⟨s1, bs, y1, y2, y3⟩
    | true =>
    refine iteT ?_
    refine ⟨_, rfl, .inl ⟨rfl, _, SqL.of y1⟩, _, rfl, _, rfl, _, rfl, b, ms, (g : Int), (g : Int) + 1 + (t : Int), rfl, hM1, by omega, by omega, by omega, by omega, fun H2 p s2 hp hp2 => ?_⟩
    have y12 := s2 _ _ y1
    have npD : p ≠ D := (ne_of_none y1 hp).symm
    refine ⟨D, _, _, rfl, rfl, y12, ?_, ?_, _, rfl⟩
    · rw [List.length_cons, List.length_map, y2]
      exact small1000 (by omega)
    rw [ej, e3, e4, if_pos ⟨rfl, rfl⟩]
    refine ⟨same_put (s1.trans s2) hD _, bs ++ [p], ?_, ?_, fun i r hr' => ?_⟩
    · rw [upd_same, List.map_append]
      rfl
    · rw [List.length_append, List.length_append, y2]
      rfl
    · rw [List.getElem?_append] at hr'
      rw [List.getElem?_append]
      by_cases c : i < (joinsL ws ms g t).length
      · rw [if_pos c] at hr'
        rw [if_pos (by rw [y2]; exact c)]
        obtain ⟨c1, c2, c3, c4, c5⟩ := y3 i r hr'
        exact ⟨c1, c2, by rw [upd_ne c4]; exact s2 _ _ c3, c4, c5⟩
      · rw [if_neg c] at hr'
        rw [if_neg (by rw [y2]; exact c)]
        have i0 : i - (joinsL ws ms g t).length = 0 := by
          have := (List.getElem?_eq_some_iff.mp hr').1
          simp at this
          omega
        rw [i0] at hr'
        cases hr'
        rw [y2, i0]
        exact ⟨p, rfl, by rw [upd_ne npD]; exact hp2, npD, s1.free hp⟩
  · rintro σ H' ⟨h, z, rfl⟩
    rw [en, ← e2] at h
    exact ⟨_, rfl, q H' D hD h⟩

/-! ### all_twos -/
theorem sc_all_twos : FnScope ["wishes", "found", "guest", "mates", "further"] ["wishes"] (defScope s_all_twos) := ⟨rfl, rfl, rfl, by decide +kernel, rfl, by decide +kernel, by decide +kernel⟩
def sp_all_twos (K : PySem.W.Frag) : Sp := fun vs H Q _ => ∃ (a : Addr) (ws : List (List Int)), vs = [.ref a] ∧ Tab K H a ws ∧ Good ws ∧
  ∀ (H' : Hp) (p : Addr), H p = none → BuiltF fm H p (allTwos ws) H' → Q (.ref p) H'
theorem ok_all_twos {f : Addr} {fd : FuncData} (F : Fun K "all_twos" "all_twos" s_all_twos f fd) (T : Own mg) (C1 : Cal P w K mg base 3 "need_wishes" ["wishes"] (sp_need_wishes K))
    (C2 : Cal P w K mg base 2 "settled" ["wishes", "mates", "guest"] (sp_settled K)) : FnOk P w K mg base CX0 4 f fd ["wishes"] (sp_all_twos K) := by
  obtain ⟨g1, gd1, G1, m1, k1, b1⟩ := C1
  obtain ⟨g2, gd2, G2, m2, k2, b2⟩ := C2
  refine F.ok sc_all_twos (fun vs H Q E h => ?_) (fun cdv A outer s H vs Q E hr h => ?_)
  · obtain ⟨a, ws, rfl, _⟩ := h
    rfl
  obtain ⟨a, ws, rfl, hT, hG, q⟩ := h
  have hr2 : Room 2 _ := hr.mono (by decide)
  refine ⟨_, pss_cons (ps_expr (pe_call G1 hr (by rfl) m1 k1 b1 .nil pass0 (pa_cons (pv 0) pa_nil)))
    (pss_cons (ps_set (i := 1) sc_all_twos.nd rfl (Or.inl rfl) (pe_lst (pa_cons (pe_op op_rep (pe_lst (pa_cons pe_non pa_nil)) (pe_callB call_len_seq (by rfl) T.len PySem.boot_len (pa_cons (pv 0) pa_nil))) pa_nil)))
    (pss_cons (ps_for PassesOwn.never rfl (pi_range1 rfl T.rng (pa_cons (pe_callB call_len_seq (by rfl) T.len PySem.boot_len (pa_cons (pv 0) pa_nil)) pa_nil)) (pg_name (i := 2) sc_all_twos.nd rfl (Or.inr rfl))
      (pss_one (ps_setLc2 (i := 1) (own := [("mates", 3), ("further", 4)]) (vs1 := [4]) (g := gName 3) (tt := tYes) (g1 := gName 4) (tt1 := tYes) rfl sc_all_twos.nd rfl rfl (sw_true rfl rfl rfl (by decide +kernel)) (pi_list (pv 1))
        (blkOk_by (N := ["wishes", "found", "guest", "mates", "further"]) (sc := defScope s_all_twos) (by decide +kernel)) (by decide)
        (fun _ _ _ _ _ => pg_name (i := 3) sc_all_twos.nd rfl (Or.inl rfl)) (fun _ _ _ _ _ => pts_nil)
        (fun _ _ _ _ _ => pi_lst (K := K) rfl (pe_call G2 hr2 (by rfl) m2 k2 b2 .nil pass0 (pa_cons (pv 0) (pa_cons (pv 3) (pa_cons (pv 2) pa_nil)))))
        (fun _ _ _ _ _ => pg_name (i := 4) sc_all_twos.nd rfl (Or.inl rfl)) (fun _ _ _ _ _ => pts_nil) (fun _ _ _ _ _ => pv 4))))
    (pss_one (ps_ret (pv 1))))), ?_⟩
  obtain ⟨as0, h1, h2, h3⟩ := id hT
  have hl : (as0.map V.ref).length = ws.length := by rw [List.length_map]; exact h2
  have h6 := hG.hi
  refine ⟨_, rfl, a, ws, rfl, hT, hG, fun H1 s1 => ?_⟩
  refine ⟨(by show 1 ≤ sizeLine; decide), fun N hN => ?_⟩
  have s2 := s1.trans (same_new hN (.lst [V.non]))
  refine ⟨_, rfl, a, _, rfl, .inl (s2.seq h1), ?_⟩
  rw [hl]
  refine ⟨N, (ws.length : Int), _, rfl, rfl, upd_same, by omega, by omega, ?_, fun R hR => ?_⟩
  · show 1 * ((ws.length : Nat) : Int).toNat ≤ sizeLine
    exact le_line (by omega)
  have en : ((ws.length : Nat) : Int).toNat = ws.length := by omega
  rw [en, flat_nones]
  refine ⟨(by show 1 ≤ sizeLine; decide), fun D0 hD0 => ?_⟩
  have s3 := s2.trans (same_new hR (.lst ((List.replicate ws.length (none : Option Int)).map ov)))
  have s4 := s3.trans (same_new hD0 (.lst [V.ref R]))
  have nRD : R ≠ D0 := ne_of_none upd_same hD0
  refine ⟨_, rfl, a, _, rfl, .inl (s4.seq h1), (((as0.map V.ref).length : Nat) : Int), rfl, by rw [hl]; omega, by rw [hl]; omega, ?_⟩
  refine for_range (lo := 0) (n := (((as0.map V.ref).length : Nat) : Int).toNat) (fun g σ H' => ∃ (D : Addr) (y : Option V), σ = [some (.ref a), some (.ref D), y, none, none] ∧ H D = none ∧ BuiltF fm H D (stageL ws g) H')
    ⟨D0, none, rfl, s3.free hD0, s4, [R], upd_same, rfl, fun i r hr' => ?_⟩ ?_ ?_
  · have hi0 : i = 0 := by
      have := (List.getElem?_eq_some_iff.mp hr').1
      have e : (stageL ws 0).length = 1 := rfl
      omega
    subst hi0
    cases hr'
    exact ⟨R, rfl, by rw [upd_ne nRD]; exact upd_same, nRD, s2.free hR⟩
  · rintro g σ H2 hin ⟨D, y, rfl, hD, hB⟩
    have hg : g < ws.length := by rw [hl] at hin; omega
    have ei : (0 : Int) + (g : Int) = (g : Int) := Int.zero_add _
    rw [ei]
    obtain ⟨e2, as, d1, d2, d3⟩ := id hB
    have hsm := stage_small ws h6 g (by omega)
    refine ⟨_, rfl, D, rfl, ⟨_, SqL.of d1⟩, fun D2 hD2 => ?_⟩
    have hD20 : H D2 = none := e2.free hD2
    refine in_it (walk_list (xs := as.map V.ref)) (fun i H' => Same H2 H' ∧ BuiltF fm H D2 (((stageL ws g).take i).flatMap fun ms => settledL ws ms g) H')
      ⟨same_new hD2 _, (built_start hD2).back e2⟩ (fun i H' _ h => h.1.seq (SqL.of d1)) ?_ ?_
    · rintro i x H3 _ hi ⟨e3, hB3⟩ ⟨rfl, hx⟩
      obtain ⟨b, hb, rfl⟩ := map_ref_get hx
      have hi' : i < (stageL ws g).length := by rw [← d2]; exact (List.getElem?_eq_some_iff.mp hb).1
      obtain ⟨b', hb', c2, c3, c4⟩ := d3 i (stageL ws g)[i] (List.getElem?_eq_getElem hi')
      rw [hb] at hb'
      cases hb'
      have hOk := stage_ok ws g (by omega) _ (List.getElem_mem hi')
      have hge : (stageL ws g)[i]? = some (stageL ws g)[i] := List.getElem?_eq_getElem hi'
      generalize (stageL ws g)[i] = ms at c2 hOk hge
      refine ⟨rfl, ?_⟩
      have hT3 := (hT.same e2).same e3
      have hb3 := e3 _ _ c2
      refine ⟨_, rfl, _, rfl, _, rfl, a, b, ws, ms, g, rfl, hT3, h6, SqL.of hb3, hOk, hg, fun H4 p hp hM => ?_⟩
      obtain ⟨e4, bs, r1, r2, r3⟩ := hM
      obtain ⟨hB31, as2, hB32, hB33, hB34⟩ := id hB3
      have npD2 : p ≠ D2 := (ne_of_none hB32 hp).symm
      have hcs : ∀ (j : Nat) (r : List (Option Int)), (settledL ws ms g)[j]? = some r → ∃ c, (b :: bs)[j]? = some c ∧ H4 c = some (fm r) ∧ c ≠ D2 ∧ H c = none := by
        intro j r hj
        unfold settledL at hj
        cases j with
        | zero =>
          cases hj
          exact ⟨b, rfl, e4 _ _ hb3, ne_of_none c2 hD2, c4⟩
        | succ j =>
          rw [List.getElem?_cons_succ] at hj
          obtain ⟨c, q1, q2, q3, q4⟩ := r3 j r hj
          exact ⟨c, q1, q2, (ne_of_none hB32 q4).symm, (e2.trans e3).free q4⟩
      have hcl : (b :: bs).length = (settledL ws ms g).length := by unfold settledL; rw [List.length_cons, List.length_cons, r2]
      have r1' : H4 p = some (.lst ((b :: bs).map V.ref)) := r1
      generalize b :: bs = cs at hcs hcl r1'
      have hst := settled_le (ws := ws) (ms := ms) hg
      have hpl := flatMap_le (fun ms => settledL ws ms g) 6 ((stageL ws g).take i) fun _ _ => Nat.le_trans (settled_le hg) h6
      rw [List.length_take] at hpl
      have hpl2 : (((stageL ws g).take i).flatMap fun ms => settledL ws ms g).length ≤ 300000 := by omega
      refine ⟨p, rfl, ⟨_, SqL.of r1'⟩, ?_⟩
      refine in_it (walk_list (xs := cs.map V.ref)) (fun t H' => Same H2 H' ∧ BuiltF fm H D2 ((((stageL ws g).take i).flatMap fun ms => settledL ws ms g) ++ (settledL ws ms g).take t) H' ∧ H' p = some (.lst (cs.map V.ref)) ∧
          ∀ (j : Nat) (r : List (Option Int)), (settledL ws ms g)[j]? = some r → ∃ c, cs[j]? = some c ∧ H' c = some (fm r) ∧ c ≠ D2 ∧ H c = none)
        ⟨e3.trans e4, by rw [List.take_zero, List.append_nil]; exact hB3.on e4, r1', hcs⟩ (fun t H' _ h => SqL.of h.2.2.1) ?_ ?_
      · rintro t x H5 _ ht ⟨f1, f2, f3, f4⟩ ⟨rfl, hx5⟩
        obtain ⟨c, hc, rfl⟩ := map_ref_get hx5
        have ht' : t < (settledL ws ms g).length := by rw [← hcl]; exact (List.getElem?_eq_some_iff.mp hc).1
        obtain ⟨c', hc', q2, q3, q4⟩ := f4 t (settledL ws ms g)[t] (List.getElem?_eq_getElem ht')
        rw [hc] at hc'
        cases hc'
        refine ⟨rfl, ?_⟩
        obtain ⟨acc, z1, z2, z3⟩ := built_put hD20 f2 q2 q3 q4
        refine ⟨_, rfl, acc, z1, ?_, ?_, ?_, by rw [upd_ne npD2]; exact f3, fun j r hj => ?_⟩
        · rw [z2, List.length_append, List.length_take]
          exact big_line (by omega)
        · exact same_put f1 hD2 _
        · rw [take_one (List.getElem?_eq_getElem ht'), ← List.append_assoc]
          exact z3
        · obtain ⟨c, u1, u2, u3, u4⟩ := f4 j r hj
          exact ⟨c, u1, by rw [upd_ne u3]; exact u2, u3, u4⟩
      · rintro H5 ⟨f1, f2, f3, f4⟩
        refine ⟨f1, ?_⟩
        have e9 : (settledL ws ms g).take (cs.map V.ref).length = settledL ws ms g := List.take_of_length_le (by rw [List.length_map, hcl]; exact Nat.le_refl _)
        rw [e9] at f2
        rw [take_one hge, List.flatMap_append]
        have e : (List.flatMap (fun ms => settledL ws ms g) [ms]) = settledL ws ms g := by
          rw [List.flatMap_cons, List.flatMap_nil, List.append_nil]
        rw [e]
        exact f2
    · rintro H3 ⟨e3, hB3⟩
      rw [List.take_of_length_le (by rw [List.length_map, d2]; exact Nat.le_refl _)] at hB3
      exact ⟨D2, _, rfl, hD20, hB3⟩
  · rintro σ H' ⟨D, y, rfl, hD, hB⟩
    have e : (((as0.map V.ref).length : Nat) : Int).toNat = ws.length := by rw [hl]; omega
    rw [e] at hB
    exact ⟨_, rfl, q H' D hD hB⟩

/-! ### all_calm -/
theorem sc_all_calm : FnScope ["wishes", "mates"] ["wishes"] (defScope s_all_calm) := ⟨rfl, rfl, rfl, by decide +kernel, rfl, by decide +kernel, by decide +kernel⟩
def sp_all_calm (K : PySem.W.Frag) : Sp := fun vs H Q _ => ∃ (a : Addr) (ws : List (List Int)), vs = [.ref a] ∧ Tab K H a ws ∧ Good ws ∧
  ∀ (H' : Hp) (p : Addr), H p = none → BuiltF fm H p (allCalm ws) H' → Q (.ref p) H'
theorem ok_all_calm {f : Addr} {fd : FuncData} (F : Fun K "all_calm" "all_calm" s_all_calm f fd) (C1 : Cal P w K mg base 4 "all_twos" ["wishes"] (sp_all_twos K))
    (C2 : Cal P w K mg base 3 "restless_pairs" ["wishes", "mates"] (sp_pairs K)) : FnOk P w K mg base CX0 5 f fd ["wishes"] (sp_all_calm K) := by
  obtain ⟨g1, gd1, G1, m1, k1, b1⟩ := C1
  obtain ⟨g2, gd2, G2, m2, k2, b2⟩ := C2
  refine F.ok sc_all_calm (fun vs H Q E h => ?_) (fun cdv A outer s H vs Q E hr h => ?_)
  · obtain ⟨a, ws, rfl, _⟩ := h
    rfl
  obtain ⟨a, ws, rfl, hT, hG, q⟩ := h
  have hr3 : Room 3 _ := hr.mono (by decide)
  have hu := hr.units
  refine ⟨_, pss_one (ps_ret (pe_lc (own := [("mates", 1)]) (g := gName 1) rfl sc_all_calm.nd (pi_list (pe_call G1 hr (by rfl) m1 k1 b1 .nil pass0 (pa_cons (pv 0) pa_nil)))
      (blkOk_by (N := ["wishes", "mates"]) (sc := defScope s_all_calm) (by decide +kernel))
      (fun _ _ _ _ _ => pg_name (i := 1) sc_all_calm.nd rfl (Or.inl rfl))
      (fun _ _ _ _ _ => pts_one (pt_cmpR (eq_dat (K := K) rfl hu) (pe_call G2 hr3 (by rfl) m2 k2 b2 .nil pass0 (pa_cons (pv 0) (pa_cons (pv 1) pa_nil))) (pe_lst pa_nil) (nomark _)))
      (fun _ _ _ _ _ => pv 1))), ?_⟩
  have h6 := hG.hi
  refine ⟨_, rfl, a, ws, rfl, hT, hG, fun H1 p hp hB => ?_⟩
  obtain ⟨e1, as, d1, d2, d3⟩ := hB
  refine ⟨p, rfl, ⟨_, SqL.of d1⟩, fun D hD => ?_⟩
  have hD0 : H D = none := e1.free hD
  have hsm := stage_small ws h6 ws.length (Nat.le_refl _)
  refine lc_list (K := K) (a := p) (xs := as.map V.ref) (fun i H' => Same H1 H' ∧ BuiltF fm H D (((allTwos ws).take i).filter fun ms => (wildAll ws ms).isEmpty) H')
    ⟨same_new hD _, (built_start hD).back e1⟩ (fun i H' _ h => h.1.seq (SqL.of d1)) ?_ ?_
  · rintro i x H2 hx ⟨e2, hB2⟩
    obtain ⟨b, hb, rfl⟩ := map_ref_get hx
    have hi' : i < (allTwos ws).length := by rw [← d2]; exact (List.getElem?_eq_some_iff.mp hb).1
    obtain ⟨b', hb', c2, c3, c4⟩ := d3 i (allTwos ws)[i] (List.getElem?_eq_getElem hi')
    rw [hb] at hb'
    cases hb'
    have hOk := stage_ok ws ws.length (Nat.le_refl _) _ (List.getElem_mem hi')
    have hge : (allTwos ws)[i]? = some (allTwos ws)[i] := List.getElem?_eq_getElem hi'
    generalize (allTwos ws)[i] = ms at c2 hOk hge
    rw [take_one hge, List.filter_append]
    have hfl : (((allTwos ws).take i).filter fun ms => (wildAll ws ms).isEmpty).length ≤ 46656 := by
      refine Nat.le_trans (List.length_filter_le _ _) ?_
      rw [List.length_take]
      unfold allTwos
      omega
    refine ⟨rfl, ?_⟩
    have hT2 := (hT.same e1).same e2
    refine ⟨_, rfl, _, rfl, a, b, ws, ms, rfl, hT2, hG, SqL.of (e2 _ _ c2), hOk, fun H3 r hr' hR => ?_⟩
    refine ⟨(by show 0 ≤ sizeLine; decide), fun e he => ?_⟩
    have s4 : Same H3 (upd H3 e (.lst [])) := same_new he _
    have e4 := hR.1.trans s4
    refine ⟨dPs (wildAll ws ms), dPs [], (hR.prs.same s4).dp, .lst (SqL.of upd_same) .nil, dPs_shaped _, dPs_shaped _, _, rfl, ?_⟩
    rw [dPs_nil]
    cases ew : (wildAll ws ms).isEmpty with
    | false =>
      refine iteF ⟨e2.trans e4, ?_⟩
      have e : [ms].filter (fun ms => (wildAll ws ms).isEmpty) = [] := by
        rw [List.filter_cons, ew]; rfl
      rw [e, List.append_nil]
      exact hB2.on e4
    | true =>
      have e : [ms].filter (fun ms => (wildAll ws ms).isEmpty) = [ms] := by
        rw [List.filter_cons, ew]; rfl
      rw [e]
      obtain ⟨acc, z1, z2, z3⟩ := built_put hD0 (hB2.on e4) (e4 _ _ (e2 _ _ c2)) (ne_of_none c2 hD) c4
      refine ⟨_, rfl, acc, z1, ?_, ?_, z3⟩
      · rw [z2]
        exact big_line (by omega)
      · exact same_put (e2.trans e4) hD _
  · rintro H2 ⟨e2, hB2⟩
    rw [List.take_of_length_le (by rw [List.length_map, d2]; exact Nat.le_refl _)] at hB2
    exact q H2 D hD0 hB2
end
end B2

namespace B2
open PySem L2

theorem BuiltF.tabM {K : PySem.W.Frag} {H H' : Hp} {D : Addr} {mss : List (List (Option Int))} (b : BuiltF fm H D mss H') : TabV K H' D (mss.map fun ms => ms.map ov) := by
  obtain ⟨s, as, h1, h2, h3⟩ := b
  refine ⟨as, SqL.of h1, by rw [List.length_map]; exact h2, fun i r hr => ?_⟩
  rw [List.getElem?_map] at hr
  cases e : mss[i]? with
  | none => rw [e] at hr; cases hr
  | some q =>
    rw [e] at hr
    cases hr
    obtain ⟨c, c1, c2, _⟩ := h3 i q e
    exact ⟨c, c1, SqL.of c2⟩
theorem plain_mates (mss : List (List (Option Int))) : ∀ r ∈ (mss.map fun ms => ms.map ov), ∀ v ∈ r, plainV v = true := by
  intro r hr v hv
  obtain ⟨q, _, rfl⟩ := List.mem_map.mp hr
  exact flat_ovs q v hv
end B2

namespace B2
open PySem L2
/-! ### Mates as data -/
theorem eqv_ov : ∀ a b : Option Int, (dV (ov a)).eqv (dV (ov b)) = decide (a = b)
  | none, none => by simp [dV, ov, PyData.eqv]
  | none, some j => by simp [dV, ov, PyData.eqv]
  | some i, none => by simp [dV, ov, PyData.eqv]
  | some i, some j => by
    by_cases h : i = j
    · subst h; simp [dV, ov, PyData.eqv]
    · simp [dV, ov, PyData.eqv, h]
theorem eqvAll_ov : ∀ a b : List (Option Int), PyData.eqvAll ((a.map ov).map dV) ((b.map ov).map dV) = decide (a = b)
  | [], [] => by simp [PyData.eqvAll]
  | [], _ :: _ => by simp [PyData.eqvAll]
  | _ :: _, [] => by simp [PyData.eqvAll]
  | x :: a, y :: b => by
    rw [List.map_cons, List.map_cons, List.map_cons, List.map_cons, PyData.eqvAll, eqv_ov, eqvAll_ov a b]
    by_cases h : x = y
    · by_cases h2 : a = b
      · simp [h, h2]
      · simp [h, h2]
    · simp [h]
theorem dL_eqv (a b : List (Option Int)) : (dL (a.map ov)).eqv (dL (b.map ov)) = decide (a = b) := by
  unfold dL
  rw [PyData.eqv]
  exact eqvAll_ov a b
theorem any_mates (ms : List (Option Int)) : ∀ mss : List (List (Option Int)), (((mss.map fun (m : List (Option Int)) => m.map ov).map dL).any fun z => PyData.eqv z (dL (ms.map ov))) = decide (ms ∈ mss)
  | [] => by simp
  | m :: mss => by
    rw [List.map_cons, List.map_cons, List.any_cons, any_mates ms mss, dL_eqv]
    by_cases h : m = ms
    · simp [h]
    · by_cases h2 : ms ∈ mss
      · simp [h2]
      · have h' : ¬ ms = m := fun z => h z.symm
        simp [h, h2, h']
theorem any_none : ∀ mss : List (List (Option Int)), (((mss.map fun (m : List (Option Int)) => m.map ov).map dL).any fun z => PyData.eqv z PyData.none) = false
  | [] => by simp
  | m :: mss => by
    rw [List.map_cons, List.map_cons, List.any_cons, any_none mss]
    have : (dL (m.map ov)).eqv PyData.none = false := by unfold dL; simp [PyData.eqv]
    rw [this]; rfl

/-! ### A table when one guest's list is another -/
theorem good_set {ws : List (List Int)} (hG : Good ws) {g : Nat} {r : List Int} (hr : GoodRow ws.length (g : Int) r) : Good (ws.set g r) := by
  refine ⟨by rw [List.length_set]; exact hG.lo, by rw [List.length_set]; exact hG.hi, fun i q h => ?_⟩
  rw [List.length_set]
  rw [List.getElem?_set] at h
  by_cases c : g = i
  · rw [if_pos c] at h
    split at h
    · cases h; rw [← c]; exact hr
    · cases h
  · rw [if_neg c] at h
    exact hG.row i q h

/-! ### The Inn -/
theorem roomI {k : Nat} {A : Around} (r : Room k A) : A.units + 65 < cLine := by have := r.un; omega
def inf (t : Addr) (mv : V) : List (Str × V) := putF "_mates" mv (putF "_wishes" (.ref t) [])
theorem wm_ : ¬ (("_wishes" : Str) = "_mates") := by decide +kernel
theorem mw_ : ¬ (("_mates" : Str) = "_wishes") := by decide +kernel
theorem inf_eq (t : Addr) (mv : V) : inf t mv = ([("_wishes", V.ref t), ("_mates", mv)] : List (Str × V)) := by
  show (if ("_wishes" : Str) = "_mates" then [(("_wishes" : Str), mv)] else (("_wishes" : Str), V.ref t) :: putF "_mates" mv []) = ([("_wishes", V.ref t), ("_mates", mv)] : List (Str × V))
  rw [if_neg wm_]
  rfl
theorem inf_w (t : Addr) (mv : V) : (inf t mv).lookup ("_wishes" : Str) = some (.ref t) := by
  unfold inf
  rw [lookup_putF, if_neg wm_, lookup_putF, if_pos rfl]
theorem inf_m (t : Addr) (mv : V) : (inf t mv).lookup ("_mates" : Str) = some mv := by
  unfold inf
  rw [lookup_putF, if_pos rfl]
theorem inf_no (t : Addr) (mv : V) {m : Str} (h1 : ¬ m = "_mates") (h2 : ¬ m = "_wishes") : (inf t mv).lookup m = none := by
  unfold inf
  rw [lookup_putF, if_neg h1, lookup_putF, if_neg h2]
  rfl
theorem inf_put (t : Addr) (mv mv' : V) : putF "_mates" mv' (inf t mv) = inf t mv' := by
  rw [inf_eq, inf_eq]
  show (if ("_wishes" : Str) = "_mates" then _ else (("_wishes" : Str), V.ref t) :: (if ("_mates" : Str) = "_mates" then [(("_mates" : Str), mv')] else _)) = ([("_wishes", V.ref t), ("_mates", mv')] : List (Str × V))
  rw [if_neg wm_, if_pos rfl]
/-- the mates that an Inn keeps: None, or a list of its own -/
def MatesAt (D : Addr → Prop) (H : Hp) (mv : V) (mo : Option (List (Option Int))) : Prop := (mv = .non ∧ mo = none) ∨ ∃ (m : Addr) (ms : List (Option Int)), mv = .ref m ∧ H m = some (fm ms) ∧ mo = some ms ∧ ¬ D m
/-- an Inn stands at p, its table's list at t; D: things of others -/
structure InnAt (C : Addr) (D : Addr → Prop) (H : Hp) (p t : Addr) (ws : List (List Int)) (mo : Option (List (Option Int))) : Prop where
  ob : ∃ dx mv, H p = some (.ins C dx (inf t mv)) ∧ MatesAt D H mv mo
  tb : ∃ as : List Addr, H t = some (.lst (as.map V.ref)) ∧ as.length = ws.length ∧ ∀ (i : Nat) (r : List Int), ws[i]? = some r → ∃ b, as[i]? = some b ∧ H b = some (.lst (r.map V.int)) ∧ ¬ D b
  np : ¬ D p
  nt : ¬ D t
  dm : ∀ x, D x → ∃ o, H x = some o
/-- all stands but what the Inn itself writes -/
def KeepI (H H' : Hp) (p t : Addr) : Prop := ∀ b o, H b = some o → b ≠ p → b ≠ t → H' b = some o
def settleO (ws : List (List Int)) (mo : Option (List (Option Int))) : Option (List (Option Int)) := match mo with
  | none => (allCalm ws).head?
  | some ms => if ms ∈ allCalm ws then some ms else (allCalm ws).head?
theorem InnAt.tab {K : PySem.W.Frag} {C : Addr} {D : Addr → Prop} {H : Hp} {p t : Addr} {ws : List (List Int)} {mo : Option (List (Option Int))} (h : InnAt C D H p t ws mo) : Tab K H t ws := by
  obtain ⟨as, h1, h2, h3⟩ := h.tb
  refine ⟨as, SqL.of h1, h2, fun i r hr => ?_⟩
  obtain ⟨b, b1, b2, _⟩ := h3 i r hr
  exact ⟨b, b1, SqL.of b2⟩
theorem InnAt.on {C : Addr} {D D' : Addr → Prop} {H H' : Hp} {p t : Addr} {ws : List (List Int)} {mo : Option (List (Option Int))} (h : InnAt C D H p t ws mo) (e : Same H H') (hd : ∀ x, D' x → (D x ∨ H x = none) ∧ ∃ o, H' x = some o) : InnAt C D' H' p t ws mo := by
  obtain ⟨⟨dx, mv, h1, hm⟩, ⟨as, h2, h3, h4⟩, np, nt, dm⟩ := h
  have no : ∀ {x : Addr} {o : HO}, H x = some o → ¬ D x → ¬ D' x := fun hx nd z => by
    rcases (hd _ z).1 with q | q
    · exact nd q
    · rw [hx] at q; cases q
  refine ⟨⟨dx, mv, e _ _ h1, ?_⟩, ⟨as, e _ _ h2, h3, fun i r hr => ?_⟩, no h1 np, no h2 nt, fun x hx => (hd x hx).2⟩
  · rcases hm with hm | ⟨m, ms, r1, r2, r3, r4⟩
    · exact .inl hm
    · exact .inr ⟨m, ms, r1, e _ _ r2, r3, no r2 r4⟩
  · obtain ⟨b, b1, b2, b3⟩ := h4 i r hr
    exact ⟨b, b1, e _ _ b2, no b2 b3⟩
/-- things of others may change -/
theorem InnAt.put {C : Addr} {D : Addr → Prop} {H H' : Hp} {p t : Addr} {ws : List (List Int)} {mo : Option (List (Option Int))} (h : InnAt C D H p t ws mo) (e : ∀ b o, H b = some o → ¬ D b → H' b = some o) (hd : ∀ x, D x → ∃ o, H' x = some o) : InnAt C D H' p t ws mo := by
  obtain ⟨⟨dx, mv, h1, hm⟩, ⟨as, h2, h3, h4⟩, np, nt, dm⟩ := h
  refine ⟨⟨dx, mv, e _ _ h1 np, ?_⟩, ⟨as, e _ _ h2 nt, h3, fun i r hr => ?_⟩, np, nt, hd⟩
  · rcases hm with hm | ⟨m, ms, r1, r2, r3, r4⟩
    · exact .inl hm
    · exact .inr ⟨m, ms, r1, e _ _ r2 r4, r3, r4⟩
  · obtain ⟨b, b1, b2, b3⟩ := h4 i r hr
    exact ⟨b, b1, e _ _ b2 b3, b3⟩
theorem refs_ints {as : List Addr} {r : List Int} (h : as.map V.ref = r.map V.int) : as = [] := by
  cases as with
  | nil => rfl
  | cons a as =>
    cases r with
    | nil => cases h
    | cons x r => rw [List.map_cons, List.map_cons] at h; cases (List.cons.inj h).1
theorem refs_mates {as : List Addr} {ms : List (Option Int)} (h : as.map V.ref = ms.map ov) : as = [] := by
  cases as with
  | nil => rfl
  | cons a as =>
    cases ms with
    | nil => cases h
    | cons x r =>
      rw [List.map_cons, List.map_cons] at h
      have := (List.cons.inj h).1
      cases x <;> cases this
structure TxtI (K : PySem.W.Frag) (mg : Str → Option Value) (C fS : Addr) : Prop where
  cl : Cls K C
  nW : NoAttr K C "_wishes"
  nM : NoAttr K C "_mates"
  mS : Meth K C "_settle" fS
section
variable {P : Program} {w : World} {K : PySem.W.Frag} {mg : Str → Option Value} {base : Heap}

/-! ### _settle -/
theorem sc_settle : FnScope ["self", "found"] ["self"] (defScope s_inn_settle) := ⟨rfl, rfl, rfl, by decide +kernel, rfl, by decide +kernel, by decide +kernel⟩
def sp_settle (C : Addr) : Sp := fun vs H Q _ => ∃ (D : Addr → Prop) (p t : Addr) (ws : List (List Int)) (mo : Option (List (Option Int))), vs = [.ref p] ∧ InnAt C D H p t ws mo ∧ Good ws ∧
  ∀ H', (∀ b o, H b = some o → b ≠ p → H' b = some o) → InnAt C D H' p t ws (settleO ws mo) → Q .non H'
theorem ok_settle {C fS : Addr} {f : Addr} {fd : FuncData} (F : Fun K "_settle" "Inn._settle" s_inn_settle f fd) (X : TxtI K mg C fS) (C1 : Cal P w K mg base 5 "all_calm" ["wishes"] (sp_all_calm K)) :
    FnOk P w K mg base CX0 6 f fd ["self"] (sp_settle C) := by
  obtain ⟨g1, gd1, G1, m1, k1, b1⟩ := C1
  refine F.ok sc_settle (fun vs H Q E h => ?_) (fun cdv A outer s H vs Q E hr h => ?_)
  · obtain ⟨D, p, t, ws, mo, rfl, _⟩ := h
    rfl
  obtain ⟨D, p, t, ws, mo, rfl, hI, hG, q⟩ := h
  have hu2 := roomI hr
  refine ⟨_, pss_cons (ps_set (i := 1) sc_settle.nd rfl (Or.inl rfl) (pe_call G1 hr (by rfl) m1 k1 b1 .nil pass0 (pa_cons (pe_fld (pv 0) rfl) pa_nil)))
    (pss_cons (ps_if (pt_cmpR (op_inD hu2) (pe_fld (pv 0) rfl) (pv 1) (by rfl)) (pss_one ps_retN) pss_nil)
    (pss_one (ps_fld (pv 0) (pe_ifExp (pt_truth (pv 1) (by intro _; rfl)) (pe_ix ix_list (pv 1) pe_int (fun _ _ => rfl)) pe_non) rfl))), ?_⟩
  obtain ⟨⟨dx, mv, h1, hm⟩, ⟨as, h2, h3, h4⟩, np, nt, dm⟩ := id hI
  refine ⟨_, rfl, p, C, dx, _, _, rfl, h1, X.cl, X.nW, inf_w _ _, t, ws, rfl, hI.tab, hG, fun H1 L hL hB => ?_⟩
  have e1 := hB.1
  obtain ⟨ls, l1, l2, l3⟩ := id hB.2
  have h1' := e1 _ _ h1
  refine ⟨_, rfl, p, C, dx, _, _, rfl, h1', X.cl, X.nM, inf_m _ _, _, rfl, ?_⟩
  have hfd := hB.tabM (K := K)
  have hdp : Dp K H1 (.ref L) (dLL ((allCalm ws).map fun m => m.map ov)) := hfd.dp (plain_mates _)
  -- what is kept where it stays as it was
  have stay : settleO ws mo = mo → Q .non H1 := fun e => by
    refine q H1 (fun b o hb _ => e1 _ _ hb) ?_
    rw [e]
    exact hI.on e1 fun x hx => ⟨.inl hx, by obtain ⟨o, ho⟩ := dm x hx; exact ⟨o, e1 _ _ ho⟩⟩
  have new : ∀ mv' : V, settleO ws mo = (allCalm ws).head? → MatesAt D H1 mv' (allCalm ws).head? → Q .non (upd H1 p (.ins C dx (inf t mv'))) := fun mv' e hm' => by
    have npt : t ≠ p := ne_of h2 h1 (by intro z; cases z)
    refine q _ (fun b o hb nb => by rw [upd_ne nb]; exact e1 _ _ hb) ?_
    rw [e]
    refine ⟨⟨dx, mv', upd_same, ?_⟩, ⟨as, by rw [upd_ne npt]; exact e1 _ _ h2, h3, fun i r hr' => ?_⟩, np, nt, fun x hx => ?_⟩
    · rcases hm' with hm' | ⟨m, ms, r1, r2, r3, r4⟩
      · exact .inl hm'
      · exact .inr ⟨m, ms, r1, by rw [upd_ne (ne_of r2 h1' (by intro z; cases z))]; exact r2, r3, r4⟩
    · obtain ⟨b, b1, b2, b3⟩ := h4 i r hr'
      exact ⟨b, b1, by rw [upd_ne (ne_of b2 h1 (by intro z; cases z))]; exact e1 _ _ b2, b3⟩
    · obtain ⟨o, ho⟩ := dm x hx
      have : x ≠ p := fun z => np (z ▸ hx)
      exact ⟨o, by rw [upd_ne this]; exact e1 _ _ ho⟩
  have emp : (ls.map V.ref).isEmpty = (allCalm ws).isEmpty := by
    cases hh : allCalm ws with
    | nil => rw [hh] at l2; rw [List.length_eq_zero_iff.mp l2]; rfl
    | cons a l =>
      rw [hh] at l2
      cases ls with
      | nil => cases l2
      | cons b ls => rfl
  have go : settleO ws mo = (allCalm ws).head? → tIf (fun σ H Q => ∃ v, σ[1]? = some (some v) ∧ ∃ k, TruV K v H k ∧ Q k H) (fun σ H Q => ∃ v, σ[1]? = some (some v) ∧ rIxL K v (.int 0) H Q) (fun σ H Q => Q V.non H)
      [some (V.ref p), some (V.ref L)] H1 (fun v H2 => ∃ v0, [some (V.ref p), some (V.ref L)][0]? = some (some v0) ∧ ∃ a C dx fs, v0 = V.ref a ∧ H2 a = some (.ins C dx fs) ∧ Cls K C ∧ NoAttr K C "_mates" ∧ fs.length < 1000 ∧ Q .non (upd H2 a (.ins C dx (putF "_mates" v fs)))) := fun e => by
    have fin : ∀ mv' : V, MatesAt D H1 mv' (allCalm ws).head? → ∃ v0, [some (V.ref p), some (V.ref L)][0]? = some (some v0) ∧ ∃ a C dx fs, v0 = V.ref a ∧ H1 a = some (.ins C dx fs) ∧ Cls K C ∧ NoAttr K C "_mates" ∧ fs.length < 1000 ∧ Q .non (upd H1 a (.ins C dx (putF "_mates" mv' fs))) := fun mv' hm' =>
      ⟨_, rfl, p, C, dx, _, rfl, h1', X.cl, X.nM, by rw [inf_eq]; show 2 < 1000; decide, by rw [inf_put]; exact new mv' e hm'⟩
    refine ⟨_, rfl, _, .inl ⟨_, SqL.of l1, rfl⟩, ?_⟩
    rw [emp]
    cases hh : allCalm ws with
    | nil =>
      refine iteF (fin .non (.inl ⟨rfl, ?_⟩))
      rw [hh]; rfl
    | cons ms l =>
      refine iteT ?_
      obtain ⟨c, c1, c2, c3, c4⟩ := l3 0 ms (by rw [hh]; rfl)
      refine ⟨_, rfl, L, _, _, _, rfl, rfl, SqL.of l1, atI_nat (j := 0) (by rw [List.getElem?_map, c1]; rfl), ?_⟩
      refine fin (.ref c) (.inr ⟨c, ms, rfl, c2, by rw [hh]; rfl, fun z => ?_⟩)
      obtain ⟨o, ho⟩ := dm c z
      rw [c4] at ho; cases ho
  rcases hm with ⟨rfl, rfl⟩ | ⟨m, ms, rfl, r2, rfl, r4⟩
  · refine ⟨.none, _, .non, hdp, by decide +kernel, dLL_shaped _, _, rfl, ?_⟩
    rw [any_none]
    exact iteF (go rfl)
  · refine ⟨dL (ms.map ov), _, .lst (SqL.of (e1 _ _ r2)) (dpAll_plain _ (flat_ovs ms)), hdp, dL_shaped _, dLL_shaped _, _, rfl, ?_⟩
    rw [any_mates]
    by_cases hin : ms ∈ allCalm ws
    · rw [decide_eq_true hin]
      exact iteT (stay (if_pos hin))
    · rw [decide_eq_false hin]
      exact iteF (go (if_neg hin))

/-! ### __init__ -/
theorem sc_inn_init : FnScope ["self", "wishes", "row"] ["self", "wishes"] (defScope s_inn_init) := ⟨rfl, rfl, rfl, by decide +kernel, rfl, by decide +kernel, by decide +kernel⟩
def sp_inn_init (K : PySem.W.Frag) (C : Addr) : Sp := fun vs H Q _ => ∃ (D : Addr → Prop) (p dx a : Addr) (ws : List (List Int)), vs = [.ref p, .ref a] ∧ H p = some (.ins C dx []) ∧ Tab K H a ws ∧ Good ws ∧ ¬ D p ∧ (∀ x, D x → ∃ o, H x = some o) ∧
  ∀ (H' : Hp) (t : Addr), (∀ b o, H b = some o → b ≠ p → H' b = some o) → InnAt C D H' p t ws (allCalm ws).head? → Q .non H'
theorem ok_inn_init {C fS : Addr} {fdS : FuncData} {f : Addr} {fd : FuncData} (F : Fun K "__init__" "Inn.__init__" s_inn_init f fd) (T : Own mg) (X : TxtI K mg C fS) (C1 : Cal P w K mg base 3 "need_wishes" ["wishes"] (sp_need_wishes K))
    (GS : FnOk P w K mg base CX0 6 fS fdS ["self"] (sp_settle C)) (bS : Binds K fdS ["self"] []) : FnOk P w K mg base CX0 7 f fd ["self", "wishes"] (sp_inn_init K C) := by
  obtain ⟨g1, gd1, G1, m1, k1, b1⟩ := C1
  refine F.ok sc_inn_init (fun vs H Q E h => ?_) (fun cdv A outer s H vs Q E hr h => ?_)
  · obtain ⟨D, p, dx, a, ws, rfl, _⟩ := h
    rfl
  obtain ⟨D, p, dx, a, ws, rfl, hp, hT, hG, np, dm, q⟩ := h
  refine ⟨_, pss_cons (ps_expr (pe_call G1 (hr.mono (by decide)) (by rfl) m1 k1 b1 .nil pass0 (pa_cons (pv 1) pa_nil)))
    (pss_cons (ps_fld (pv 0) (pe_lc (own := [("row", 2)]) (g := gName 2) (tt := tYes) rfl sc_inn_init.nd (pi_list (pv 1))
        (blkOk_by (N := ["self", "wishes", "row"]) (sc := defScope s_inn_init) (by decide +kernel))
        (fun _ _ _ _ _ => pg_name (i := 2) sc_inn_init.nd rfl (Or.inl rfl)) (fun _ _ _ _ _ => pts_nil) (fun _ _ _ _ _ => pe_callTy (T := "list") (call_lof (K := K) rfl) (by rfl) T.list (by decide +kernel) (pa_cons (pv 2) pa_nil))) rfl)
    (pss_cons (ps_fld (pv 0) pe_non rfl)
    (pss_one (ps_expr (pe_meth0 (pv 0) X.cl X.mS GS hr bS .nil pass0))))), ?_⟩
  obtain ⟨as, t1, t2, t3⟩ := id hT
  have l1 := hG.lo
  refine ⟨_, rfl, a, ws, rfl, hT, hG, fun H1 e1 => ?_⟩
  have hp1 := e1 _ _ hp
  refine ⟨_, rfl, a, rfl, ⟨_, e1.seq t1⟩, fun L hL => ?_⟩
  have hL0 : H L = none := e1.free hL
  refine lc_list (K := K) (a := a) (xs := as.map V.ref) (fun i H' => Built H1 L ((ws.take i).map fun r => r.map V.int) H') (built_start hL) (fun i H' _ h => h.1.seq (e1.seq t1)) ?_ ?_
  · rintro i x H2 hx hB
    obtain ⟨b, hb, rfl⟩ := map_ref_get hx
    have hi : i < ws.length := by rw [← t2]; exact (List.getElem?_eq_some_iff.mp hb).1
    obtain ⟨b', hb', hs⟩ := t3 i ws[i] (List.getElem?_eq_getElem hi)
    rw [hb] at hb'
    cases hb'
    refine ⟨rfl, _, rfl, b, _, rfl, .inl (hB.1.seq (e1.seq hs)), fun l hl => ?_⟩
    obtain ⟨acc, z1, z2, z3⟩ := built_step (f := HO.lst) (r := ws[i].map V.int) hL hB (same_new hl _) hl upd_same
    refine ⟨acc, z1, ?_, ?_⟩
    · have := hG.hi
      rw [z2, List.length_map, List.length_take]
      exact small1000 (by omega)
    · rw [take_one (List.getElem?_eq_getElem hi), List.map_append]
      exact z3
  · rintro H2 hB
    rw [List.length_map, t2, List.take_length] at hB
    obtain ⟨e2, bs, d1, d2, d3⟩ := id hB
    have hp2 := e2 _ _ hp1
    have npL : p ≠ L := ne_of_none hp1 hL
    refine ⟨_, rfl, p, C, dx, _, rfl, hp2, X.cl, X.nW, (by show 0 < 1000; decide), _, rfl, p, C, dx, _, rfl, upd_same, X.cl, X.nM, (by show 1 < 1000; decide), ?_⟩
    have noS : (inf L .non).lookup ("_settle" : Str) = none := inf_no _ _ (by decide +kernel) (by decide +kernel)
    have e12 := e1.trans e2
    have nD : ∀ {x : Addr}, H x = none → ¬ D x := fun hx z => by
      obtain ⟨o, ho⟩ := dm _ z
      rw [hx] at ho; cases ho
    have hI : InnAt C D (upd (upd H2 p (.ins C dx (putF "_wishes" (.ref L) []))) p (.ins C dx (inf L .non))) p L ws none := by
      refine ⟨⟨dx, .non, upd_same, .inl ⟨rfl, rfl⟩⟩, ⟨bs, by rw [upd_ne npL.symm, upd_ne npL.symm]; exact d1, by rw [d2, List.length_map], fun i r hr' => ?_⟩, np, nD hL0, fun x hx => ?_⟩
      · obtain ⟨b, b1, b2, b3, b4⟩ := d3 i (r.map V.int) (by rw [List.getElem?_map, hr']; rfl)
        have nbp : b ≠ p := ne_of b2 hp2 (by intro z; cases z)
        exact ⟨b, b1, by rw [upd_ne nbp, upd_ne nbp]; exact b2, nD (e1.free b4)⟩
      · obtain ⟨o, ho⟩ := dm x hx
        have : x ≠ p := fun z => np (z ▸ hx)
        exact ⟨o, by rw [upd_ne this, upd_ne this]; exact e12 _ _ ho⟩
    refine ⟨_, rfl, p, dx, _, rfl, upd_same, noS, D, p, L, ws, none, rfl, hI, hG, fun H3 k3 hI3 => ?_⟩
    refine q H3 L (fun b o hb nb => ?_) hI3
    refine k3 b o ?_ nb
    rw [upd_ne nb, upd_ne nb]
    exact e12 _ _ hb

/-! ### turn -/
theorem sc_inn_turn : FnScope ["self", "guest", "row"] ["self", "guest", "row"] (defScope s_inn_turn) := ⟨rfl, rfl, rfl, by decide +kernel, rfl, by decide +kernel, by decide +kernel⟩
def sp_inn_turn (K : PySem.W.Frag) (C cG cW : Addr) : Sp := fun vs H Q E => ∃ (D : Addr → Prop) (p t : Addr) (ws : List (List Int)) (mo : Option (List (Option Int))) (gv rv : V), vs = [.ref p, gv, rv] ∧ InnAt C D H p t ws mo ∧ Good ws ∧
  ((∃ (g : Nat) (b : Addr) (r : List Int), gv = .int g ∧ g < ws.length ∧ rv = .ref b ∧ SqL K H b (r.map V.int) ∧ GoodRow ws.length (g : Int) r ∧
      ∀ H', KeepI H H' p t → InnAt C D H' p t (ws.set g r) (settleO (ws.set g r) mo) → Q .non H') ∨
   (GuestBad K H ws.length gv ∧ ∀ H', Same H H' → E (.ref cG) none H') ∨
   (∃ g : Nat, gv = .int g ∧ g < ws.length ∧ RowBad K H ws.length (g : Int) rv ∧ ∀ H', Same H H' → E (.ref cW) none H'))
theorem ok_inn_turn {C fS cG cW : Addr} {fdS : FuncData} {f : Addr} {fd : FuncData} (F : Fun K "turn" "Inn.turn" s_inn_turn f fd) (T : Own mg) (X : TxtI K mg C fS) (C1 : CalX P w K mg base 2 "need_guest" ["wishes", "guest"] (sp_need_guestX K cG))
    (C2 : CalX P w K mg base 2 "need_row" ["row", "guest", "many"] (sp_need_rowX K cW)) (GS : FnOk P w K mg base CX0 6 fS fdS ["self"] (sp_settle C)) (bS : Binds K fdS ["self"] []) :
    FnOk P w K mg base (L2N.CX P w) 7 f fd ["self", "guest", "row"] (sp_inn_turn K C cG cW) := by
  obtain ⟨g1, gd1, G1, m1, k1, b1⟩ := C1
  obtain ⟨g2, gd2, G2, m2, k2, b2⟩ := C2
  refine F.okN sc_inn_turn (fun vs H Q E h => ?_) (fun cdv A outer s H vs Q E hr h => ?_)
  · obtain ⟨D, p, t, ws, mo, gv, rv, rfl, _⟩ := h
    rfl
  obtain ⟨D, p, t, ws, mo, gv, rv, rfl, hI, hG, q⟩ := h
  refine ⟨_, pss_cons (ps_expr (pe_call G1 (hr.mono (by decide)) (by rfl) m1 k1 b1 .nil (L2N.passes_call (L2N.takes_of rfl rfl rfl rfl) fun _ _ _ _ h => h) (pa_cons (pe_fld (pv 0) rfl) (pa_cons (pv 1) pa_nil))))
    (pss_cons (ps_expr (pe_call G2 (hr.mono (by decide)) (by rfl) m2 k2 b2 .nil (L2N.passes_call (L2N.takes_of rfl rfl rfl rfl) fun _ _ _ _ h => h) (pa_cons (pv 2) (pa_cons (pv 1) (pa_cons (pe_callB call_len_seq (by rfl) T.len PySem.boot_len (pa_cons (pe_fld (pv 0) rfl) pa_nil)) pa_nil)))))
    (pss_cons (ps_asg (pe_callTy (T := "list") (call_lof (K := K) rfl) (by rfl) T.list (by decide +kernel) (pa_cons (pv 2) pa_nil)) (pg_sub (pe_fld (pv 0) rfl) (pv 1) set_list))
    (pss_one (ps_expr (pe_meth0 (pv 0) X.cl X.mS GS hr bS .nil pass0))))), ?_⟩
  obtain ⟨⟨dx, mv, h1, hm⟩, ⟨as, h2, h3, h4⟩, np, nt, dm⟩ := id hI
  have lo := hG.lo
  have hi := hG.hi
  have hl : (as.map V.ref).length = ws.length := by rw [List.length_map]; exact h3
  rcases q with ⟨g, b, r, rfl, hg, rfl, hS, hR, q⟩ | ⟨hB, q⟩ | ⟨g, rfl, hg, hB, q⟩
  · refine ⟨_, rfl, p, C, dx, _, _, rfl, h1, X.cl, X.nW, inf_w _ _, _, rfl, t, _, _, rfl, SqL.of h2, by omega, by omega, .inl ⟨(g : Int), rfl, by omega, by rw [hl]; omega, ?_⟩⟩
    refine ⟨_, rfl, _, rfl, _, rfl, p, C, dx, _, _, rfl, h1, X.cl, X.nW, inf_w _ _, t, _, rfl, .inl (SqL.of h2), ?_⟩
    rw [hl]
    refine ⟨_, (g : Int), ws.length, rfl, by omega, by omega, .inl ⟨b, r, rfl, hS, hR, ?_⟩⟩
    refine ⟨_, rfl, b, _, rfl, .inl hS, fun l hl0 => ?_⟩
    have e1 := same_new hl0 (.lst (r.map V.int))
    refine ⟨_, rfl, p, C, dx, _, _, rfl, e1 _ _ h1, X.cl, X.nW, inf_w _ _, _, rfl, t, _, _, _, rfl, rfl, e1 _ _ h2, ixN_of (by omega) (by rw [hl]; omega), ?_⟩
    have npt : p ≠ t := ne_of h1 h2 (by intro z; cases z)
    have nlt : l ≠ t := (ne_of_none h2 hl0).symm
    have nlp : l ≠ p := (ne_of_none h1 hl0).symm
    have noS : (inf t mv).lookup ("_settle" : Str) = none := inf_no _ _ (by decide +kernel) (by decide +kernel)
    have nD : ¬ D l := fun z => by
      obtain ⟨o, ho⟩ := dm _ z
      rw [hl0] at ho; cases ho
    have notE : as ≠ [] := fun z => by rw [z] at h3; simp at h3; omega
    have eg : ((g : Nat) : Int).toNat = g := by omega
    have hI2 : InnAt C D (upd (upd H l (.lst (r.map V.int))) t (.lst ((as.map V.ref).set ((g : Nat) : Int).toNat (.ref l)))) p t (ws.set g r) mo := by
      refine ⟨⟨dx, mv, by rw [upd_ne npt, upd_ne nlp.symm]; exact h1, ?_⟩, ⟨as.set g l, by rw [upd_same, eg, List.map_set], by rw [List.length_set, List.length_set]; exact h3, fun i r' hr' => ?_⟩, np, nt, fun x hx => ?_⟩
      · rcases hm with hm | ⟨m, ms, r1, r2, r3, r4⟩
        · exact .inl hm
        · have nmt : m ≠ t := ne_of r2 h2 (by
            intro z
            have z2 : ms.map ov = as.map V.ref := by unfold fm at z; exact HO.lst.inj z
            exact notE (refs_mates z2.symm))
          exact .inr ⟨m, ms, r1, by rw [upd_ne nmt, upd_ne (ne_of_none r2 hl0)]; exact r2, r3, r4⟩
      · rw [List.getElem?_set] at hr' ⊢
        by_cases c : g = i
        · rw [if_pos c] at hr' ⊢
          rw [if_pos (by omega)] at hr'
          cases hr'
          exact ⟨l, by rw [if_pos (by omega)], by rw [upd_ne nlt, upd_same], nD⟩
        · rw [if_neg c] at hr' ⊢
          obtain ⟨b', b1, b2, b3⟩ := h4 i r' hr'
          have nbt : b' ≠ t := ne_of b2 h2 (by
            intro z
            exact notE (refs_ints (HO.lst.inj z).symm))
          exact ⟨b', b1, by rw [upd_ne nbt, upd_ne (ne_of_none b2 hl0)]; exact b2, b3⟩
      · obtain ⟨o, ho⟩ := dm x hx
        have : x ≠ t := fun z => nt (z ▸ hx)
        exact ⟨o, by rw [upd_ne this]; exact e1 _ _ ho⟩
    refine ⟨_, rfl, p, dx, _, rfl, by rw [upd_ne npt, upd_ne nlp.symm]; exact h1, noS, D, p, t, ws.set g r, mo, rfl, hI2, good_set hG hR, fun H3 k3 hI3 => ?_⟩
    refine q H3 (fun b o hb nb nbt => ?_) hI3
    refine k3 b o ?_ nb
    rw [upd_ne nbt]
    exact e1 _ _ hb
  · refine ⟨_, rfl, p, C, dx, _, _, rfl, h1, X.cl, X.nW, inf_w _ _, _, rfl, t, _, _, rfl, SqL.of h2, by omega, by omega, .inr ⟨by rw [hl]; exact hB, q H (Same.refl H)⟩⟩
  · refine ⟨_, rfl, p, C, dx, _, _, rfl, h1, X.cl, X.nW, inf_w _ _, _, rfl, t, _, _, rfl, SqL.of h2, by omega, by omega, .inl ⟨(g : Int), rfl, by omega, by rw [hl]; omega, ?_⟩⟩
    refine ⟨_, rfl, _, rfl, _, rfl, p, C, dx, _, _, rfl, h1, X.cl, X.nW, inf_w _ _, t, _, rfl, .inl (SqL.of h2), ?_⟩
    rw [hl]
    exact ⟨_, (g : Int), ws.length, rfl, by omega, by omega, .inr ⟨hB, q H (Same.refl H)⟩⟩

/-! ### twos -/
theorem sc_inn_twos : FnScope ["self"] ["self"] (defScope s_inn_twos) := ⟨rfl, rfl, rfl, by decide +kernel, rfl, by decide +kernel, by decide +kernel⟩
def sp_inn_twos (C : Addr) : Sp := fun vs H Q _ => ∃ (D : Addr → Prop) (p t : Addr) (ws : List (List Int)) (mo : Option (List (Option Int))), vs = [.ref p] ∧ InnAt C D H p t ws mo ∧
  ((mo = none → Q .non H) ∧ ∀ (ms : List (Option Int)) (H' : Hp) (l : Addr), mo = some ms → Same H H' → H l = none → H' l = some (fm ms) → Q (.ref l) H')
theorem ok_inn_twos {C fS : Addr} {f : Addr} {fd : FuncData} (F : Fun K "twos" "Inn.twos" s_inn_twos f fd) (T : Own mg) (X : TxtI K mg C fS) : FnOk P w K mg base CX0 1 f fd ["self"] (sp_inn_twos C) := by
  refine F.ok sc_inn_twos (fun vs H Q E h => ?_) (fun cdv A outer s H vs Q E hr h => ?_)
  · obtain ⟨D, p, t, ws, mo, rfl, _⟩ := h
    rfl
  obtain ⟨D, p, t, ws, mo, rfl, hI, q0, q1⟩ := h
  refine ⟨_, pss_cons (ps_if (pt_cmpR op_isN (pe_fld (pv 0) rfl) pe_non (nomark _)) (pss_one (ps_ret pe_non)) pss_nil)
    (pss_one (ps_ret (pe_callTy (T := "list") (call_lof (K := K) rfl) (by rfl) T.list (by decide +kernel) (pa_cons (pe_fld (pv 0) rfl) pa_nil)))), ?_⟩
  obtain ⟨⟨dx, mv, h1, hm⟩, _⟩ := id hI
  refine ⟨_, rfl, p, C, dx, _, _, rfl, h1, X.cl, X.nM, inf_m _ _, rfl, _, rfl, ?_⟩
  rcases hm with ⟨rfl, rfl⟩ | ⟨m, ms, rfl, r2, rfl, r4⟩
  · exact iteT (q0 rfl)
  · refine iteF ?_
    refine ⟨_, rfl, p, C, dx, _, _, rfl, h1, X.cl, X.nM, inf_m _ _, m, _, rfl, .inl (SqL.of r2), fun l hl => ?_⟩
    exact q1 ms _ l rfl (same_new hl _) hl upd_same

/-! ### table -/
theorem sc_inn_table : FnScope ["self", "row"] ["self"] (defScope s_inn_table) := ⟨rfl, rfl, rfl, by decide +kernel, rfl, by decide +kernel, by decide +kernel⟩
def sp_inn_table (C : Addr) : Sp := fun vs H Q _ => ∃ (D : Addr → Prop) (p t : Addr) (ws : List (List Int)) (mo : Option (List (Option Int))), vs = [.ref p] ∧ InnAt C D H p t ws mo ∧ ws.length ≤ 6 ∧
  ∀ (H' : Hp) (l : Addr), H l = none → Built H l (ws.map fun r => r.map V.int) H' → Q (.ref l) H'
theorem ok_inn_table {C fS : Addr} {f : Addr} {fd : FuncData} (F : Fun K "table" "Inn.table" s_inn_table f fd) (T : Own mg) (X : TxtI K mg C fS) : FnOk P w K mg base CX0 1 f fd ["self"] (sp_inn_table C) := by
  refine F.ok sc_inn_table (fun vs H Q E h => ?_) (fun cdv A outer s H vs Q E hr h => ?_)
  · obtain ⟨D, p, t, ws, mo, rfl, _⟩ := h
    rfl
  obtain ⟨D, p, t, ws, mo, rfl, hI, l6, q⟩ := h
  refine ⟨_, pss_one (ps_ret (pe_lc (own := [("row", 1)]) (g := gName 1) (tt := tYes) rfl sc_inn_table.nd (pi_list (pe_fld (pv 0) rfl))
        (blkOk_by (N := ["self", "row"]) (sc := defScope s_inn_table) (by decide +kernel))
        (fun _ _ _ _ _ => pg_name (i := 1) sc_inn_table.nd rfl (Or.inl rfl)) (fun _ _ _ _ _ => pts_nil) (fun _ _ _ _ _ => pe_callTy (T := "list") (call_lof (K := K) rfl) (by rfl) T.list (by decide +kernel) (pa_cons (pv 1) pa_nil)))), ?_⟩
  obtain ⟨⟨dx, mv, h1, hm⟩, ⟨as, h2, h3, h4⟩, np, nt, dm⟩ := id hI
  refine ⟨_, rfl, p, C, dx, _, _, rfl, h1, X.cl, X.nW, inf_w _ _, t, rfl, ⟨_, SqL.of h2⟩, fun L hL => ?_⟩
  refine lc_list (K := K) (a := t) (xs := as.map V.ref) (fun i H' => Built H L ((ws.take i).map fun r => r.map V.int) H') (built_start hL) (fun i H' _ h => SqL.of (h.1 _ _ h2)) ?_ ?_
  · rintro i x H2 hx hB
    obtain ⟨b, hb, rfl⟩ := map_ref_get hx
    have hi : i < ws.length := by rw [← h3]; exact (List.getElem?_eq_some_iff.mp hb).1
    obtain ⟨b', hb', hs, _⟩ := h4 i ws[i] (List.getElem?_eq_getElem hi)
    rw [hb] at hb'
    cases hb'
    refine ⟨rfl, _, rfl, b, _, rfl, .inl (SqL.of (hB.1 _ _ hs)), fun l hl => ?_⟩
    obtain ⟨acc, z1, z2, z3⟩ := built_step (f := HO.lst) (r := ws[i].map V.int) hL hB (same_new hl _) hl upd_same
    refine ⟨acc, z1, ?_, ?_⟩
    · rw [z2, List.length_map, List.length_take]
      exact small1000 (by omega)
    · rw [take_one (List.getElem?_eq_getElem hi), List.map_append]
      exact z3
  · rintro H2 hB
    rw [List.length_map, h3, List.take_length] at hB
    exact q H2 L hL hB
end
end B2

namespace B2
open PySem L2
section
variable {P : Program} {w : World} {K : PySem.W.Frag} {mg : Str → Option Value} {base : Heap}

/-! ### _law_cell_at -/
theorem sc_cell_at : FnScope ["_law_script", "_law_k"] ["_law_script", "_law_k"] (defScope s_cell_at) := ⟨rfl, rfl, rfl, by decide +kernel, rfl, by decide +kernel, by decide +kernel⟩
def sp_cell_at (K : PySem.W.Frag) : Sp := fun vs H Q _ => ∃ (a : Addr) (ns : List Int) (k : Int), vs = [.ref a, .int k] ∧ SqL K H a (ns.map V.int) ∧ 0 ≤ k ∧ ∀ c : Int, Q (.int c) H
theorem ok_cell_at {f : Addr} {fd : FuncData} (F : Fun K "_law_cell_at" "_law_cell_at" s_cell_at f fd) (T : Own mg) : FnOk P w K mg base CX0 1 f fd ["_law_script", "_law_k"] (sp_cell_at K) := by
  refine F.ok sc_cell_at (fun vs H Q E h => ?_) (fun cdv A outer s H vs Q E hr h => ?_)
  · obtain ⟨a, ns, k, rfl, _⟩ := h
    rfl
  obtain ⟨a, ns, k, rfl, hS, k0, q⟩ := h
  refine ⟨_, pss_cons (ps_if (pt_cmpR op_lt (pv 1) (pe_callB call_len_seq (by rfl) T.len PySem.boot_len (pa_cons (pv 0) pa_nil)) (nomark _))
      (pss_one (ps_ret (pe_ix ix_list (pv 0) (pv 1) (fun _ _ => rfl)))) pss_nil)
    (pss_one (ps_ret pe_int)), ?_⟩
  refine ⟨_, rfl, _, rfl, a, _, rfl, .inl hS, _, _, rfl, rfl, _, rfl, ?_⟩
  refine ite2 (fun c => ?_) (fun c => ?_)
  · have c' : k < (((ns.map V.int).length : Nat) : Int) := of_decide_eq_true c
    rw [List.length_map] at c'
    have hk : k.toNat < ns.length := by omega
    have e : k = ((k.toNat : Nat) : Int) := by omega
    have z : atI (ns.map V.int) ((k.toNat : Nat) : Int) = some (.int ns[k.toNat]) := atI_nat (by rw [List.getElem?_map, List.getElem?_eq_getElem hk]; rfl)
    rw [← e] at z
    exact ⟨_, rfl, _, rfl, a, _, _, _, rfl, rfl, hS, z, q _⟩
  · exact q 0

/-! ### _law_row_by -/
theorem sc_row_by : FnScope ["_law_cell", "_law_guest", "_law_many", "_law_full", "_law_left", "_law_row", "_law_one"] ["_law_cell", "_law_guest", "_law_many", "_law_full"] (defScope s_row_by) := ⟨rfl, rfl, rfl, by decide +kernel, rfl, by decide +kernel, by decide +kernel⟩
def sp_row_by : Sp := fun vs H Q _ => ∃ (c g : Int) (n : Nat) (full : Bool), vs = [.int c, .int g, .int n, .bl full] ∧ n ≤ 6 ∧
  ∀ (H' : Hp) (p : Addr) (r : List Int), Same H H' → H p = none → H' p = some (.lst (r.map V.int)) → GoodRow n g r → Q (.ref p) H'

/-- what is left to be drawn, and what is drawn -/
structure Draw (H : Hp) (n : Nat) (g : Int) (D R : Addr) (H' : Hp) (left row : List Int) : Prop where
  same : Same H H'
  hD : H D = none
  hR : H R = none
  ne : D ≠ R
  atD : H' D = some (.lst (left.map V.int))
  atR : H' R = some (.lst (row.map V.int))
  nd : (row ++ left).Nodup
  rg : ∀ x ∈ row ++ left, 0 ≤ x ∧ x < (n : Int) ∧ x ≠ g
  sm : (row ++ left).length ≤ 6

theorem Draw.good {H H' : Hp} {n : Nat} {g : Int} {D R : Addr} {left row : List Int} (d : Draw H n g D R H' left row) : GoodRow n g row :=
  ⟨(List.nodup_append.mp d.nd).1, fun x hx => d.rg x (List.mem_append_left _ hx), by have := d.sm; rw [List.length_append] at this; omega⟩

theorem GoodRow.take {n : Nat} {g : Int} {r : List Int} (h : GoodRow n g r) (m : Nat) : GoodRow n g (r.take m) :=
  ⟨h.nd.sublist (List.take_sublist m r), fun x hx => h.rg x (List.mem_of_mem_take hx), Nat.le_trans (List.length_take_le' m r) h.sm⟩

theorem erase_perm {α : Type} : ∀ (l : List α) (k : Nat) (y : α), l[k]? = some y → (y :: l.eraseIdx k).Perm l
  | [], _, _, h => by cases h
  | a :: l, 0, y, h => by cases h; exact List.Perm.refl _
  | a :: l, k + 1, y, h => by
    have ih := erase_perm l k y h
    exact (List.Perm.swap a y _).trans (List.Perm.cons a ih)

theorem Draw.step {H H' : Hp} {n : Nat} {g : Int} {D R : Addr} {left row : List Int} (d : Draw H n g D R H' left row) {k : Nat} {y : Int} (hy : left[k]? = some y) :
    Draw H n g D R (upd (upd H' D (.lst ((left.eraseIdx k).map V.int))) R (.lst ((row ++ [y]).map V.int))) (left.eraseIdx k) (row ++ [y]) := by
  have p : (y :: left.eraseIdx k).Perm left := erase_perm left k y hy
  have p2 : (row ++ [y] ++ left.eraseIdx k).Perm (row ++ left) := by
    rw [List.append_assoc]
    exact List.Perm.append_left row p
  exact ⟨same_put (same_put d.same d.hD _) d.hR _, d.hD, d.hR, d.ne, by rw [upd_ne d.ne, upd_same], upd_same, p2.nodup_iff.mpr d.nd, fun x hx => d.rg x (p2.mem_iff.mp hx), by rw [p2.length_eq]; exact d.sm⟩

theorem ok_row_by {f : Addr} {fd : FuncData} (F : Fun K "_law_row_by" "_law_row_by" s_row_by f fd) (T : Own mg) : FnOk P w K mg base CX0 1 f fd ["_law_cell", "_law_guest", "_law_many", "_law_full"] sp_row_by := by
  refine F.ok sc_row_by (fun vs H Q E h => ?_) (fun cdv A outer s H vs Q E hr h => ?_)
  · obtain ⟨c, g, n, full, rfl, _⟩ := h
    rfl
  obtain ⟨c, g, n, full, rfl, hn, q⟩ := h
  refine ⟨_, pss_cons (ps_setLc (i := 4) (own := [("_law_one", 6)]) (g := gName 6) rfl sc_row_by.nd rfl rfl (sw_true rfl rfl rfl (by decide +kernel)) (pi_range1 rfl T.rng (pa_cons (pv 2) pa_nil))
      (blkOk_by (N := ["_law_cell", "_law_guest", "_law_many", "_law_full", "_law_left", "_law_row", "_law_one"]) (sc := defScope s_row_by) (by decide +kernel))
      (fun _ _ _ _ _ => pg_name (i := 6) sc_row_by.nd rfl (Or.inl rfl)) (fun _ _ _ _ _ => pts_one (pt_cmpR op_ne (pv 6) (pv 1) (nomark _))) (fun _ _ _ _ _ => pv 6))
    (pss_cons (ps_set (i := 5) sc_row_by.nd rfl (Or.inl rfl) (pe_lst pa_nil))
    (pss_cons (ps_while PassesOwn.never (pt_cmpR op_gt (pe_callB call_len_seq (by rfl) T.len PySem.boot_len (pa_cons (pv 4) pa_nil)) pe_int (nomark _))
      (pss_cons (ps_expr (pe_bm PySem.F.plainAttrs_list PySem.F.slot_list_append PySem.F.type_list_append mt_append (pv 5)
          (pa_cons (pe_bm PySem.F.plainAttrs_list PySem.F.slot_list_pop PySem.F.type_list_pop mt_popAt (pv 4)
            (pa_cons (pe_op op_mod (pv 0) (pe_callB call_len_seq (by rfl) T.len PySem.boot_len (pa_cons (pv 4) pa_nil))) pa_nil)) pa_nil)))
      (pss_one (ps_set (i := 0) sc_row_by.nd rfl (Or.inl rfl) (pe_op op_fdiv (pv 0) (pe_op op_add (pe_callB call_len_seq (by rfl) T.len PySem.boot_len (pa_cons (pv 4) pa_nil)) pe_int))))))
    (pss_cons (ps_if (pt_val (pv 3)) (pss_one (ps_ret (pv 5))) pss_nil)
    (pss_one (ps_ret (pe_slice sl_list (pv 5) po_none (po_some (pe_op op_mod (pv 0) (pe_op op_add (pe_callB call_len_seq (by rfl) T.len PySem.boot_len (pa_cons (pv 5) pa_nil)) pe_int))))))))), ?_⟩
  refine ⟨_, rfl, (n : Int), rfl, (by omega), (by omega), fun D hD => ?_⟩
  refine lc_range (lo := 0) (n := (n : Int).toNat) (fun i H' => ∃ acc : List Int, H' = upd H D (.lst (acc.map V.int)) ∧ acc.Nodup ∧ acc.length ≤ i ∧ ∀ x ∈ acc, 0 ≤ x ∧ x < (i : Int) ∧ x ≠ g)
    ⟨[], rfl, List.nodup_nil, Nat.le_refl _, fun x hx => by cases hx⟩ ?_ ?_
  · rintro i H' hi ⟨acc, rfl, nd, hl, hx⟩
    refine ⟨rfl, _, rfl, _, rfl, rfl, _, rfl, ?_⟩
    refine ite2 (fun c => ?_) (fun c => ?_)
    · have hg : (0 + (i : Int)) ≠ g := fun z => by
        rw [decide_eq_true (by rw [z])] at c
        cases c
      refine ⟨_, rfl, acc.map V.int, upd_same, by rw [List.length_map]; exact Nat.lt_of_le_of_lt hl (small1000 (by omega)), acc ++ [0 + (i : Int)], ?_, ?_, ?_, ?_⟩
      · rw [upd_upd, List.map_append]; rfl
      · rw [List.nodup_append]
        refine ⟨nd, by simp, fun x hx1 y hy => ?_⟩
        rw [List.mem_singleton] at hy
        have := hx x hx1
        rw [hy]
        omega
      · rw [List.length_append, List.length_singleton]; omega
      · intro x hx1
        rcases List.mem_append.mp hx1 with h | h
        · have := hx x h
          exact ⟨this.1, by omega, this.2.2⟩
        · rw [List.mem_singleton] at h
          rw [h]
          exact ⟨by omega, by omega, hg⟩
    · exact ⟨acc, rfl, nd, by omega, fun x h => by
        have := hx x h
        exact ⟨this.1, by omega, this.2.2⟩⟩
  · rintro H' ⟨acc, rfl, nd, hl, hx⟩
    refine ⟨(by show 0 ≤ sizeLine; decide), fun R hR => ?_⟩
    have hDR : D ≠ R := ne_of_none (upd_same (H := H) (a := D)) hR
    have hR0 : H R = none := (same_new hD _).free hR
    refine while_by (fun σ H' => ∃ (c : Int) (left row : List Int) (z : Option V), σ = [some (.int c), some (.int g), some (.int n), some (.bl full), some (.ref D), some (.ref R), z] ∧ Draw H n g D R H' left row)
      (fun σ H' => match H' D with | some (.lst xs) => xs.length | _ => 0)
      ⟨c, acc, [], none, rfl, same_put (same_new hD _) hR0 _, hD, hR0, hDR, by rw [upd_ne hDR, upd_same], upd_same, nd, ?_, ?_⟩ ?_ ?_
    · intro x h
      have := hx x h
      exact ⟨this.1, by omega, this.2.2⟩
    · show acc.length ≤ 6
      omega
    · rintro σ H' ⟨c, left, row, z, rfl, d⟩
      refine ⟨_, rfl, D, _, rfl, .inl (SqL.of d.atD), _, _, rfl, rfl, _, rfl, ?_⟩
      rw [List.length_map]
      refine ite2 (fun c1 => ?_) (fun c1 => ?_)
      · have hl0 : ((left.length : Nat) : Int) > 0 := of_decide_eq_true c1
        have hk : (c % (left.length : Int)).toNat < left.length := by
          have h1 := Int.emod_lt_of_pos c hl0
          omega
        have h1 := Int.emod_lt_of_pos c hl0
        have h0 := Int.emod_nonneg c (show (left.length : Int) ≠ 0 by omega)
        have hlen := d.sm
        rw [List.length_append] at hlen
        have hget : left[(c % (left.length : Int)).toNat]? = some left[(c % (left.length : Int)).toNat] := List.getElem?_eq_getElem hk
        have d2 := d.step hget
        have nRD : R ≠ D := d.ne.symm
        refine ⟨_, rfl, .inl ⟨rfl, _, SqL.of d.atR⟩, ?_⟩
        refine ⟨_, rfl, .inl ⟨rfl, _, SqL.of d.atD⟩, ?_⟩
        refine ⟨_, rfl, _, rfl, D, _, rfl, .inl (SqL.of d.atD), c, (left.length : Int), rfl, by rw [List.length_map], hl0, ?_⟩
        refine ⟨D, _, _, (c % (left.length : Int)).toNat, _, rfl, rfl, d.atD, (by omega), (by omega), ?_, (by rw [List.getElem?_map, hget]; rfl), ?_⟩
        · rw [List.length_map]
          exact seqIx h0 h1
        refine ⟨R, _, _, rfl, rfl, by rw [upd_ne nRD]; exact d.atR, ?_, ?_⟩
        · rw [List.length_map]
          exact small1000 (by omega)
        have eH : upd (upd H' D (.lst ((left.map V.int).eraseIdx (c % (left.length : Int)).toNat))) R (.lst (row.map V.int ++ [V.int left[(c % (left.length : Int)).toNat]])) =
            upd (upd H' D (.lst ((left.eraseIdx (c % (left.length : Int)).toNat).map V.int))) R (.lst ((row ++ [left[(c % (left.length : Int)).toNat]]).map V.int)) := by
          rw [map_erase, List.map_append]; rfl
        rw [eH]
        have hel : (left.eraseIdx (c % (left.length : Int)).toNat).length = left.length - 1 := by rw [List.length_eraseIdx, if_pos hk]
        refine ⟨_, rfl, _, rfl, D, _, rfl, .inl (SqL.of d2.atD), _, _, rfl, rfl, _, _, rfl, rfl, ?_, ?_⟩
        · rw [List.length_map, hel]
          exact ⟨by omega, by omega⟩
        · refine ⟨⟨_, _, _, _, rfl, d2⟩, ?_⟩
          rw [d2.atD, d.atD]
          show (List.map V.int _).length < (List.map V.int _).length
          rw [List.length_map, List.length_map, hel]
          omega
      · have hl0 : left = [] := by
          have : ¬ ((left.length : Nat) : Int) > 0 := of_decide_eq_false (Bool.eq_false_iff.mpr c1)
          cases left with
          | nil => rfl
          | cons a l => simp at this
        subst hl0
        have hG := d.good
        refine ⟨_, rfl, _, rfl, ?_⟩
        refine ite2 (fun c2 => ?_) (fun c2 => ?_)
        · exact ⟨_, rfl, q H' R row d.same d.hR d.atR hG⟩
        · obtain ⟨m, hm⟩ := cut_take row (c % ((((row.map V.int).length : Nat) : Int) + 1))
          refine ⟨_, rfl, _, rfl, _, rfl, R, _, rfl, .inl (SqL.of d.atR), _, _, rfl, rfl, _, _, rfl, rfl, (by show (0 : Int) < (((row.map V.int).length : Nat) : Int) + 1; omega), _, rfl, R, _, rfl, SqL.of d.atR, fun p hp => ?_⟩
          rw [hm]
          exact q _ p (row.take m) (d.same.trans (same_new hp _)) (d.same.free hp) upd_same (hG.take m)
    · rintro σ H' Q1 Q2 hq ⟨v, hv, p, ys, e1, h, i, j, e2, e3, k, e4, hq1⟩
      exact ⟨v, hv, p, ys, e1, h, i, j, e2, e3, k, e4, hq _ _ hq1⟩

/-! ### _law_wishes_by -/
theorem sc_wishes_by : FnScope ["_law_script", "_law_many", "_law_full", "_law_k"] ["_law_script", "_law_many"] (defScope s_wishes_by) := ⟨rfl, rfl, rfl, by decide +kernel, rfl, by decide +kernel, by decide +kernel⟩
def sp_wishes_by (K : PySem.W.Frag) : Sp := fun vs H Q _ => ∃ (a : Addr) (ns : List Int) (n : Nat), vs = [.ref a, .int n] ∧ SqL K H a (ns.map V.int) ∧ 1 ≤ n ∧ n ≤ 6 ∧
  ∀ (H' : Hp) (p : Addr) (ws : List (List Int)), H p = none → Built H p (ws.map fun r => r.map V.int) H' → Good ws → ws.length = n → Q (.ref p) H'
theorem ok_wishes_by {f : Addr} {fd : FuncData} (F : Fun K "_law_wishes_by" "_law_wishes_by" s_wishes_by f fd) (T : Own mg) (C1 : Cal P w K mg base 1 "_law_cell_at" ["_law_script", "_law_k"] (sp_cell_at K))
    (C2 : Cal P w K mg base 1 "_law_row_by" ["_law_cell", "_law_guest", "_law_many", "_law_full"] sp_row_by) : FnOk P w K mg base CX0 2 f fd ["_law_script", "_law_many"] (sp_wishes_by K) := by
  obtain ⟨g1, gd1, G1, m1, k1, b1⟩ := C1
  obtain ⟨g2, gd2, G2, m2, k2, b2⟩ := C2
  refine F.ok sc_wishes_by (fun vs H Q E h => ?_) (fun cdv A outer s H vs Q E hr h => ?_)
  · obtain ⟨a, ns, n, rfl, _⟩ := h
    rfl
  obtain ⟨a, ns, n, rfl, hS, n1, n6, q⟩ := h
  refine ⟨_, pss_cons (ps_set (i := 2) sc_wishes_by.nd rfl (Or.inr rfl) (pe_cmpR op_gt (pe_op op_mod (pe_call G1 hr (by rfl) m1 k1 b1 .nil pass0 (pa_cons (pv 0) (pa_cons pe_int pa_nil))) pe_int) pe_int (nomark _)))
    (pss_one (ps_ret (pe_lc (own := [("_law_k", 3)]) (g := gName 3) (tt := tYes) rfl sc_wishes_by.nd (pi_range1 rfl T.rng (pa_cons (pv 1) pa_nil))
      (blkOk_by (N := ["_law_script", "_law_many", "_law_full", "_law_k"]) (sc := defScope s_wishes_by) (by decide +kernel))
      (fun _ _ _ _ _ => pg_name (i := 3) sc_wishes_by.nd rfl (Or.inl rfl)) (fun _ _ _ _ _ => pts_nil)
      (fun _ _ _ _ _ => pe_call G2 hr (by rfl) m2 k2 b2 .nil pass0 (pa_cons (pe_call G1 hr (by rfl) m1 k1 b1 .nil pass0 (pa_cons (pv 0) (pa_cons (pe_op op_add pe_int (pv 3)) pa_nil))) (pa_cons (pv 3) (pa_cons (pv 1) (pa_cons (pv 2) pa_nil)))))))), ?_⟩
  refine ⟨_, rfl, a, ns, 1, rfl, hS, by decide, fun c => ?_⟩
  refine ⟨_, _, rfl, rfl, (by show (0 : Int) < 3; decide), _, _, rfl, rfl, ?_⟩
  refine ⟨_, rfl, (n : Int), rfl, by omega, by omega, fun D hD => ?_⟩
  refine lc_range (lo := 0) (n := (n : Int).toNat) (fun i H' => ∃ ws : List (List Int), Built H D (ws.map fun r => r.map V.int) H' ∧ ws.length = i ∧ ∀ (g : Nat) (r : List Int), ws[g]? = some r → GoodRow n (g : Int) r)
    ⟨[], built_start hD, rfl, fun g r h => by cases h⟩ ?_ ?_
  · rintro i H1 hi ⟨ws, hB, hl, hG⟩
    refine ⟨rfl, ?_⟩
    refine ⟨_, rfl, _, rfl, _, _, rfl, rfl, a, ns, _, rfl, hB.1.seq hS, (by omega), fun c2 => ?_⟩
    refine ⟨_, rfl, _, rfl, _, rfl, c2, (i : Int), n, _, (by rw [Int.zero_add]; rfl), n6, fun H2 p r e hp hp2 hr2 => ?_⟩
    obtain ⟨acc, h1, h2, h3⟩ := built_step hD hB e hp hp2
    refine ⟨acc, h1, ?_, ws ++ [r], ?_, ?_, ?_⟩
    · rw [h2, List.length_map, hl]
      exact small1000 (by omega)
    · rw [List.map_append]; exact h3
    · rw [List.length_append, hl]; rfl
    · intro g r' h
      rw [List.getElem?_append] at h
      by_cases c : g < ws.length
      · rw [if_pos c] at h
        exact hG g r' h
      · rw [if_neg c] at h
        have i0 : g - ws.length = 0 := by
          have := (List.getElem?_eq_some_iff.mp h).1
          simp at this
          omega
        rw [i0] at h
        cases h
        have : g = i := by omega
        rw [this]
        exact hr2
  · rintro H1 ⟨ws, hB, hl, hG⟩
    have hln : ws.length = n := by omega
    exact q H1 D ws hD hB ⟨by omega, by omega, fun g r h => by rw [hln]; exact hG g r h⟩ hln
end
end B2

namespace B2
open PySem L2

theorem ifT {c : Bool} {A B : Prop} (h : c = true) (x : A) : if c = true then A else B := by rw [if_pos h]; exact x
theorem ifF {c : Bool} {A B : Prop} (h : c = false) (x : B) : if c = true then A else B := by rw [h, if_neg Bool.false_ne_true]; exact x

theorem kit_bi {K : PySem.W.Frag} : PySem.W.kitOne K (.type "bool") (.type "int") = some true := kit_ty (by decide +kernel)
theorem kit_si {K : PySem.W.Frag} : PySem.W.kitOne K (.type "str") (.type "int") = some false := kit_ty (by decide +kernel)
theorem kit_ni {K : PySem.W.Frag} : PySem.W.kitOne K (.type "NoneType") (.type "int") = some false := kit_ty (by decide +kernel)
theorem kit_li {K : PySem.W.Frag} : PySem.W.kitOne K (.type "list") (.type "int") = some false := kit_ty (by decide +kernel)
theorem kit_di {K : PySem.W.Frag} : PySem.W.kitOne K (.type "dict") (.type "int") = some false := kit_ty (by decide +kernel)
theorem kit_tl {K : PySem.W.Frag} : PySem.W.kitOne K (.type "tuple") (.type "list") = some false := kit_ty (by decide +kernel)
theorem kit_sl {K : PySem.W.Frag} : PySem.W.kitOne K (.type "str") (.type "list") = some false := kit_ty (by decide +kernel)
theorem kit_nl {K : PySem.W.Frag} : PySem.W.kitOne K (.type "NoneType") (.type "list") = some false := kit_ty (by decide +kernel)
theorem kit_il {K : PySem.W.Frag} : PySem.W.kitOne K (.type "int") (.type "list") = some false := kit_ty (by decide +kernel)

theorem cut_to (r : List Int) {k : Int} (h0 : 0 ≤ k) : cutV (r.map V.int) none (some k) = (r.take k.toNat).map V.int := by
  unfold cutV
  have e0 : HT.sIx (r.map V.int).length 0 none = 0 := rfl
  have e1 : HT.sIx (r.map V.int).length (r.map V.int).length (some k) = min k.toNat r.length := by
    show (if k < 0 then (k + ((r.map V.int).length : Int)).toNat else min k.toNat (r.map V.int).length) = _
    rw [if_neg (by omega), List.length_map]
  rw [e0, e1, List.drop_zero, Nat.sub_zero, ← List.map_take, List.take_eq_take_iff.mpr]
  omega
theorem cut_from (r : List Int) {k : Int} (h0 : 0 ≤ k) : cutV (r.map V.int) (some k) none = (r.drop k.toNat).map V.int := by
  unfold cutV
  have e1 : HT.sIx (r.map V.int).length (r.map V.int).length none = (r.map V.int).length := rfl
  have e0 : HT.sIx (r.map V.int).length 0 (some k) = min k.toNat r.length := by
    show (if k < 0 then (k + ((r.map V.int).length : Int)).toNat else min k.toNat (r.map V.int).length) = _
    rw [if_neg (by omega), List.length_map]
  rw [e0, e1, ← List.map_drop, List.length_map]
  by_cases c : k.toNat ≤ r.length
  · rw [Nat.min_eq_left c, List.take_of_length_le (by rw [List.length_map, List.length_drop]; exact Nat.le_refl _)]
  · rw [Nat.min_eq_right (by omega), Nat.sub_self, List.take_zero, List.drop_eq_nil_of_le (by omega)]
    rfl

/-- one thing in a list of numbers -/
def withX (r : List Int) (k : Nat) (x : V) : List V := (r.take k).map V.int ++ [x] ++ (r.drop k).map V.int
theorem with_at {r : List Int} {k : Nat} (hk : k ≤ r.length) (x : V) : (withX r k x)[k]? = some x := by
  unfold withX
  have e : ((r.take k).map V.int).length = k := by rw [List.length_map, List.length_take]; omega
  rw [List.append_assoc, List.getElem?_append_right (by omega), e, Nat.sub_self]
  rfl
theorem with_before {r : List Int} {k i : Nat} (hk : k ≤ r.length) (x : V) (hi : i < k) : ∃ y, y ∈ r ∧ (withX r k x)[i]? = some (V.int y) := by
  unfold withX
  have e : ((r.take k).map V.int).length = k := by rw [List.length_map, List.length_take]; omega
  have h : i < r.length := by omega
  refine ⟨r[i], List.getElem_mem h, ?_⟩
  rw [List.append_assoc, List.getElem?_append_left (by omega), List.getElem?_map, List.getElem?_take, if_pos hi, List.getElem?_eq_getElem h]
  rfl
theorem with_ints {r : List Int} {k : Nat} (y : Int) : withX r k (.int y) = (r.take k ++ [y] ++ r.drop k).map V.int := by
  unfold withX
  rw [List.map_append, List.map_append]
  rfl
theorem with_dup {r : List Int} {k : Nat} {y : Int} (h : y ∈ r) : ¬ (r.take k ++ [y] ++ r.drop k).Nodup := fun nd => by
  have p : (r.take k ++ [y] ++ r.drop k).Perm (y :: r) := by
    have e : (y :: r).Perm (y :: (r.take k ++ r.drop k)) := by rw [List.take_append_drop]
    refine List.Perm.trans ?_ e.symm
    rw [List.append_assoc]
    exact List.perm_middle
  exact (List.nodup_cons.mp (p.nodup_iff.mp nd)).1 h

/-- a bad thing makes a bad list -/
theorem bad_with {K : PySem.W.Frag} {H : Hp} {n : Nat} {g : Int} {b : Addr} {r : List Int} {k : Nat} {x : V} (hk : k ≤ r.length) (hr : ∀ y ∈ r, 0 ≤ y ∧ y < (n : Int) ∧ y ≠ g) (hS : SqL K H b (withX r k x)) (hx : BadWish K H n g x) : RowBad K H n g (.ref b) :=
  .inr (.inl ⟨b, _, k, x, rfl, hS, with_at hk x, fun i hi => by
    obtain ⟨y, hy, e⟩ := with_before hk x hi
    have := hr y hy
    exact ⟨y, e, this.1, this.2.1, this.2.2⟩, hx⟩)

/-- a bad list in a table of good ones makes a bad table -/
theorem bad_tab {K : PySem.W.Frag} {H : Hp} {a : Addr} {xs : List V} {ws : List (List Int)} {g : Nat} {x : V} (hG : Good ws) (hg : g < ws.length) (hl : xs.length = ws.length) (hS : SqL K H a (xs.set g x))
    (hr : ∀ i, i < g → ∃ (b : Addr) (r : List Int), xs[i]? = some (V.ref b) ∧ SqL K H b (r.map V.int) ∧ ws[i]? = some r) (hB : RowBad K H ws.length (g : Int) x) : TabBad K H (.ref a) := by
  have hi := hG.hi
  have hlo := hG.lo
  refine .inr (.inr ⟨a, xs.set g x, g, x, rfl, hS, by rw [List.length_set]; omega, by rw [List.length_set]; omega, ?_, fun i hi => ?_, ?_⟩)
  · rw [List.getElem?_set, if_pos rfl, if_pos (by omega)]
  · obtain ⟨b, r, e1, e2, e3⟩ := hr i hi
    refine ⟨b, r, ?_, e2, ?_⟩
    · rw [List.getElem?_set, if_neg (by omega)]; exact e1
    · rw [List.length_set, hl]
      exact hG.row i r e3
  · rw [List.length_set, hl]
    exact hB
end B2

namespace B2
open PySem L2
/-- what can't stand at place j of mates, where all before it are None -/
def MateBad (K : PySem.W.Frag) (H : Hp) (ws : List (List Int)) (xs : List V) (j : Nat) (x : V) : Prop :=
  (x ≠ V.non ∧ NotInt K H x) ∨ ∃ i : Int, x = V.int i ∧ (¬ (0 ≤ i ∧ i < (ws.length : Int)) ∨
    (0 ≤ i ∧ i < (ws.length : Int) ∧ ∃ o : Option Int, atI xs i = some (ov o) ∧ (o ≠ some (j : Int) ∨ (o = some (j : Int) ∧ suitsB ws (j : Int) i = false))))
/-- what is no list of mates for the wishes ws -/
def MatesBad (K : PySem.W.Frag) (H : Hp) (ws : List (List Int)) (v : V) : Prop :=
  NotList K H v ∨ ∃ (b : Addr) (xs : List V), v = V.ref b ∧ SqL K H b xs ∧ xs.length ≤ 64 ∧ (xs.length ≠ ws.length ∨
    (xs.length = ws.length ∧ ∃ (j : Nat) (x : V), xs[j]? = some x ∧ (∀ i, i < j → xs[i]? = some V.non) ∧ MateBad K H ws xs j x))
theorem MateBad.same {K : PySem.W.Frag} {H H' : Hp} {ws : List (List Int)} {xs : List V} {j : Nat} {x : V} (h : MateBad K H ws xs j x) (e : Same H H') : MateBad K H' ws xs j x := by
  rcases h with ⟨h1, h2⟩ | h
  · exact .inl ⟨h1, h2.same e⟩
  · exact .inr h
theorem MatesBad.same {K : PySem.W.Frag} {H H' : Hp} {ws : List (List Int)} {v : V} (h : MatesBad K H ws v) (e : Same H H') : MatesBad K H' ws v := by
  rcases h with h | ⟨b, xs, e1, hS, l, h | ⟨h1, j, x, h2, h3, h4⟩⟩
  · exact .inl (h.same e)
  · exact .inr ⟨b, xs, e1, e.seq hS, l, .inl h⟩
  · exact .inr ⟨b, xs, e1, e.seq hS, l, .inr ⟨h1, j, x, h2, h3, h4.same e⟩⟩
section
variable {P : Program} {w : World} {K : PySem.W.Frag} {mg : Str → Option Value} {base : Heap}

/-! ### need_mates, of what are no mates -/
theorem sc_need_mates : FnScope ["wishes", "mates", "many", "guest", "mate"] ["wishes", "mates"] (defScope s_need_mates) := ⟨rfl, rfl, rfl, by decide +kernel, rfl, by decide +kernel, by decide +kernel⟩
def sp_need_matesB (K : PySem.W.Frag) (C : Addr) : Sp := fun vs H _ E => ∃ (a : Addr) (v : V) (ws : List (List Int)), vs = [.ref a, v] ∧ Tab K H a ws ∧ Good ws ∧ MatesBad K H ws v ∧ ∀ H', Same H H' → E (.ref C) none H'
theorem ok_need_matesB {C : Addr} {f : Addr} {fd : FuncData} (F : Fun K "need_mates" "need_mates" s_need_mates f fd) (T : Own mg) (W : ErrC K mg "BadMates" C) (C1 : Cal P w K mg base 1 "is_guest" ["number", "many"] (sp_is_guestX K))
    (C2 : Cal P w K mg base 1 "in_both" ["wishes", "one", "other"] (sp_in_both K)) : FnOk P w K mg base (L2N.CX P w) 2 f fd ["wishes", "mates"] (sp_need_matesB K C) := by
  obtain ⟨g1, gd1, G1, m1, k1, b1⟩ := C1
  obtain ⟨g2, gd2, G2, m2, k2, b2⟩ := C2
  refine F.okN sc_need_mates (fun vs H Q E h => ?_) (fun cdv A outer s H vs Q E hr h => ?_)
  · obtain ⟨a, v, ws, rfl, _⟩ := h
    rfl
  obtain ⟨a, v, ws, rfl, hT, hG, hB, q⟩ := h
  refine ⟨_, pss_cons (ps_set (i := 2) sc_need_mates.nd rfl (Or.inl rfl) (pe_callB call_len_seq (by rfl) T.len PySem.boot_len (pa_cons (pv 0) pa_nil)))
    (pss_cons (ps_if (PW.pt (pw_or (pt_not (pt_val (pe_callB call_isi (by rfl) T.isI (by decide +kernel) (pa_cons (pv 1) (pa_cons (pe_bltn (v := .ty "list") (by rfl) T.list (by decide +kernel) rfl) pa_nil)))))
        (pw_or1 (pt_cmpR op_ne (pe_callB call_len_seq (by rfl) T.len PySem.boot_len (pa_cons (pv 1) pa_nil)) (pv 2) (nomark _)))))
        (pss_one (L2N.ps_raise rfl (L2N.takes_of rfl rfl rfl rfl) (pmk_ownAN PySem.F.excBase_ValueError W.ex W.g W.k (raises_own W.b W.t) (by rfl) (pa_cons (pe_joined (.cons pe_str (.cons (pe_fmt (pv 2)) .nil))) pa_nil)))) pss_nil)
    (pss_one (ps_for (passes_of rfl) rfl (pi_enum (by rfl) T.enm (pa_cons (pv 1) pa_nil))
      (pg_tup (by rfl) (pgs_cons (pg_name (i := 3) sc_need_mates.nd rfl (Or.inl rfl)) (pgs_cons (pg_name (i := 4) sc_need_mates.nd rfl (Or.inl rfl)) pgs_nil)))
      (pss_cons (ps_if (pt_cmpR op_isN (pv 4) pe_non (nomark _)) (pss_one ps_continue) pss_nil)
      (pss_cons (ps_if (pt_not (pt_val (pe_call G1 (hr.mono (by decide)) (by rfl) m1 k1 b1 .nil pass0 (pa_cons (pv 4) (pa_cons (pv 2) pa_nil)))))
        (pss_one (L2N.ps_raise rfl (L2N.takes_of rfl rfl rfl rfl) (pmk_ownAN PySem.F.excBase_ValueError W.ex W.g W.k (raises_own W.b W.t) (by rfl) (pa_cons (pe_joined (.cons pe_str (.cons (pe_fmt (pv 3)) (.cons pe_str .nil)))) pa_nil)))) pss_nil)
      (pss_cons (ps_if (pt_cmpR op_ne (pe_ix ix_list (pv 1) (pv 4) (fun _ _ => rfl)) (pv 3) (nomark _))
        (pss_one (L2N.ps_raise rfl (L2N.takes_of rfl rfl rfl rfl) (pmk_ownAN PySem.F.excBase_ValueError W.ex W.g W.k (raises_own W.b W.t) (by rfl) (pa_cons (pe_joined (.cons pe_str (.cons (pe_fmt (pv 3)) (.cons pe_str .nil)))) pa_nil)))) pss_nil)
      (pss_one (ps_if (pt_not (pt_val (pe_call G2 (hr.mono (by decide)) (by rfl) m2 k2 b2 .nil pass0 (pa_cons (pv 0) (pa_cons (pv 3) (pa_cons (pv 4) pa_nil))))))
        (pss_one (L2N.ps_raise rfl (L2N.takes_of rfl rfl rfl rfl) (pmk_ownAN PySem.F.excBase_ValueError W.ex W.g W.k (raises_own W.b W.t) (by rfl) (pa_cons (pe_joined (.cons pe_str (.cons (pe_fmt (pv 3)) (.cons pe_str .nil)))) pa_nil)))) pss_nil)))))))), ?_⟩
  obtain ⟨as, h1, h2, h3⟩ := id hT
  have hl : (as.map V.ref).length = ws.length := by rw [List.length_map]; exact h2
  have lo := hG.lo
  have hi := hG.hi
  -- an error's text with the guest g
  have txt : ∀ (σ : St) (c1 c2 : Str) (g : Int) (H2 : Hp) (Q2 : Str → Hp → Prop), σ[3]? = some (some (.int g)) → 0 ≤ g → g ≤ 7 → c1.length ≤ 1000 → c2.length ≤ 1000 → (∀ out, Q2 out H2) → tJs [tC (.str c1), tFmt (tVar 3), tC (.str c2)] Str.empty σ H2 Q2 := fun σ c1 c2 g H2 Q2 h1 g0 g7 l1 l2 q2 =>
    js_small _ _ _ (fun t ht => by
      rcases List.mem_cons.mp ht with e | ht
      · rw [e]; exact sm_str l1
      rcases List.mem_cons.mp ht with e | ht
      · rw [e]; exact sm_fmt (g := g) (fun Q q => ⟨_, h1, q⟩) g0 g7
      rw [List.mem_singleton] at ht
      rw [ht]; exact sm_str l2) (by rw [show Str.empty.length = 0 from rfl]; show 0 + 1000 * 3 ≤ 1000000; decide) q2
  have txt0 : ∀ (σ : St) (c1 : Str) (Q2 : Str → Hp → Prop), σ[2]? = some (some (.int (ws.length : Nat))) → c1.length ≤ 1000 → (∀ out, Q2 out H) → tJs [tC (.str c1), tFmt (tVar 2)] Str.empty σ H Q2 := fun σ c1 Q2 h1 l1 q2 =>
    js_small _ _ _ (fun t ht => by
      rcases List.mem_cons.mp ht with e | ht
      · rw [e]; exact sm_str l1
      rw [List.mem_singleton] at ht
      rw [ht]; exact sm_fmt (g := ((ws.length : Nat) : Int)) (fun Q q => ⟨_, h1, q⟩) (by omega) (by omega)) (by rw [show Str.empty.length = 0 from rfl]; show 0 + 1000 * 2 ≤ 1000000; decide) q2
  refine ⟨_, rfl, a, _, rfl, .inl h1, ?_⟩
  rw [hl]
  rcases hB with ⟨t, ty, hk⟩ | ⟨b, xs, rfl, hM, hxl, hne | ⟨hel, j, x, hj, hbef, hbad⟩⟩
  · refine ⟨_, rfl, _, _, _, _, _, rfl, .ty _, ty, hk, _, rfl, iteT ?_⟩
    exact txt0 _ _ _ rfl (by decide +kernel) fun out => ⟨(by show 1 ≤ sizeLine; decide), q H (Same.refl H)⟩
  · refine ⟨_, rfl, _, _, _, _, _, rfl, .ty _, ty_list hM, kit_ll, _, rfl, iteF ?_⟩
    refine ⟨_, rfl, b, _, rfl, .inl hM, _, rfl, rfl, _, rfl, ?_⟩
    have e0 : decide (V.int (xs.length : Nat) = V.int (ws.length : Nat)) = false := decide_eq_false (fun z => by
      have := V.int.inj z
      omega)
    rw [e0]
    refine iteT ?_
    exact txt0 _ _ _ rfl (by decide +kernel) fun out => ⟨(by show 1 ≤ sizeLine; decide), q H (Same.refl H)⟩
  · refine ⟨_, rfl, _, _, _, _, _, rfl, .ty _, ty_list hM, kit_ll, _, rfl, iteF ?_⟩
    refine ⟨_, rfl, b, _, rfl, .inl hM, _, rfl, rfl, _, rfl, ?_⟩
    rw [hel, decide_eq_true (rfl : V.int (ws.length : Nat) = V.int (ws.length : Nat))]
    refine iteF ?_
    have hjl : j < xs.length := (List.getElem?_eq_some_iff.mp hj).1
    refine ⟨_, rfl, b, _, rfl, hM, for_it walk_enum (fun i σ H' => Same H H' ∧ i ≤ j ∧ ∃ y z, σ = [some (.ref a), some (.ref b), some (.int ws.length), y, z])
      ⟨Same.refl H, Nat.zero_le _, none, none, rfl⟩ (fun i σ H' _ h => h.1.seq hM) ?_ ?_⟩
    · rintro i u σ H' H2 hi' ⟨hs, hij, y, z, rfl⟩ ⟨t, x1, x2, rfl, ht, rfl, ex1, ex2⟩
      cases ex1
      change xs[i]? = some x2 at ex2
      have hs2 := hs.trans (same_new ht (.tup [V.int (i : Nat), x2]))
      refine ⟨t, _, rfl, SqT.of upd_same, rfl, _, _, rfl, _, _, rfl, rfl, ?_⟩
      refine ⟨_, rfl, rfl, _, rfl, ?_⟩
      by_cases c : i = j
      · subst c
        rw [hj] at ex2
        cases ex2
        have go : ∀ (σ : St) (c1 c2 : Str), σ[3]? = some (some (.int (i : Nat))) → c1.length ≤ 1000 → c2.length ≤ 1000 → tJs [tC (.str c1), tFmt (tVar 3), tC (.str c2)] Str.empty σ (upd H' t (.tup [V.int (i : Nat), x])) fun out H1 => ([V.str out] : List V).length ≤ sizeLine ∧ E (.ref C) none H1 := fun σ c1 c2 hs3 l1 l2 =>
          txt _ _ _ _ _ _ hs3 (by omega) (by omega) l1 l2 fun out => ⟨(by show 1 ≤ sizeLine; decide), q _ hs2⟩
        rcases hbad with ⟨hnn, hN⟩ | ⟨m, rfl, hm⟩
        · rw [decide_eq_false hnn]
          refine iteF ⟨_, rfl, _, rfl, _, _, rfl, .inr ⟨hN.same hs2, _, rfl, iteT ?_⟩⟩
          exact go _ _ _ rfl (by decide +kernel) (by decide +kernel)
        · rw [decide_eq_false (show V.int m ≠ V.non from fun z => by cases z)]
          refine iteF ⟨_, rfl, _, rfl, _, _, rfl, .inl ⟨m, rfl, _, rfl, ?_⟩⟩
          rcases hm with hm | ⟨m0, m1', o, ho, hm⟩
          · rw [decide_eq_false hm]
            exact iteT (go _ _ _ rfl (by decide +kernel) (by decide +kernel))
          · rw [decide_eq_true (And.intro m0 m1')]
            refine iteF ⟨_, rfl, _, rfl, b, _, _, _, rfl, rfl, hs2.seq hM, ho, ?_⟩
            refine ⟨_, rfl, by cases o <;> rfl, _, rfl, ?_⟩
            rcases hm with hm | ⟨rfl, hm⟩
            · rw [decide_eq_false (show ov o ≠ V.int (i : Nat) from fun z => by
                cases o with
                | none => cases z
                | some k =>
                  have : k = (i : Int) := V.int.inj z
                  exact hm (by rw [this]))]
              exact iteT (go _ _ _ rfl (by decide +kernel) (by decide +kernel))
            · rw [decide_eq_true (show ov (some (i : Int)) = V.int (i : Nat) from rfl)]
              refine iteF ⟨_, rfl, _, rfl, _, rfl, a, ws, (i : Int), m, rfl, hT.same hs2, by omega, by omega, m0, m1', _, rfl, ?_⟩
              rw [hm]
              exact iteT (go _ _ _ rfl (by decide +kernel) (by decide +kernel))
      · have hb := hbef i (by omega)
        rw [ex2] at hb
        cases hb
        rw [decide_eq_true (rfl : V.non = V.non)]
        exact iteT ⟨hs2, by omega, _, _, rfl⟩
    · rintro σ H' ⟨hs, hij, _⟩
      omega

/-! ### restless, calm of such -/
theorem sc_restless : FnScope ["wishes", "mates"] ["wishes", "mates"] (defScope s_restless) := ⟨rfl, rfl, rfl, by decide +kernel, rfl, by decide +kernel, by decide +kernel⟩
theorem ok_restlessM {C : Addr} {f : Addr} {fd : FuncData} (F : Fun K "restless" "restless" s_restless f fd) (C1 : Cal P w K mg base 3 "need_wishes" ["wishes"] (sp_need_wishes K))
    (C2 : CalX P w K mg base 2 "need_mates" ["wishes", "mates"] (sp_need_matesB K C)) : FnOk P w K mg base (L2N.CX P w) 4 f fd ["wishes", "mates"] (sp_need_matesB K C) := by
  obtain ⟨g1, gd1, G1, m1, k1, b1⟩ := C1
  obtain ⟨g2, gd2, G2, m2, k2, b2⟩ := C2
  refine F.okN sc_restless (fun vs H Q E h => ?_) (fun cdv A outer s H vs Q E hr h => ?_)
  · obtain ⟨a, v, ws, rfl, _⟩ := h
    rfl
  obtain ⟨a, v, ws, rfl, hT, hG, hB, q⟩ := h
  refine ⟨_, pss_cons (ps_expr (pe_call G1 hr (by rfl) m1 k1 b1 .nil pass0 (pa_cons (pv 0) pa_nil)))
    (pss_cons (ps_expr (pe_call G2 (hr.mono (by decide)) (by rfl) m2 k2 b2 .nil (L2N.passes_call (L2N.takes_of rfl rfl rfl rfl) fun _ _ _ _ h => h) (pa_cons (pv 0) (pa_cons (pv 1) pa_nil)))) pss_no), ?_⟩
  refine ⟨_, rfl, a, ws, rfl, hT, hG, fun H1 s1 => ?_⟩
  exact ⟨_, rfl, _, rfl, a, v, ws, rfl, hT.same s1, hG, hB.same s1, fun H' e => q H' (s1.trans e)⟩
theorem sc_calm : FnScope ["wishes", "mates"] ["wishes", "mates"] (defScope s_calm) := ⟨rfl, rfl, rfl, by decide +kernel, rfl, by decide +kernel, by decide +kernel⟩
theorem ok_calmM {C : Addr} {f : Addr} {fd : FuncData} (F : Fun K "calm" "calm" s_calm f fd) (C1 : CalX P w K mg base 4 "restless" ["wishes", "mates"] (sp_need_matesB K C)) : FnOk P w K mg base (L2N.CX P w) 5 f fd ["wishes", "mates"] (sp_need_matesB K C) := by
  obtain ⟨g1, gd1, G1, m1, k1, b1⟩ := C1
  refine F.okN sc_calm (fun vs H Q E h => ?_) (fun cdv A outer s H vs Q E hr h => ?_)
  · obtain ⟨a, v, ws, rfl, _⟩ := h
    rfl
  obtain ⟨a, v, ws, rfl, hT, hG, hB, q⟩ := h
  exact ⟨_, pss_one (ps_ret (pe_cmpR (op_eqD hr.units) (pe_call G1 hr (by rfl) m1 k1 b1 .nil (L2N.passes_call (L2N.takes_of rfl rfl rfl rfl) fun _ _ _ _ h => h) (pa_cons (pv 0) (pa_cons (pv 1) pa_nil))) pe_no (nomark _))),
    _, rfl, _, rfl, a, v, ws, rfl, hT, hG, hB, q⟩

/-! ### suits, rather of what is no guest -/
theorem sc_suits : FnScope ["wishes", "one", "other"] ["wishes", "one", "other"] (defScope s_suits) := ⟨rfl, rfl, rfl, by decide +kernel, rfl, by decide +kernel, by decide +kernel⟩
def sp_suitsG (K : PySem.W.Frag) (C : Addr) : Sp := fun vs H _ E => ∃ (a : Addr) (ws : List (List Int)) (x y : V), vs = [.ref a, x, y] ∧ Tab K H a ws ∧ Good ws ∧
  (GuestBad K H ws.length x ∨ ((∃ i : Int, x = V.int i ∧ 0 ≤ i ∧ i < (ws.length : Int)) ∧ GuestBad K H ws.length y)) ∧ ∀ H', Same H H' → E (.ref C) none H'
theorem ok_suitsG {C : Addr} {f : Addr} {fd : FuncData} (F : Fun K "suits" "suits" s_suits f fd) (C1 : Cal P w K mg base 3 "need_wishes" ["wishes"] (sp_need_wishes K))
    (C2 : CalX P w K mg base 2 "need_guest" ["wishes", "guest"] (sp_need_guestX K C)) : FnOk P w K mg base (L2N.CX P w) 4 f fd ["wishes", "one", "other"] (sp_suitsG K C) := by
  obtain ⟨g1, gd1, G1, m1, k1, b1⟩ := C1
  obtain ⟨g2, gd2, G2, m2, k2, b2⟩ := C2
  refine F.okN sc_suits (fun vs H Q E h => ?_) (fun cdv A outer s H vs Q E hr h => ?_)
  · obtain ⟨a, ws, x, y, rfl, _⟩ := h
    rfl
  obtain ⟨a, ws, x, y, rfl, hT, hG, hB, q⟩ := h
  refine ⟨_, pss_cons (ps_expr (pe_call G1 hr (by rfl) m1 k1 b1 .nil pass0 (pa_cons (pv 0) pa_nil)))
    (pss_cons (ps_expr (pe_call G2 (hr.mono (by decide)) (by rfl) m2 k2 b2 .nil (L2N.passes_call (L2N.takes_of rfl rfl rfl rfl) fun _ _ _ _ h => h) (pa_cons (pv 0) (pa_cons (pv 1) pa_nil))))
    (pss_cons (ps_expr (pe_call G2 (hr.mono (by decide)) (by rfl) m2 k2 b2 .nil (L2N.passes_call (L2N.takes_of rfl rfl rfl rfl) fun _ _ _ _ h => h) (pa_cons (pv 0) (pa_cons (pv 2) pa_nil)))) pss_no)), ?_⟩
  refine ⟨_, rfl, a, ws, rfl, hT, hG, fun H1 s1 => ?_⟩
  obtain ⟨as, h1, h2, h3⟩ := id (hT.same s1)
  have lo := hG.lo
  have hi := hG.hi
  have hl : (as.map V.ref).length = ws.length := by rw [List.length_map]; exact h2
  rcases hB with hB | ⟨⟨i, rfl, i0, i1⟩, hB⟩
  · exact ⟨_, rfl, _, rfl, a, _, _, rfl, h1, by omega, by omega, .inr ⟨by rw [hl]; exact hB.same s1, q H1 s1⟩⟩
  · refine ⟨_, rfl, _, rfl, a, _, _, rfl, h1, by omega, by omega, .inl ⟨i, rfl, i0, by rw [hl]; exact i1, ?_⟩⟩
    exact ⟨_, rfl, _, rfl, a, _, _, rfl, h1, by omega, by omega, .inr ⟨by rw [hl]; exact hB.same s1, q H1 s1⟩⟩
theorem sc_rather : FnScope ["wishes", "guest", "one", "other", "choice"] ["wishes", "guest", "one", "other"] (defScope s_rather) := ⟨rfl, rfl, rfl, by decide +kernel, rfl, by decide +kernel, by decide +kernel⟩
def sp_ratherG (K : PySem.W.Frag) (C : Addr) : Sp := fun vs H _ E => ∃ (a : Addr) (ws : List (List Int)) (g x y : V), vs = [.ref a, g, x, y] ∧ Tab K H a ws ∧ Good ws ∧
  (GuestBad K H ws.length g ∨ ((∃ i : Int, g = V.int i ∧ 0 ≤ i ∧ i < (ws.length : Int)) ∧ ((GuestBad K H ws.length x ∧ x ≠ V.non) ∨ (x = V.non ∧ GuestBad K H ws.length y ∧ y ≠ V.non)))) ∧ ∀ H', Same H H' → E (.ref C) none H'
theorem ok_ratherG {C : Addr} {f : Addr} {fd : FuncData} (F : Fun K "rather" "rather" s_rather f fd) (C1 : Cal P w K mg base 3 "need_wishes" ["wishes"] (sp_need_wishes K))
    (C2 : CalX P w K mg base 2 "need_guest" ["wishes", "guest"] (sp_need_guestX K C)) : FnOk P w K mg base (L2N.CX P w) 4 f fd ["wishes", "guest", "one", "other"] (sp_ratherG K C) := by
  obtain ⟨g1, gd1, G1, m1, k1, b1⟩ := C1
  obtain ⟨g2, gd2, G2, m2, k2, b2⟩ := C2
  refine F.okN sc_rather (fun vs H Q E h => ?_) (fun cdv A outer s H vs Q E hr h => ?_)
  · obtain ⟨a, ws, g, x, y, rfl, _⟩ := h
    rfl
  obtain ⟨a, ws, g, x, y, rfl, hT, hG, hB, q⟩ := h
  refine ⟨_, pss_cons (ps_expr (pe_call G1 hr (by rfl) m1 k1 b1 .nil pass0 (pa_cons (pv 0) pa_nil)))
    (pss_cons (ps_expr (pe_call G2 (hr.mono (by decide)) (by rfl) m2 k2 b2 .nil (L2N.passes_call (L2N.takes_of rfl rfl rfl rfl) fun _ _ _ _ h => h) (pa_cons (pv 0) (pa_cons (pv 1) pa_nil))))
    (pss_cons (ps_for (passes_of rfl) rfl (pi_tup (pe_tup (pa_cons (pv 2) (pa_cons (pv 3) pa_nil)))) (pg_name (i := 4) sc_rather.nd rfl (Or.inl rfl))
      (pss_one (ps_if (pt_cmpR op_notN (pv 4) pe_non (nomark _)) (pss_one (ps_expr (pe_call G2 (hr.mono (by decide)) (by rfl) m2 k2 b2 .nil (L2N.passes_call (L2N.takes_of rfl rfl rfl rfl) fun _ _ _ _ h => h) (pa_cons (pv 0) (pa_cons (pv 4) pa_nil))))) pss_nil))) pss_no)), ?_⟩
  refine ⟨_, rfl, a, ws, rfl, hT, hG, fun H1 s1 => ?_⟩
  obtain ⟨as, h1, h2, h3⟩ := id (hT.same s1)
  have lo := hG.lo
  have hi := hG.hi
  have hl : (as.map V.ref).length = ws.length := by rw [List.length_map]; exact h2
  rcases hB with hB | ⟨⟨i, rfl, i0, i1⟩, hB⟩
  · exact ⟨_, rfl, _, rfl, a, _, _, rfl, h1, by omega, by omega, .inr ⟨by rw [hl]; exact hB.same s1, q H1 s1⟩⟩
  · refine ⟨_, rfl, _, rfl, a, _, _, rfl, h1, by omega, by omega, .inl ⟨i, rfl, i0, by rw [hl]; exact i1, ?_⟩⟩
    refine ⟨_, rfl, _, rfl, (by show 2 ≤ sizeLine; decide), fun t ht => ?_⟩
    have s2 := s1.trans (same_new ht (.tup [x, y]))
    have h1' := (same_new ht (.tup [x, y])).seq h1
    refine ⟨t, rfl, ⟨_, SqT.of upd_same⟩, for_tup (K := K) (a := t) (xs := [x, y]) (fun i σ H' => H' = upd H1 t (.tup [x, y]) ∧ (i = 0 ∨ (i = 1 ∧ x = V.non)) ∧ ∃ z, σ = [some (.ref a), some (.int _), some x, some y, z])
      ⟨rfl, .inl rfl, none, rfl⟩ (fun i σ H' _ h => by rw [h.1]; exact SqT.of upd_same) ?_ ?_⟩
    · rintro k v σ H' hv ⟨rfl, hk, z, rfl⟩
      have bad : ∀ u : V, GuestBad K H ws.length u → GuestBad K (upd H1 t (.tup [x, y])) (as.map V.ref).length u := fun u hu => by rw [hl]; exact hu.same s2
      rcases hk with rfl | ⟨rfl, rfl⟩
      · cases (show some x = some v from hv)
        refine ⟨_, rfl, rfl, _, rfl, ?_⟩
        rcases hB with ⟨hB, hn⟩ | ⟨rfl, hB, hn⟩
        · rw [decide_eq_false hn]
          exact iteT ⟨_, rfl, _, rfl, a, _, _, rfl, h1', by omega, by omega, .inr ⟨bad _ hB, q _ s2⟩⟩
        · rw [decide_eq_true (rfl : V.non = V.non)]
          exact iteF ⟨rfl, .inr ⟨rfl, rfl⟩, _, rfl⟩
      · cases (show some y = some v from hv)
        refine ⟨_, rfl, rfl, _, rfl, ?_⟩
        rcases hB with ⟨hB, hn⟩ | ⟨_, hB, hn⟩
        · exact absurd rfl hn
        · rw [decide_eq_false hn]
          exact iteT ⟨_, rfl, _, rfl, a, _, _, rfl, h1', by omega, by omega, .inr ⟨bad _ hB, q _ s2⟩⟩
    · rintro σ H' ⟨_, hk, _⟩
      rcases hk with hk | ⟨hk, _⟩
      · exact absurd (show (2 : Nat) = 0 from hk) (by decide)
      · exact absurd (show (2 : Nat) = 1 from hk) (by decide)
end
end B2

namespace B2
open PySem L2
/-- what is no list of next ones -/
def PartiesBad (K : PySem.W.Frag) (H : Hp) (v : V) : Prop :=
  NotList K H v ∨
  (∃ (b : Addr) (xs : List V), v = V.ref b ∧ SqL K H b xs ∧ (xs.length = 0 ∨ xs.length = 7)) ∨
  (∃ (b : Addr) (xs : List V) (j : Nat) (x : V), v = V.ref b ∧ SqL K H b xs ∧ 1 ≤ xs.length ∧ xs.length ≤ 6 ∧ xs[j]? = some x ∧ (∀ i, i < j → ∃ y : Int, xs[i]? = some (V.int y) ∧ 0 ≤ y ∧ y < (xs.length : Int)) ∧ GuestBad K H xs.length x) ∨
  (∃ (b : Addr) (ns : List Int), v = V.ref b ∧ SqL K H b (ns.map V.int) ∧ 1 ≤ ns.length ∧ ns.length ≤ 6 ∧ (∀ y ∈ ns, 0 ≤ y ∧ y < (ns.length : Int)) ∧ ¬ ns.Nodup)
theorem PartiesBad.same {K : PySem.W.Frag} {H H' : Hp} {v : V} (h : PartiesBad K H v) (e : Same H H') : PartiesBad K H' v := by
  rcases h with h | ⟨b, xs, e1, hS, h⟩ | ⟨b, xs, j, x, e1, hS, l1, l6, h1, h2, h3⟩ | ⟨b, ns, e1, hS, r⟩
  · exact .inl (h.same e)
  · exact .inr (.inl ⟨b, xs, e1, e.seq hS, h⟩)
  · exact .inr (.inr (.inl ⟨b, xs, j, x, e1, e.seq hS, l1, l6, h1, h2, h3.same e⟩))
  · exact .inr (.inr (.inr ⟨b, ns, e1, e.seq hS, r⟩))
section
variable {P : Program} {w : World} {K : PySem.W.Frag} {mg : Str → Option Value} {base : Heap}

/-! ### need_parties -/
theorem sc_need_parties : FnScope ["after", "many", "guest", "following"] ["after"] (defScope s_need_parties) := ⟨rfl, rfl, rfl, by decide +kernel, rfl, by decide +kernel, by decide +kernel⟩
def sp_need_partiesX (K : PySem.W.Frag) (C : Addr) : Sp := fun vs H Q E => ∃ v : V, vs = [v] ∧
  ((∃ (b : Addr) (ns : List Int), v = V.ref b ∧ SqL K H b (ns.map V.int) ∧ 1 ≤ ns.length ∧ ns.length ≤ 6 ∧ (∀ y ∈ ns, 0 ≤ y ∧ y < (ns.length : Int)) ∧ ns.Nodup ∧ ∀ H', Same H H' → Q .non H') ∨
   (PartiesBad K H v ∧ ∀ H', Same H H' → E (.ref C) none H'))
theorem ok_need_partiesX {C : Addr} {f : Addr} {fd : FuncData} (F : Fun K "need_parties" "need_parties" s_need_parties f fd) (T : Own mg) (M : ∃ t, mg "MOST_GUESTS" = some (.int 6 t)) (W : ErrC K mg "BadParties" C)
    (C1 : Cal P w K mg base 1 "is_guest" ["number", "many"] (sp_is_guestX K)) : FnOk P w K mg base (L2N.CX P w) 2 f fd ["after"] (sp_need_partiesX K C) := by
  obtain ⟨g1, gd1, G1, m1, k1, b1⟩ := C1
  obtain ⟨t, mM⟩ := M
  refine F.okN sc_need_parties (fun vs H Q E h => ?_) (fun cdv A outer s H vs Q E hr h => ?_)
  · obtain ⟨v, rfl, _⟩ := h
    rfl
  obtain ⟨v, rfl, q0⟩ := h
  refine ⟨_, pss_cons (ps_if (pt_not (pt_val (pe_callB call_isi (by rfl) T.isI (by decide +kernel) (pa_cons (pv 0) (pa_cons (pe_bltn (v := .ty "list") (by rfl) T.list (by decide +kernel) rfl) pa_nil)))))
      (pss_one (L2N.ps_raise rfl (L2N.takes_of rfl rfl rfl rfl) (L2N.pmk_own PySem.F.excBase_ValueError W.ex W.g W.k (raises_own W.b W.t) (by rfl)))) pss_nil)
    (pss_cons (ps_set (i := 1) sc_need_parties.nd rfl (Or.inl rfl) (pe_callB call_len_seq (by rfl) T.len PySem.boot_len (pa_cons (pv 0) pa_nil)))
    (pss_cons (ps_if (pt_not (pt_chain op_le op_le pe_int (pv 1) (pe_glob (v := .int 6) rfl mM ⟨_, rfl⟩)))
      (pss_one (L2N.ps_raise rfl (L2N.takes_of rfl rfl rfl rfl) (pmk_ownAN PySem.F.excBase_ValueError W.ex W.g W.k (raises_own W.b W.t) (by rfl)
        (pa_cons (pe_joined (.cons pe_str (.cons (pe_fmt (pe_glob (v := .int 6) rfl mM ⟨_, rfl⟩)) (.cons pe_str (.cons (pe_fmt (pv 1)) .nil))))) pa_nil)))) pss_nil)
    (pss_cons (ps_for (passes_of rfl) rfl (pi_enum (by rfl) T.enm (pa_cons (pv 0) pa_nil))
      (pg_tup (by rfl) (pgs_cons (pg_name (i := 2) sc_need_parties.nd rfl (Or.inl rfl)) (pgs_cons (pg_name (i := 3) sc_need_parties.nd rfl (Or.inl rfl)) pgs_nil)))
      (pss_one (ps_if (pt_not (pt_val (pe_call G1 hr (by rfl) m1 k1 b1 .nil pass0 (pa_cons (pv 3) (pa_cons (pv 1) pa_nil)))))
        (pss_one (L2N.ps_raise rfl (L2N.takes_of rfl rfl rfl rfl) (pmk_ownAN PySem.F.excBase_ValueError W.ex W.g W.k (raises_own W.b W.t) (by rfl) (pa_cons (pe_joined (.cons pe_str (.cons (pe_fmt (pv 2)) (.cons pe_str .nil)))) pa_nil)))) pss_nil)))
    (pss_one (ps_if (pt_cmpR op_lt (pe_setLen (by rfl) T.len (by rfl) T.set (pv 0)) (pv 1) (nomark _))
      (pss_one (L2N.ps_raise rfl (L2N.takes_of rfl rfl rfl rfl) (L2N.pmk_own PySem.F.excBase_ValueError W.ex W.g W.k (raises_own W.b W.t) (by rfl)))) pss_nil))))), ?_⟩
  have q : (∃ (b : Addr) (ns : List Int), v = V.ref b ∧ SqL K H b (ns.map V.int) ∧ 1 ≤ ns.length ∧ ns.length ≤ 6 ∧ (∀ y ∈ ns, 0 ≤ y ∧ y < (ns.length : Int)) ∧ ((ns.Nodup ∧ ∀ H', Same H H' → Q .non H') ∨ (¬ ns.Nodup ∧ ∀ H', Same H H' → E (.ref C) none H'))) ∨
      ((NotList K H v ∨ (∃ (b : Addr) (xs : List V), v = V.ref b ∧ SqL K H b xs ∧ (xs.length = 0 ∨ xs.length = 7)) ∨
        (∃ (b : Addr) (xs : List V) (j : Nat) (x : V), v = V.ref b ∧ SqL K H b xs ∧ 1 ≤ xs.length ∧ xs.length ≤ 6 ∧ xs[j]? = some x ∧ (∀ i, i < j → ∃ y : Int, xs[i]? = some (V.int y) ∧ 0 ≤ y ∧ y < (xs.length : Int)) ∧ GuestBad K H xs.length x)) ∧ ∀ H', Same H H' → E (.ref C) none H') := by
    rcases q0 with ⟨b, ns, e, hS, l1, l6, hv, hd, q⟩ | ⟨h | h | h | ⟨b, ns, e, hS, l1, l6, hv, hd⟩, q⟩
    · exact .inl ⟨b, ns, e, hS, l1, l6, hv, .inl ⟨hd, q⟩⟩
    · exact .inr ⟨.inl h, q⟩
    · exact .inr ⟨.inr (.inl h), q⟩
    · exact .inr ⟨.inr (.inr h), q⟩
    · exact .inl ⟨b, ns, e, hS, l1, l6, hv, .inr ⟨hd, q⟩⟩
  clear q0
  rcases q with ⟨b, ns, rfl, hS, l1, l6, hv, q⟩ | ⟨⟨t, ty, hk⟩ | ⟨b, xs, rfl, hS, hl⟩ | ⟨b, xs, j, x, rfl, hS, l1, l6, hj, hbef, hbad⟩, q⟩
  · have hl2 : (ns.map V.int).length = ns.length := List.length_map ..
    refine ⟨_, rfl, _, _, _, _, _, rfl, .ty _, ty_list hS, kit_ll, _, rfl, iteF ?_⟩
    refine ⟨_, rfl, b, _, rfl, .inl hS, ?_⟩
    rw [hl2]
    refine ⟨_, rfl, _, _, rfl, rfl, _, rfl, ?_⟩
    rw [decide_eq_true (show (1 : Int) ≤ ((ns.length : Nat) : Int) by omega)]
    refine iteT ⟨_, _, rfl, rfl, _, rfl, ?_⟩
    rw [decide_eq_true (show ((ns.length : Nat) : Int) ≤ 6 by omega)]
    refine iteF ?_
    refine ⟨_, rfl, b, _, rfl, hS, for_it walk_enum (fun i σ H' => Same H H' ∧ ∃ y z, σ = [some (.ref b), some (.int ns.length), y, z])
      ⟨Same.refl H, none, none, rfl⟩ (fun i σ H' _ h => h.1.seq hS) ?_ ?_⟩
    · rintro i x σ H' H2 hi' ⟨hs, y, z, rfl⟩ ⟨t, x1, x2, rfl, ht, rfl, ex1, ex2⟩
      cases ex1
      change (ns.map V.int)[i]? = some x2 at ex2
      obtain ⟨y2, hy2, rfl⟩ := map_int_get ex2
      have hrg := hv y2 (List.mem_of_getElem? hy2)
      have hs2 := hs.trans (same_new ht (.tup [V.int (i : Nat), V.int y2]))
      refine ⟨t, _, rfl, SqT.of upd_same, rfl, _, _, rfl, _, _, rfl, rfl, ?_⟩
      refine ⟨_, rfl, _, rfl, _, _, rfl, .inl ⟨y2, rfl, _, rfl, ?_⟩⟩
      rw [decide_eq_true hrg]
      exact iteF ⟨hs2, _, _, rfl⟩
    · rintro σ H' ⟨hs, y, z, rfl⟩
      refine ⟨_, rfl, b, ns, rfl, hs.seq hS, by omega, _, rfl, _, _, rfl, rfl, _, rfl, ?_⟩
      rcases q with ⟨hd, q⟩ | ⟨hd, q⟩
      · rw [met_same hd, decide_eq_false (show ¬ ((ns.length : Nat) : Int) < ((ns.length : Nat) : Int) by omega)]
        exact iteF (q H' hs)
      · have hlt := met_less hd
        rw [decide_eq_true (show (((metN ns).length : Nat) : Int) < ((ns.length : Nat) : Int) by omega)]
        exact iteT (q H' hs)
  · exact ⟨_, rfl, _, _, _, _, _, rfl, .ty _, ty, hk, _, rfl, iteT (q H (Same.refl H))⟩
  · refine ⟨_, rfl, _, _, _, _, _, rfl, .ty _, ty_list hS, kit_ll, _, rfl, iteF ?_⟩
    refine ⟨_, rfl, b, _, rfl, .inl hS, ?_⟩
    have txt : tJs [tC (.str ("there are from one to " : Str)), tFmt (tC (.int 6)), tC (.str (" guests, not " : Str)), tFmt (tVar 1)] Str.empty [some (V.ref b), some (.int (xs.length : Nat)), none, none] H (fun out H1 => ([V.str out] : List V).length ≤ sizeLine ∧ E (.ref C) none H1) :=
      js_small _ _ _ (fun t ht => by
        rcases List.mem_cons.mp ht with e | ht
        · rw [e]; exact sm_str (by decide +kernel)
        rcases List.mem_cons.mp ht with e | ht
        · rw [e]; exact sm_fmt (g := 6) (fun Q q => q) (by decide) (by decide)
        rcases List.mem_cons.mp ht with e | ht
        · rw [e]; exact sm_str (by decide +kernel)
        rw [List.mem_singleton] at ht
        rw [ht]
        exact sm_fmt (g := ((xs.length : Nat) : Int)) (fun Q q => ⟨_, rfl, q⟩) (by omega) (by omega)) (by rw [show Str.empty.length = 0 from rfl]; show 0 + 1000 * 4 ≤ 1000000; decide) fun out => ⟨(by show 1 ≤ sizeLine; decide), q H (Same.refl H)⟩
    refine ⟨_, rfl, _, _, rfl, rfl, _, rfl, ?_⟩
    rcases hl with hl | hl
    · rw [decide_eq_false (show ¬ (1 : Int) ≤ ((xs.length : Nat) : Int) by omega)]
      exact ⟨_, rfl, txt⟩
    · rw [decide_eq_true (show (1 : Int) ≤ ((xs.length : Nat) : Int) by omega)]
      refine iteT ⟨_, _, rfl, rfl, _, rfl, ?_⟩
      rw [decide_eq_false (show ¬ ((xs.length : Nat) : Int) ≤ 6 by omega)]
      exact txt
  · refine ⟨_, rfl, _, _, _, _, _, rfl, .ty _, ty_list hS, kit_ll, _, rfl, iteF ?_⟩
    refine ⟨_, rfl, b, _, rfl, .inl hS, ?_⟩
    refine ⟨_, rfl, _, _, rfl, rfl, _, rfl, ?_⟩
    rw [decide_eq_true (show (1 : Int) ≤ ((xs.length : Nat) : Int) by omega)]
    refine iteT ⟨_, _, rfl, rfl, _, rfl, ?_⟩
    rw [decide_eq_true (show ((xs.length : Nat) : Int) ≤ 6 by omega)]
    refine iteF ?_
    have hjl : j < xs.length := (List.getElem?_eq_some_iff.mp hj).1
    refine ⟨_, rfl, b, _, rfl, hS, for_it walk_enum (fun i σ H' => Same H H' ∧ i ≤ j ∧ ∃ y z, σ = [some (.ref b), some (.int xs.length), y, z])
      ⟨Same.refl H, Nat.zero_le _, none, none, rfl⟩ (fun i σ H' _ h => h.1.seq hS) ?_ ?_⟩
    · rintro i u σ H' H2 hi' ⟨hs, hij, y, z, rfl⟩ ⟨t, x1, x2, rfl, ht, rfl, ex1, ex2⟩
      cases ex1
      change xs[i]? = some x2 at ex2
      have hs2 := hs.trans (same_new ht (.tup [V.int (i : Nat), x2]))
      refine ⟨t, _, rfl, SqT.of upd_same, rfl, _, _, rfl, _, _, rfl, rfl, ?_⟩
      by_cases c : i = j
      · subst c
        rw [hj] at ex2
        cases ex2
        have txt : tJs [tC (.str ("the next one of guest " : Str)), tFmt (tVar 2), tC (.str (" is no guest" : Str))] Str.empty [some (V.ref b), some (.int (xs.length : Nat)), some (.int (i : Nat)), some x] (upd H' t (.tup [V.int (i : Nat), x])) (fun out H1 => ([V.str out] : List V).length ≤ sizeLine ∧ E (.ref C) none H1) :=
          js_small _ _ _ (fun t ht => by
            rcases List.mem_cons.mp ht with e | ht
            · rw [e]; exact sm_str (by decide +kernel)
            rcases List.mem_cons.mp ht with e | ht
            · rw [e]; exact sm_fmt (g := ((i : Nat) : Int)) (fun Q q => ⟨_, rfl, q⟩) (by omega) (by omega)
            rw [List.mem_singleton] at ht
            rw [ht]; exact sm_str (by decide +kernel)) (by rw [show Str.empty.length = 0 from rfl]; show 0 + 1000 * 3 ≤ 1000000; decide) fun out => ⟨(by show 1 ≤ sizeLine; decide), q _ hs2⟩
        rcases hbad with hN | ⟨m, rfl, hm⟩
        · exact ⟨_, rfl, _, rfl, _, _, rfl, .inr ⟨hN.same hs2, _, rfl, iteT txt⟩⟩
        · refine ⟨_, rfl, _, rfl, _, _, rfl, .inl ⟨m, rfl, _, rfl, ?_⟩⟩
          rw [decide_eq_false hm]
          exact iteT txt
      · obtain ⟨m, hm, m0, m1'⟩ := hbef i (by omega)
        rw [ex2] at hm
        cases hm
        refine ⟨_, rfl, _, rfl, _, _, rfl, .inl ⟨m, rfl, _, rfl, ?_⟩⟩
        rw [decide_eq_true (And.intro m0 m1')]
        exact iteF ⟨hs2, by omega, _, _, rfl⟩
    · rintro σ H' ⟨hs, hij, _⟩
      omega

/-! ### rings, holds, paired of such -/
theorem sc_rings : FnScope ["after"] ["after"] (defScope s_rings) := ⟨rfl, rfl, rfl, by decide +kernel, rfl, by decide +kernel, by decide +kernel⟩
def sp_partiesB (K : PySem.W.Frag) (C : Addr) : Sp := fun vs H _ E => ∃ v : V, vs = [v] ∧ PartiesBad K H v ∧ ∀ H', Same H H' → E (.ref C) none H'
theorem ok_ringsB {C : Addr} {f : Addr} {fd : FuncData} (F : Fun K "rings" "rings" s_rings f fd) (C1 : CalX P w K mg base 2 "need_parties" ["after"] (sp_need_partiesX K C)) : FnOk P w K mg base (L2N.CX P w) 3 f fd ["after"] (sp_partiesB K C) := by
  obtain ⟨g1, gd1, G1, m1, k1, b1⟩ := C1
  refine F.okN sc_rings (fun vs H Q E h => ?_) (fun cdv A outer s H vs Q E hr h => ?_)
  · obtain ⟨v, rfl, _⟩ := h
    rfl
  obtain ⟨v, rfl, hB, q⟩ := h
  exact ⟨_, pss_cons (ps_expr (pe_call G1 hr (by rfl) m1 k1 b1 .nil (L2N.passes_call (L2N.takes_of rfl rfl rfl rfl) fun _ _ _ _ h => h) (pa_cons (pv 0) pa_nil))) pss_no, _, rfl, v, rfl, .inr ⟨hB, q⟩⟩
theorem sc_holds : FnScope ["wishes", "after"] ["wishes", "after"] (defScope s_holds) := ⟨rfl, rfl, rfl, by decide +kernel, rfl, by decide +kernel, by decide +kernel⟩
def sp_holdsB (K : PySem.W.Frag) (C : Addr) : Sp := fun vs H _ E => ∃ (a : Addr) (v : V) (ws : List (List Int)), vs = [.ref a, v] ∧ Tab K H a ws ∧ Good ws ∧
  (PartiesBad K H v ∨ ∃ (b : Addr) (ns : List Int), v = V.ref b ∧ SqL K H b (ns.map V.int) ∧ 1 ≤ ns.length ∧ ns.length ≤ 6 ∧ (∀ y ∈ ns, 0 ≤ y ∧ y < (ns.length : Int)) ∧ ns.Nodup ∧ ns.length ≠ ws.length) ∧ ∀ H', Same H H' → E (.ref C) none H'
theorem ok_holdsB {C : Addr} {f : Addr} {fd : FuncData} (F : Fun K "holds" "holds" s_holds f fd) (T : Own mg) (W : ErrC K mg "BadParties" C) (C1 : Cal P w K mg base 3 "need_wishes" ["wishes"] (sp_need_wishes K))
    (C2 : CalX P w K mg base 2 "need_parties" ["after"] (sp_need_partiesX K C)) : FnOk P w K mg base (L2N.CX P w) 4 f fd ["wishes", "after"] (sp_holdsB K C) := by
  obtain ⟨g1, gd1, G1, m1, k1, b1⟩ := C1
  obtain ⟨g2, gd2, G2, m2, k2, b2⟩ := C2
  refine F.okN sc_holds (fun vs H Q E h => ?_) (fun cdv A outer s H vs Q E hr h => ?_)
  · obtain ⟨a, v, ws, rfl, _⟩ := h
    rfl
  obtain ⟨a, v, ws, rfl, hT, hG, hB, q⟩ := h
  refine ⟨_, pss_cons (ps_expr (pe_call G1 hr (by rfl) m1 k1 b1 .nil pass0 (pa_cons (pv 0) pa_nil)))
    (pss_cons (ps_expr (pe_call G2 (hr.mono (by decide)) (by rfl) m2 k2 b2 .nil (L2N.passes_call (L2N.takes_of rfl rfl rfl rfl) fun _ _ _ _ h => h) (pa_cons (pv 1) pa_nil)))
    (pss_cons (ps_if (pt_cmpR op_ne (pe_callB call_len_seq (by rfl) T.len PySem.boot_len (pa_cons (pv 1) pa_nil)) (pe_callB call_len_seq (by rfl) T.len PySem.boot_len (pa_cons (pv 0) pa_nil)) (nomark _))
      (pss_one (L2N.ps_raise rfl (L2N.takes_of rfl rfl rfl rfl) (pmk_ownAN PySem.F.excBase_ValueError W.ex W.g W.k (raises_own W.b W.t) (by rfl)
        (pa_cons (pe_joined (.cons pe_str (.cons (pe_fmt (pe_callB call_len_seq (by rfl) T.len PySem.boot_len (pa_cons (pv 0) pa_nil))) .nil))) pa_nil)))) pss_nil) pss_no)), ?_⟩
  obtain ⟨as, t1, t2, t3⟩ := id hT
  have lo := hG.lo
  have hi := hG.hi
  refine ⟨_, rfl, a, ws, rfl, hT, hG, fun H1 e1 => ?_⟩
  rcases hB with hB | ⟨b, ns, rfl, hS, l1, l6, hv, hd, hne⟩
  · exact ⟨_, rfl, v, rfl, .inr ⟨hB.same e1, fun H' e => q H' (e1.trans e)⟩⟩
  · refine ⟨_, rfl, _, rfl, .inl ⟨b, ns, rfl, e1.seq hS, l1, l6, hv, hd, fun H2 e2 => ?_⟩⟩
    have e12 := e1.trans e2
    refine ⟨_, rfl, b, _, rfl, .inl (e12.seq hS), _, rfl, a, _, rfl, .inl (e12.seq t1), rfl, _, rfl, ?_⟩
    have hne2 : V.int ((ns.map V.int).length : Nat) ≠ V.int ((as.map V.ref).length : Nat) := fun z => by
      have z2 := V.int.inj z
      rw [List.length_map, List.length_map] at z2
      omega
    rw [decide_eq_false hne2]
    refine iteT ?_
    exact js_small _ _ _ (fun t ht => by
      rcases List.mem_cons.mp ht with e | ht
      · rw [e]; exact sm_str (by decide +kernel)
      rw [List.mem_singleton] at ht
      rw [ht]; exact sm_fmt (g := ((as.map V.ref).length : Nat)) (fun Q q => ⟨_, rfl, a, _, rfl, .inl (e12.seq t1), q⟩) (by omega) (by rw [List.length_map]; omega)) (by rw [show Str.empty.length = 0 from rfl]; show 0 + 1000 * 2 ≤ 1000000; decide) fun out => ⟨(by show 1 ≤ sizeLine; decide), q H2 e12⟩
theorem sc_paired : FnScope ["after", "ahead", "found", "mates", "ring", "first", "turned", "place"] ["after", "ahead"] (defScope s_paired) := ⟨rfl, rfl, rfl, by decide +kernel, rfl, by decide +kernel, by decide +kernel⟩
def sp_pairedP (K : PySem.W.Frag) (C : Addr) : Sp := fun vs H _ E => ∃ v z : V, vs = [v, z] ∧ PartiesBad K H v ∧ ∀ H', Same H H' → E (.ref C) none H'
theorem ok_pairedP {C : Addr} {f : Addr} {fd : FuncData} (F : Fun K "paired" "paired" s_paired f fd) (C1 : CalX P w K mg base 3 "rings" ["after"] (sp_partiesB K C)) : FnOk P w K mg base (L2N.CX P w) 4 f fd ["after", "ahead"] (sp_pairedP K C) := by
  obtain ⟨g1, gd1, G1, m1, k1, b1⟩ := C1
  refine F.okN sc_paired (fun vs H Q E h => ?_) (fun cdv A outer s H vs Q E hr h => ?_)
  · obtain ⟨v, z, rfl, _⟩ := h
    rfl
  obtain ⟨v, z, rfl, hB, q⟩ := h
  exact ⟨_, pss_cons (ps_set (i := 2) sc_paired.nd rfl (Or.inl rfl) (pe_call G1 hr (by rfl) m1 k1 b1 .nil (L2N.passes_call (L2N.takes_of rfl rfl rfl rfl) fun _ _ _ _ h => h) (pa_cons (pv 0) pa_nil))) pss_no, _, rfl, v, rfl, hB, q⟩
end
end B2

namespace B2
open PySem L2
/-- the error of a kind of ask -/
def errK (cG cM cP cW : Addr) (k : Int) : Addr := if k = 0 then cG else if k = 1 then cM else if k = 2 then cP else cW
/-- parties that are some, of another number of guests -/
def OtherLen (K : PySem.W.Frag) (H : Hp) (ws : List (List Int)) (v : V) : Prop := ∃ (b : Addr) (ns : List Int), v = V.ref b ∧ SqL K H b (ns.map V.int) ∧ 1 ≤ ns.length ∧ ns.length ≤ 6 ∧ (∀ y ∈ ns, 0 ≤ y ∧ y < (ns.length : Int)) ∧ ns.Nodup ∧ ns.length ≠ ws.length
/-- an ask that is refused -/
def Ask (K : PySem.W.Frag) (H : Hp) (ws : List (List Int)) (k j : Int) (x : V) (g : Nat) : Prop :=
  (k = 0 ∧ GuestBad K H ws.length x ∧ (j % 6 = 3 ∨ j % 6 = 4 → x ≠ V.non)) ∨ (k = 1 ∧ MatesBad K H ws x) ∨ (k = 2 ∧ (PartiesBad K H x ∨ (j % 3 = 1 ∧ OtherLen K H ws x))) ∨ (k = 3 ∧ RowBad K H ws.length (g : Int) x)
section
variable {P : Program} {w : World} {K : PySem.W.Frag} {mg : Str → Option Value} {base : Heap}

/-! ### _law_guest_asked -/
theorem sc_lguest_asked : FnScope ["_law_which", "_law_wishes", "_law_inn", "_law_bad", "_law_good"] ["_law_which", "_law_wishes", "_law_inn", "_law_bad", "_law_good"] (defScope s_lguest_asked) := ⟨rfl, rfl, rfl, by decide +kernel, rfl, by decide +kernel, by decide +kernel⟩
def sp_lguest_asked (K : PySem.W.Frag) (C cG : Addr) : Sp := fun vs H _ E => ∃ (D : Addr → Prop) (a p t : Addr) (ws : List (List Int)) (mo : Option (List (Option Int))) (k : Int) (x : V) (g : Nat), vs = [.int k, .ref a, .ref p, x, .int g] ∧ Tab K H a ws ∧ Good ws ∧ InnAt C D H p t ws mo ∧
  g < ws.length ∧ GuestBad K H ws.length x ∧ (k = 3 ∨ k = 4 → x ≠ V.non) ∧ ∀ H', Same H H' → E (.ref cG) none H'
theorem ok_lguest_asked {C fS fT cG cW : Addr} {fdT : FuncData} {f : Addr} {fd : FuncData} (F : Fun K "_law_guest_asked" "_law_guest_asked" s_lguest_asked f fd) (X : TxtI K mg C fS) (mT : Meth K C "turn" fT) (bT : Binds K fdT ["self", "guest", "row"] [])
    (GT : FnOk P w K mg base (L2N.CX P w) 7 fT fdT ["self", "guest", "row"] (sp_inn_turn K C cG cW)) (C1 : CalX P w K mg base 4 "suits" ["wishes", "one", "other"] (sp_suitsG K cG)) (C2 : CalX P w K mg base 4 "rather" ["wishes", "guest", "one", "other"] (sp_ratherG K cG)) :
    FnOk P w K mg base (L2N.CX P w) 8 f fd ["_law_which", "_law_wishes", "_law_inn", "_law_bad", "_law_good"] (sp_lguest_asked K C cG) := by
  obtain ⟨g1, gd1, G1, m1, k1, b1⟩ := C1
  obtain ⟨g2, gd2, G2, m2, k2, b2⟩ := C2
  refine F.okN sc_lguest_asked (fun vs H Q E h => ?_) (fun cdv A outer s H vs Q E hr h => ?_)
  · obtain ⟨D, a, p, t, ws, mo, k, x, g, rfl, _⟩ := h
    rfl
  obtain ⟨D, a, p, t, ws, mo, k, x, g, rfl, hT, hG, hI, hg, hB, hn, q⟩ := h
  have hr4 : Room 4 _ := hr.mono (by decide)
  refine ⟨_, pss_cons (ps_if (pt_cmpR op_eq (pv 0) pe_int (nomark _)) (pss_one (ps_ret (pe_call G1 hr4 (by rfl) m1 k1 b1 .nil (L2N.passes_call (L2N.takes_of rfl rfl rfl rfl) fun _ _ _ _ h => h) (pa_cons (pv 1) (pa_cons (pv 3) (pa_cons (pv 4) pa_nil)))))) pss_nil)
    (pss_cons (ps_if (pt_cmpR op_eq (pv 0) pe_int (nomark _)) (pss_one (ps_ret (pe_call G1 hr4 (by rfl) m1 k1 b1 .nil (L2N.passes_call (L2N.takes_of rfl rfl rfl rfl) fun _ _ _ _ h => h) (pa_cons (pv 1) (pa_cons (pv 4) (pa_cons (pv 3) pa_nil)))))) pss_nil)
    (pss_cons (ps_if (pt_cmpR op_eq (pv 0) pe_int (nomark _)) (pss_one (ps_ret (pe_call G2 hr4 (by rfl) m2 k2 b2 .nil (L2N.passes_call (L2N.takes_of rfl rfl rfl rfl) fun _ _ _ _ h => h) (pa_cons (pv 1) (pa_cons (pv 3) (pa_cons (pv 4) (pa_cons (pv 4) pa_nil))))))) pss_nil)
    (pss_cons (ps_if (pt_cmpR op_eq (pv 0) pe_int (nomark _)) (pss_one (ps_ret (pe_call G2 hr4 (by rfl) m2 k2 b2 .nil (L2N.passes_call (L2N.takes_of rfl rfl rfl rfl) fun _ _ _ _ h => h) (pa_cons (pv 1) (pa_cons (pv 4) (pa_cons (pv 3) (pa_cons pe_non pa_nil))))))) pss_nil)
    (pss_cons (ps_if (pt_cmpR op_eq (pv 0) pe_int (nomark _)) (pss_one (ps_ret (pe_call G2 hr4 (by rfl) m2 k2 b2 .nil (L2N.passes_call (L2N.takes_of rfl rfl rfl rfl) fun _ _ _ _ h => h) (pa_cons (pv 1) (pa_cons (pv 4) (pa_cons pe_non (pa_cons (pv 3) pa_nil))))))) pss_nil)
    (pss_one (ps_ret (pe_meth (pv 2) X.cl mT GT hr bT .nil (L2N.passes_call (L2N.takes_of rfl rfl rfl rfl) fun _ _ _ _ h => h) (pa_cons (pv 3) (pa_cons pe_non pa_nil))))))))), ?_⟩
  have good : ∃ i : Int, V.int (g : Nat) = V.int i ∧ 0 ≤ i ∧ i < (ws.length : Int) := ⟨(g : Nat), rfl, by omega, by omega⟩
  have yes : ∀ c : Int, k = c → decide (V.int k = V.int c) = true := fun c e => decide_eq_true (by rw [e])
  have no : ∀ c : Int, k ≠ c → decide (V.int k = V.int c) = false := fun c e => decide_eq_false fun z => e (V.int.inj z)
  refine ⟨_, rfl, rfl, _, rfl, ?_⟩
  by_cases c0 : k = 0
  · exact ifT (yes 0 c0) ⟨_, rfl, _, rfl, _, rfl, a, ws, _, _, rfl, hT, hG, .inl hB, q⟩
  refine ifF (no 0 c0) ⟨_, rfl, rfl, _, rfl, ?_⟩
  by_cases c1 : k = 1
  · exact ifT (yes 1 c1) ⟨_, rfl, _, rfl, _, rfl, a, ws, _, _, rfl, hT, hG, .inr ⟨good, hB⟩, q⟩
  refine ifF (no 1 c1) ⟨_, rfl, rfl, _, rfl, ?_⟩
  by_cases c2 : k = 2
  · exact ifT (yes 2 c2) ⟨_, rfl, _, rfl, _, rfl, _, rfl, a, ws, _, _, _, rfl, hT, hG, .inl hB, q⟩
  refine ifF (no 2 c2) ⟨_, rfl, rfl, _, rfl, ?_⟩
  by_cases c3 : k = 3
  · exact ifT (yes 3 c3) ⟨_, rfl, _, rfl, _, rfl, a, ws, _, _, _, rfl, hT, hG, .inr ⟨good, .inl ⟨hB, hn (.inl c3)⟩⟩, q⟩
  refine ifF (no 3 c3) ⟨_, rfl, rfl, _, rfl, ?_⟩
  by_cases c4 : k = 4
  · exact ifT (yes 4 c4) ⟨_, rfl, _, rfl, _, rfl, a, ws, _, _, _, rfl, hT, hG, .inr ⟨good, .inr ⟨rfl, hB, hn (.inr c4)⟩⟩, q⟩
  refine ifF (no 4 c4) ?_
  obtain ⟨⟨dx, mv, h1, hm⟩, _⟩ := id hI
  have noT : (inf t mv).lookup ("turn" : Str) = none := inf_no _ _ (by decide +kernel) (by decide +kernel)
  exact ⟨_, rfl, p, dx, _, rfl, h1, noT, _, rfl, D, p, t, ws, mo, _, _, rfl, hI, hG, .inr (.inl ⟨hB, q⟩)⟩

/-! ### _law_asked -/
theorem sc_lasked : FnScope ["_law_kind", "_law_which", "_law_wishes", "_law_inn", "_law_bad", "_law_good"] ["_law_kind", "_law_which", "_law_wishes", "_law_inn", "_law_bad", "_law_good"] (defScope s_lasked) := ⟨rfl, rfl, rfl, by decide +kernel, rfl, by decide +kernel, by decide +kernel⟩
def sp_lasked (K : PySem.W.Frag) (C cG cM cP cW : Addr) : Sp := fun vs H _ E => ∃ (D : Addr → Prop) (a p t : Addr) (ws : List (List Int)) (mo : Option (List (Option Int))) (k j : Int) (x : V) (g : Nat), vs = [.int k, .int j, .ref a, .ref p, x, .int g] ∧ Tab K H a ws ∧ Good ws ∧ InnAt C D H p t ws mo ∧
  g < ws.length ∧ Ask K H ws k j x g ∧ ∀ H', Same H H' → E (.ref (errK cG cM cP cW k)) none H'
theorem ok_lasked {C fS fT cG cM cP cW : Addr} {fdT : FuncData} {f : Addr} {fd : FuncData} (F : Fun K "_law_asked" "_law_asked" s_lasked f fd) (X : TxtI K mg C fS) (mT : Meth K C "turn" fT) (bT : Binds K fdT ["self", "guest", "row"] [])
    (GT : FnOk P w K mg base (L2N.CX P w) 7 fT fdT ["self", "guest", "row"] (sp_inn_turn K C cG cW)) (C1 : CalX P w K mg base 8 "_law_guest_asked" ["_law_which", "_law_wishes", "_law_inn", "_law_bad", "_law_good"] (sp_lguest_asked K C cG))
    (C2 : CalX P w K mg base 4 "restless" ["wishes", "mates"] (sp_need_matesB K cM)) (C3 : CalX P w K mg base 5 "calm" ["wishes", "mates"] (sp_need_matesB K cM)) (C4 : CalX P w K mg base 3 "rings" ["after"] (sp_partiesB K cP))
    (C5 : CalX P w K mg base 4 "holds" ["wishes", "after"] (sp_holdsB K cP)) (C6 : CalX P w K mg base 4 "paired" ["after", "ahead"] (sp_pairedP K cP)) :
    FnOk P w K mg base (L2N.CX P w) 9 f fd ["_law_kind", "_law_which", "_law_wishes", "_law_inn", "_law_bad", "_law_good"] (sp_lasked K C cG cM cP cW) := by
  obtain ⟨g1, gd1, G1, m1, k1, b1⟩ := C1
  obtain ⟨g2, gd2, G2, m2, k2, b2⟩ := C2
  obtain ⟨g3, gd3, G3, m3, k3, b3⟩ := C3
  obtain ⟨g4, gd4, G4, m4, k4, b4⟩ := C4
  obtain ⟨g5, gd5, G5, m5, k5, b5⟩ := C5
  obtain ⟨g6, gd6, G6, m6, k6, b6⟩ := C6
  refine F.okN sc_lasked (fun vs H Q E h => ?_) (fun cdv A outer s H vs Q E hr h => ?_)
  · obtain ⟨D, a, p, t, ws, mo, k, j, x, g, rfl, _⟩ := h
    rfl
  obtain ⟨D, a, p, t, ws, mo, k, j, x, g, rfl, hT, hG, hI, hg, hA, q⟩ := h
  refine ⟨_, pss_cons (ps_if (pt_cmpR op_eq (pv 0) pe_int (nomark _)) (pss_one (ps_ret (pe_call G1 hr (by rfl) m1 k1 b1 .nil (L2N.passes_call (L2N.takes_of rfl rfl rfl rfl) fun _ _ _ _ h => h) (pa_cons (pe_op op_mod (pv 1) pe_int) (pa_cons (pv 2) (pa_cons (pv 3) (pa_cons (pv 4) (pa_cons (pv 5) pa_nil)))))))) pss_nil)
    (pss_cons (ps_if (PW.pt (pw_and (pt_cmpR op_eq (pv 0) pe_int (nomark _)) (pw_and1 (pt_cmpR op_eq (pe_op op_mod (pv 1) pe_int) pe_int (nomark _)))))
      (pss_one (ps_ret (pe_call G2 (hr.mono (by decide)) (by rfl) m2 k2 b2 .nil (L2N.passes_call (L2N.takes_of rfl rfl rfl rfl) fun _ _ _ _ h => h) (pa_cons (pv 2) (pa_cons (pv 4) pa_nil))))) pss_nil)
    (pss_cons (ps_if (pt_cmpR op_eq (pv 0) pe_int (nomark _)) (pss_one (ps_ret (pe_call G3 (hr.mono (by decide)) (by rfl) m3 k3 b3 .nil (L2N.passes_call (L2N.takes_of rfl rfl rfl rfl) fun _ _ _ _ h => h) (pa_cons (pv 2) (pa_cons (pv 4) pa_nil))))) pss_nil)
    (pss_cons (ps_if (PW.pt (pw_and (pt_cmpR op_eq (pv 0) pe_int (nomark _)) (pw_and1 (pt_cmpR op_eq (pe_op op_mod (pv 1) pe_int) pe_int (nomark _)))))
      (pss_one (ps_ret (pe_call G4 (hr.mono (by decide)) (by rfl) m4 k4 b4 .nil (L2N.passes_call (L2N.takes_of rfl rfl rfl rfl) fun _ _ _ _ h => h) (pa_cons (pv 4) pa_nil)))) pss_nil)
    (pss_cons (ps_if (PW.pt (pw_and (pt_cmpR op_eq (pv 0) pe_int (nomark _)) (pw_and1 (pt_cmpR op_eq (pe_op op_mod (pv 1) pe_int) pe_int (nomark _)))))
      (pss_one (ps_ret (pe_call G5 (hr.mono (by decide)) (by rfl) m5 k5 b5 .nil (L2N.passes_call (L2N.takes_of rfl rfl rfl rfl) fun _ _ _ _ h => h) (pa_cons (pv 2) (pa_cons (pv 4) pa_nil))))) pss_nil)
    (pss_cons (ps_if (pt_cmpR op_eq (pv 0) pe_int (nomark _)) (pss_one (ps_ret (pe_call G6 (hr.mono (by decide)) (by rfl) m6 k6 b6 .nil (L2N.passes_call (L2N.takes_of rfl rfl rfl rfl) fun _ _ _ _ h => h) (pa_cons (pv 4) (pa_cons (pe_cmpR op_eq (pe_op op_mod (pv 1) pe_int) pe_int (nomark _)) pa_nil))))) pss_nil)
    (pss_one (ps_ret (pe_meth (pv 3) X.cl mT GT (hr.mono (by decide)) bT .nil (L2N.passes_call (L2N.takes_of rfl rfl rfl rfl) fun _ _ _ _ h => h) (pa_cons (pv 5) (pa_cons (pv 4) pa_nil)))))))))), ?_⟩
  refine ⟨_, rfl, rfl, _, rfl, ?_⟩
  rcases hA with ⟨rfl, hB, hn⟩ | ⟨rfl, hB⟩ | ⟨rfl, hB⟩ | ⟨rfl, hB⟩
  · refine ifT (decide_eq_true rfl) ?_
    exact ⟨_, rfl, _, _, rfl, rfl, (by show (0 : Int) < 6; decide), _, rfl, _, rfl, _, rfl, _, rfl, D, a, p, t, ws, mo, _, x, g, rfl, hT, hG, hI, hg, hB, hn, q⟩
  · refine ifF (decide_eq_false (by decide)) ⟨_, rfl, rfl, _, rfl, ?_⟩
    refine ifT (decide_eq_true rfl) ⟨_, rfl, _, _, rfl, rfl, (by show (0 : Int) < 2; decide), rfl, _, rfl, ?_⟩
    refine ite2 (fun c => ?_) (fun c => ?_)
    · exact ⟨_, rfl, _, rfl, a, x, ws, rfl, hT, hG, hB, q⟩
    · refine ⟨_, rfl, rfl, _, rfl, ifT (decide_eq_true rfl) ?_⟩
      exact ⟨_, rfl, _, rfl, a, x, ws, rfl, hT, hG, hB, q⟩
  · refine ifF (decide_eq_false (by decide)) ⟨_, rfl, rfl, _, rfl, ?_⟩
    refine ifF (decide_eq_false (by decide)) ⟨_, rfl, rfl, _, rfl, ifF (decide_eq_false (by decide)) ⟨_, rfl, rfl, _, rfl, ?_⟩⟩
    refine ifT (decide_eq_true rfl) ⟨_, rfl, _, _, rfl, rfl, (by show (0 : Int) < 3; decide), rfl, _, rfl, ?_⟩
    refine ite2 (fun c => ?_) (fun c => ?_)
    · rcases hB with hB | ⟨hj, _⟩
      · exact ⟨_, rfl, x, rfl, hB, q⟩
      · have c := V.int.inj (of_decide_eq_true c)
        omega
    · refine ⟨_, rfl, rfl, _, rfl, ifT (decide_eq_true rfl) ⟨_, rfl, _, _, rfl, rfl, (by show (0 : Int) < 3; decide), rfl, _, rfl, ?_⟩⟩
      refine ite2 (fun c2 => ?_) (fun c2 => ?_)
      · refine ⟨_, rfl, _, rfl, a, x, ws, rfl, hT, hG, ?_, q⟩
        rcases hB with hB | ⟨_, hB⟩
        · exact .inl hB
        · exact .inr hB
      · refine ⟨_, rfl, rfl, _, rfl, ifT (decide_eq_true rfl) ?_⟩
        rcases hB with hB | ⟨hj, _⟩
        · exact ⟨_, rfl, _, rfl, _, _, rfl, rfl, (by show (0 : Int) < 2; decide), rfl, x, _, rfl, hB, q⟩
        · exact absurd (decide_eq_true (show V.int (j % 3) = V.int 1 by rw [hj])) c2
  · refine ifF (decide_eq_false (by decide)) ⟨_, rfl, rfl, _, rfl, ?_⟩
    refine ifF (decide_eq_false (by decide)) ⟨_, rfl, rfl, _, rfl, ifF (decide_eq_false (by decide)) ⟨_, rfl, rfl, _, rfl, ?_⟩⟩
    refine ifF (decide_eq_false (by decide)) ⟨_, rfl, rfl, _, rfl, ifF (decide_eq_false (by decide)) ⟨_, rfl, rfl, _, rfl, ifF (decide_eq_false (by decide)) ?_⟩⟩
    obtain ⟨⟨dx, mv, h1, hm⟩, _⟩ := id hI
    have noT : (inf t mv).lookup ("turn" : Str) = none := inf_no _ _ (by decide +kernel) (by decide +kernel)
    exact ⟨_, rfl, p, dx, _, rfl, h1, noT, _, rfl, _, rfl, D, p, t, ws, mo, _, _, rfl, hI, hG, .inr (.inr ⟨g, rfl, hg, hB, q⟩)⟩
end
end B2

namespace B2
open PySem L2
/-- the four errors, as except and isinstance know them -/
structure Er4 (K : PySem.W.Frag) (mg : Str → Option Value) (cG cM cP cW cB cN : Addr) : Prop where
  gG : mg "BadGuest" = some (.ref cG)
  gM : mg "BadMates" = some (.ref cM)
  gP : mg "BadParties" = some (.ref cP)
  gW : mg "BadWishes" = some (.ref cW)
  gB : mg "BedError" = some (.ref cB)
  gN : mg "NoNote" = some (.ref cN)
  gV : mg "ValueError" = none
  ex : ∀ k : Int, 0 ≤ k → k ≤ 3 → PySem.W.exmOne K (.ref (errK cG cM cP cW k)) (.ref cG) = some (decide (k = 0)) ∧ PySem.W.exmOne K (.ref (errK cG cM cP cW k)) (.ref cM) = some (decide (k = 1)) ∧
    PySem.W.exmOne K (.ref (errK cG cM cP cW k)) (.ref cP) = some (decide (k = 2)) ∧ PySem.W.exmOne K (.ref (errK cG cM cP cW k)) (.ref cW) = some (decide (k = 3)) ∧ PySem.W.exmOne K (.ref (errK cG cM cP cW k)) (.ref cB) = some true
  ki : ∀ k : Int, 0 ≤ k → k ≤ 3 → PySem.W.kitOne K (.ref (errK cG cM cP cW k)) (.ref cG) = some (decide (k = 0)) ∧ PySem.W.kitOne K (.ref (errK cG cM cP cW k)) (.ref cM) = some (decide (k = 1)) ∧
    PySem.W.kitOne K (.ref (errK cG cM cP cW k)) (.ref cP) = some (decide (k = 2)) ∧ PySem.W.kitOne K (.ref (errK cG cM cP cW k)) (.ref cW) = some (decide (k = 3)) ∧ PySem.W.kitOne K (.ref (errK cG cM cP cW k)) (.ref cN) = some false ∧
    PySem.W.kitOne K (.ref (errK cG cM cP cW k)) (.type "ValueError") = some true
  xc : ∀ k : Int, 0 ≤ k → k ≤ 3 → ExcC K (errK cG cM cP cW k)
section
variable {P : Program} {w : World} {K : PySem.W.Frag} {mg : Str → Option Value} {base : Heap}

/-! ### _law_told -/
theorem sc_ltold : FnScope ["_law_kind", "_law_which", "_law_wishes", "_law_inn", "_law_bad", "_law_good"] ["_law_kind", "_law_which", "_law_wishes", "_law_inn", "_law_bad", "_law_good"] (defScope s_ltold) := ⟨rfl, rfl, rfl, by decide +kernel, rfl, by decide +kernel, by decide +kernel⟩
def sp_ltold (K : PySem.W.Frag) (C : Addr) : Sp := fun vs H Q _ => ∃ (D : Addr → Prop) (a p t : Addr) (ws : List (List Int)) (mo : Option (List (Option Int))) (k j : Int) (x : V) (g : Nat), vs = [.int k, .int j, .ref a, .ref p, x, .int g] ∧ Tab K H a ws ∧ Good ws ∧ InnAt C D H p t ws mo ∧
  g < ws.length ∧ Ask K H ws k j x g ∧ ∀ H', Same H H' → Q (.int k) H'
theorem Ask.kind {H : Hp} {ws : List (List Int)} {k j : Int} {x : V} {g : Nat} (h : Ask K H ws k j x g) : 0 ≤ k ∧ k ≤ 3 := by
  rcases h with ⟨rfl, _⟩ | ⟨rfl, _⟩ | ⟨rfl, _⟩ | ⟨rfl, _⟩ <;> decide
theorem ok_ltold {C cG cM cP cW cB cN : Addr} {f : Addr} {fd : FuncData} (F : Fun K "_law_told" "_law_told" s_ltold f fd) (Er : Er4 K mg cG cM cP cW cB cN)
    (C1 : CalX P w K mg base 9 "_law_asked" ["_law_kind", "_law_which", "_law_wishes", "_law_inn", "_law_bad", "_law_good"] (sp_lasked K C cG cM cP cW)) :
    FnOk P w K mg base CX0 10 f fd ["_law_kind", "_law_which", "_law_wishes", "_law_inn", "_law_bad", "_law_good"] (sp_ltold K C) := by
  obtain ⟨g1, gd1, G1, m1, k1, b1⟩ := C1
  refine F.ok sc_ltold (fun vs H Q E h => ?_) (fun cdv A outer s H vs Q E hr h => ?_)
  · obtain ⟨D, a, p, t, ws, mo, k, j, x, g, rfl, _⟩ := h
    rfl
  obtain ⟨D, a, p, t, ws, mo, k, j, x, g, rfl, hT, hG, hI, hg, hA, q⟩ := h
  obtain ⟨k0, k3⟩ := Ask.kind hA
  refine ⟨_, pss_cons (L2N.ps_try_many rfl rfl takesN0
      (fun W pn xe tk _ => pss_one (ps_expr (pe_callS G1 hr (by rfl) m1 k1 b1 (fun σ => L2N.passAt tk σ) (pa_cons (pv 0) (pa_cons (pv 1) (pa_cons (pv 2) (pa_cons (pv 3) (pa_cons (pv 4) (pa_cons (pv 5) pa_nil)))))))))
      (.cons ⟨rfl, by decide, .inl Er.gG⟩ (fun a oe cls d pn _ _ => pss_one (ps_ret pe_int))
      (.cons ⟨rfl, by decide, .inl Er.gM⟩ (fun a oe cls d pn _ _ => pss_one (ps_ret pe_int))
      (.cons ⟨rfl, by decide, .inl Er.gP⟩ (fun a oe cls d pn _ _ => pss_one (ps_ret pe_int))
      (.cons ⟨rfl, by decide, .inl Er.gW⟩ (fun a oe cls d pn _ _ => pss_one (ps_ret pe_int)) .nil)))))
    (pss_one (ps_ret pe_int)), ?_⟩
  refine ⟨_, rfl, _, rfl, _, rfl, _, rfl, _, rfl, _, rfl, D, a, p, t, ws, mo, k, j, x, g, rfl, hT, hG, hI, hg, hA, fun H' e => ?_⟩
  obtain ⟨e0, e1, e2, e3, _⟩ := Er.ex k k0 k3
  refine ⟨_, e0, fun z _ _ => ?_, fun z => ⟨_, e1, fun z _ _ => ?_, fun z => ⟨_, e2, fun z _ _ => ?_, fun z => ⟨_, e3, fun z _ _ => ?_, fun z => ?_⟩⟩⟩⟩
  · have z := of_decide_eq_true z
    subst z
    exact q H' e
  · have z := of_decide_eq_true z
    subst z
    exact q H' e
  · have z := of_decide_eq_true z
    subst z
    exact q H' e
  · have z := of_decide_eq_true z
    subst z
    exact q H' e
  · rename_i z0 z1 z2
    have z0 := of_decide_eq_false z0
    have z1 := of_decide_eq_false z1
    have z2 := of_decide_eq_false z2
    have z := of_decide_eq_false z
    omega

/-! ### _law_based -/
abbrev based3N : List Str := ["_law_kind", "_law_which", "_law_wishes", "_law_inn", "_law_bad", "_law_good", "error", "_law_some", "_law_place"]
theorem sc_lbased : FnScope ["_law_kind", "_law_which", "_law_wishes", "_law_inn", "_law_bad", "_law_good", "error", "_law_some", "_law_place"] ["_law_kind", "_law_which", "_law_wishes", "_law_inn", "_law_bad", "_law_good"] (defScope s_lbased) := ⟨rfl, rfl, rfl, by decide +kernel, rfl, by decide +kernel, by decide +kernel⟩
def sp_lbased (K : PySem.W.Frag) (C : Addr) : Sp := fun vs H Q _ => ∃ (D : Addr → Prop) (a p t : Addr) (ws : List (List Int)) (mo : Option (List (Option Int))) (k j : Int) (x : V) (g : Nat), vs = [.int k, .int j, .ref a, .ref p, x, .int g] ∧ Tab K H a ws ∧ Good ws ∧ InnAt C D H p t ws mo ∧
  g < ws.length ∧ Ask K H ws k j x g ∧ ∀ H', Same H H' → Q (.bl true) H'
theorem ok_lbased {C cG cM cP cW cB cN : Addr} {f : Addr} {fd : FuncData} (F : Fun K "_law_based" "_law_based" s_lbased f fd) (T : Own mg) (Er : Er4 K mg cG cM cP cW cB cN)
    (C1 : CalX P w K mg base 9 "_law_asked" ["_law_kind", "_law_which", "_law_wishes", "_law_inn", "_law_bad", "_law_good"] (sp_lasked K C cG cM cP cW)) :
    FnOk P w K mg base CX0 10 f fd ["_law_kind", "_law_which", "_law_wishes", "_law_inn", "_law_bad", "_law_good"] (sp_lbased K C) := by
  obtain ⟨g1, gd1, G1, m1, k1, b1⟩ := C1
  refine F.ok sc_lbased (fun vs H Q E h => ?_) (fun cdv A outer s H vs Q E hr h => ?_)
  · obtain ⟨D, a, p, t, ws, mo, k, j, x, g, rfl, _⟩ := h
    rfl
  obtain ⟨D, a, p, t, ws, mo, k, j, x, g, rfl, hT, hG, hI, hg, hA, q⟩ := h
  obtain ⟨k0, k3⟩ := Ask.kind hA
  have hu := hr.units
  refine ⟨_, pss_cons (L2N.ps_try_as (i := 6) rfl rfl sc_lbased.nd rfl rfl ⟨rfl, by decide, .inl Er.gB⟩ takesN0
      (fun W pn xe tk _ => pss_one (ps_expr (pe_callS G1 hr (by rfl) m1 k1 b1 (fun σ => L2N.passAt tk σ) (pa_cons (pv 0) (pa_cons (pv 1) (pa_cons (pv 2) (pa_cons (pv 3) (pa_cons (pv 4) (pa_cons (pv 5) pa_nil)))))))))
      (fun a oe cls d pn hz hf => pss_cons (ps_set (i := 7) sc_lbased.nd rfl (Or.inl rfl) (pe_lst (pa_cons (pe_callB (call_isEG (K := K) rfl hz.zc hf) (by rfl) T.isI (by decide +kernel) (pa_cons (pv 6) (pa_cons (pe_glob (v := .ref cG) rfl Er.gG rfl) pa_nil)))
          (pa_cons (pe_callB (call_isEG (K := K) rfl hz.zc hf) (by rfl) T.isI (by decide +kernel) (pa_cons (pv 6) (pa_cons (pe_glob (v := .ref cM) rfl Er.gM rfl) pa_nil)))
          (pa_cons (pe_callB (call_isEG (K := K) rfl hz.zc hf) (by rfl) T.isI (by decide +kernel) (pa_cons (pv 6) (pa_cons (pe_glob (v := .ref cP) rfl Er.gP rfl) pa_nil))) pa_nil)))))
        (pss_cons (ps_set (i := 7) sc_lbased.nd rfl (Or.inl rfl) (pe_op op_cat (pv 7) (pe_lst (pa_cons (pe_callB (call_isEG (K := K) rfl hz.zc hf) (by rfl) T.isI (by decide +kernel) (pa_cons (pv 6) (pa_cons (pe_glob (v := .ref cW) rfl Er.gW rfl) pa_nil)))
          (pa_cons (pe_callB (call_isEG (K := K) rfl hz.zc hf) (by rfl) T.isI (by decide +kernel) (pa_cons (pv 6) (pa_cons (pe_glob (v := .ref cN) rfl Er.gN rfl) pa_nil))) pa_nil)))))
        (pss_one (ps_ret (pe_and (pe_callB (call_isEG (K := K) rfl hz.zc hf) (by rfl) T.isI (by decide +kernel) (pa_cons (pv 6) (pa_cons (pe_bltn (v := .ty "ValueError") (by rfl) Er.gV (by decide +kernel) rfl) pa_nil)))
          (pe_one (pe_cmpR (eq_dat (K := K) rfl hu) (pv 7) (pe_lcH (own := [("_law_place", 8)]) (g := gName 8) (tt := tYes) (hot_suite hz hf) sc_lbased.nd (L2H.pi_range1H rfl T.rng (pa_cons pe_int pa_nil))
            (blkOk_by (N := based3N) (sc := defScope s_lbased) (by decide +kernel))
            (fun _ _ _ _ _ _ => pg_name (i := 8) sc_lbased.nd rfl (Or.inl rfl)) (fun _ _ _ _ _ _ => pts_nil) (fun _ _ _ _ _ _ => pe_cmpR op_eq (pv 8) (pv 0) (nomark _))) (nomark _)))))))))
    (pss_one (ps_ret pe_bl)), ?_⟩
  refine ⟨_, rfl, _, rfl, _, rfl, _, rfl, _, rfl, _, rfl, D, a, p, t, ws, mo, k, j, x, g, rfl, hT, hG, hI, hg, hA, fun H' e => ?_⟩
  obtain ⟨_, _, _, _, eB⟩ := Er.ex k k0 k3
  obtain ⟨i0, i1, i2, i3, iN, iV⟩ := Er.ki k k0 k3
  have xc := Er.xc k k0 k3
  refine ⟨true, eB, fun _ u hu => ?_, fun z => nomatch z⟩
  have one : ∀ {c : Addr} {b : Bool} {H1 : Hp} {Q1 : VK}, PySem.W.kitOne K (.ref (errK cG cM cP cW k)) (.ref c) = some b → Q1 (.bl b) H1 → rIsEG K (.ref (errK cG cM cP cW k)) none u [.ref u, .ref c] H1 Q1 := fun {c b H1 Q1} h q1 => ⟨_, rfl, rfl, xc, _, _, b, rfl, fun u r => r, h, q1⟩
  refine ⟨_, rfl, one i0 ⟨_, rfl, one i1 ⟨_, rfl, one i2 ⟨(by show 3 ≤ sizeLine; decide), fun l hl => ?_⟩⟩⟩⟩
  have e1 := e.trans (same_new hl (.lst [.bl (decide (k = 0)), .bl (decide (k = 1)), .bl (decide (k = 2))]))
  refine ⟨_, rfl, ?_⟩
  refine ⟨_, rfl, one i3 ⟨_, rfl, one iN ⟨(by show 2 ≤ sizeLine; decide), fun l2 hl2 => ?_⟩⟩⟩
  have at1 : upd H' l (.lst [.bl (decide (k = 0)), .bl (decide (k = 1)), .bl (decide (k = 2))]) l = some (.lst [.bl (decide (k = 0)), .bl (decide (k = 1)), .bl (decide (k = 2))]) := upd_same
  generalize upd H' l (.lst [.bl (decide (k = 0)), .bl (decide (k = 1)), .bl (decide (k = 2))]) = H1 at e1 at1 hl2 ⊢
  have e2 := e1.trans (same_new hl2 (.lst [.bl (decide (k = 3)), .bl false]))
  have at2 := same_new hl2 (.lst [.bl (decide (k = 3)), .bl false]) _ _ at1
  refine ⟨l, l2, _, _, rfl, rfl, at2, upd_same, (by show 5 ≤ sizeLine; decide), fun l3 hl3 => ?_⟩
  generalize upd H1 l2 (.lst [.bl (decide (k = 3)), .bl false]) = H2 at e2 hl3 ⊢
  have e3 := e2.trans (same_new hl3 (.lst ([.bl (decide (k = 0)), .bl (decide (k = 1)), .bl (decide (k = 2))] ++ [.bl (decide (k = 3)), .bl false])))
  have at3 : upd H2 l3 (.lst ([.bl (decide (k = 0)), .bl (decide (k = 1)), .bl (decide (k = 2))] ++ [.bl (decide (k = 3)), .bl false])) l3 = some (.lst ([.bl (decide (k = 0)), .bl (decide (k = 1)), .bl (decide (k = 2))] ++ [.bl (decide (k = 3)), .bl false])) := upd_same
  generalize upd H2 l3 (.lst ([.bl (decide (k = 0)), .bl (decide (k = 1)), .bl (decide (k = 2))] ++ [.bl (decide (k = 3)), .bl false])) = H3 at e3 at3 ⊢
  refine ⟨_, rfl, _, rfl, rfl, xc, _, _, true, rfl, fun u r => r, iV, ?_⟩
  refine ⟨_, rfl, iteT ?_⟩
  refine ⟨_, rfl, (5 : Int), rfl, by decide, by decide, fun L hL => ?_⟩
  refine lc_range (lo := 0) (n := (5 : Int).toNat) (fun i H4 => Same H3 H4 ∧ H4 L = some (.lst ((List.range i).map fun (y : Nat) => V.bl (decide (V.int (y : Int) = V.int k))))) ⟨same_new hL _, upd_same⟩ ?_ ?_
  · rintro i H4 hi ⟨e4, at4⟩
    have ei : (0 : Int) + (i : Int) = (i : Int) := Int.zero_add _
    rw [ei]
    refine ⟨rfl, _, rfl, _, rfl, rfl, _, at4, ?_, same_put e4 hL _, ?_⟩
    · rw [List.length_map, List.length_range]
      exact small1000 (by have : i < 5 := hi; omega)
    · rw [upd_same, List.range_succ, List.map_append]
      rfl
  · rintro H4 ⟨e4, at4⟩
    refine ⟨dL [.bl (decide (k = 0)), .bl (decide (k = 1)), .bl (decide (k = 2)), .bl (decide (k = 3)), .bl false], dL _, .lst (SqL.of (e4 _ _ at3)) (dpAll_plain _ fun v hv => ?_), .lst (SqL.of at4) (dpAll_plain _ fun v hv => ?_), dL_shaped _, dL_shaped _, ?_⟩
    · simp only [List.cons_append, List.nil_append, List.mem_cons, List.not_mem_nil, or_false] at hv
      rcases hv with h | h | h | h | h <;> (subst h; rfl)
    · obtain ⟨y, _, rfl⟩ := List.mem_map.mp hv
      rfl
    · have same : ([.bl (decide (k = 0)), .bl (decide (k = 1)), .bl (decide (k = 2)), .bl (decide (k = 3)), .bl false] : List V) = (List.range (5 : Int).toNat).map fun (y : Nat) => V.bl (decide (V.int (y : Int) = V.int k)) := by
        have : k = 0 ∨ k = 1 ∨ k = 2 ∨ k = 3 := by omega
        rcases this with h | h | h | h <;> (subst h; decide +kernel)
      rw [same, dL_refl]
      exact q _ (e3.trans e4)
end
end B2

namespace B2
open PySem L2
section
variable {P : Program} {w : World} {K : PySem.W.Frag} {mg : Str → Option Value} {base : Heap}

/-! ### _law_bad_row -/
theorem sc_lbad_row : FnScope ["_law_many", "_law_guest", "_law_way"] ["_law_many", "_law_guest", "_law_way"] (defScope s_lbad_row) := ⟨rfl, rfl, rfl, by decide +kernel, rfl, by decide +kernel, by decide +kernel⟩
def sp_lbad_row (K : PySem.W.Frag) : Sp := fun vs H Q _ => ∃ (n g : Nat) (k : Int), vs = [.int n, .int g, .int k] ∧ g < n ∧ ∀ (v : V) (H' : Hp), Same H H' → RowBad K H' n (g : Int) v → Q v H'
theorem row_one {H : Hp} {n : Nat} {g : Int} {l : Addr} {x : V} {r : List V} (h : H l = some (.lst (x :: r))) (hx : BadWish K H n g x) : RowBad K H n g (.ref l) :=
  .inr (.inl ⟨l, _, 0, x, rfl, SqL.of h, rfl, fun i hi => absurd hi (Nat.not_lt_zero i), hx⟩)
theorem ok_lbad_row {f : Addr} {fd : FuncData} (F : Fun K "_law_bad_row" "_law_bad_row" s_lbad_row f fd) : FnOk P w K mg base CX0 1 f fd ["_law_many", "_law_guest", "_law_way"] (sp_lbad_row K) := by
  refine F.ok sc_lbad_row (fun vs H Q E h => ?_) (fun cdv A outer s H vs Q E hr h => ?_)
  · obtain ⟨n, g, k, rfl, _⟩ := h
    rfl
  obtain ⟨n, g, k, rfl, hg, q⟩ := h
  refine ⟨_, pss_one (ps_ret (pe_ix ix_list (pe_lst (pa_cons (pe_lst (pa_cons (pv 1) pa_nil)) (pa_cons (pe_lst (pa_cons (pv 0) pa_nil)) (pa_cons (pe_lst (pa_cons (pe_un un_neg pe_int) pa_nil)) (pa_cons (pe_lst (pa_cons pe_bl pa_nil))
      (pa_cons (pe_lst (pa_cons pe_str pa_nil)) (pa_cons pe_non (pa_cons (pe_tup (pa_cons pe_int pa_nil)) (pa_cons (pe_lst (pa_cons (pv 0) (pa_cons (pv 1) pa_nil))) (pa_cons pe_str (pa_cons pe_int
      (pa_cons (pe_lst (pa_cons (pe_lst (pa_cons pe_int pa_nil)) pa_nil)) (pa_cons (pe_lst (pa_cons pe_dnewK pa_nil)) pa_nil)))))))))))))
      (pe_op op_mod (pv 2) pe_int) (fun _ _ => rfl))), ?_⟩
  have sz : ∀ x : V, ([x] : List V).length ≤ sizeLine := fun x => by show 1 ≤ sizeLine; decide
  refine ⟨_, rfl, sz _, fun l0 h0 => ?_⟩
  have s0 := same_new h0 (.lst [.int g])
  have a0 : (upd H l0 (.lst [.int g])) l0 = some (.lst [.int g]) := upd_same
  generalize upd H l0 (.lst [.int g]) = G0 at s0 a0 ⊢
  refine ⟨_, rfl, sz _, fun l1 h1 => ?_⟩
  have s1 := same_new h1 (.lst [.int n])
  have a1 : (upd G0 l1 (.lst [.int n])) l1 = some (.lst [.int n]) := upd_same
  generalize upd G0 l1 (.lst [.int n]) = G1 at s1 a1 ⊢
  refine ⟨_, rfl, sz _, fun l2 h2 => ?_⟩
  have s2 := same_new h2 (.lst [.int (-1)])
  have a2 : (upd G1 l2 (.lst [.int (-1)])) l2 = some (.lst [.int (-1)]) := upd_same
  generalize upd G1 l2 (.lst [.int (-1)]) = G2 at s2 a2 ⊢
  refine ⟨sz _, fun l3 h3 => ?_⟩
  have s3 := same_new h3 (.lst [.bl true])
  have a3 : (upd G2 l3 (.lst [.bl true])) l3 = some (.lst [.bl true]) := upd_same
  generalize upd G2 l3 (.lst [.bl true]) = G3 at s3 a3 ⊢
  refine ⟨sz _, fun l4 h4 => ?_⟩
  have s4 := same_new h4 (.lst [.str ("0" : Str)])
  have a4 : (upd G3 l4 (.lst [.str ("0" : Str)])) l4 = some (.lst [.str ("0" : Str)]) := upd_same
  generalize upd G3 l4 (.lst [.str ("0" : Str)]) = G4 at s4 a4 ⊢
  refine ⟨sz _, fun l5 h5 => ?_⟩
  have s5 := same_new h5 (.tup [.int 0])
  have a5 : (upd G4 l5 (.tup [.int 0])) l5 = some (.tup [.int 0]) := upd_same
  generalize upd G4 l5 (.tup [.int 0]) = G5 at s5 a5 ⊢
  refine ⟨_, rfl, _, rfl, (by show 2 ≤ sizeLine; decide), fun l6 h6 => ?_⟩
  have s6 := same_new h6 (.lst [.int n, .int g])
  have a6 : (upd G5 l6 (.lst [.int n, .int g])) l6 = some (.lst [.int n, .int g]) := upd_same
  generalize upd G5 l6 (.lst [.int n, .int g]) = G6 at s6 a6 ⊢
  refine ⟨sz _, fun l7 h7 => ?_⟩
  have s7 := same_new h7 (.lst [.int 1])
  have a7 : (upd G6 l7 (.lst [.int 1])) l7 = some (.lst [.int 1]) := upd_same
  generalize upd G6 l7 (.lst [.int 1]) = G7 at s7 a7 ⊢
  refine ⟨sz _, fun l8 h8 => ?_⟩
  have s8 := same_new h8 (.lst [.ref l7])
  have a8 : (upd G7 l8 (.lst [.ref l7])) l8 = some (.lst [.ref l7]) := upd_same
  generalize upd G7 l8 (.lst [.ref l7]) = G8 at s8 a8 ⊢
  refine fun l9 h9 => ?_
  have s9 := same_new h9 (.dK [])
  have a9 : (upd G8 l9 (.dK [])) l9 = some (.dK []) := upd_same
  generalize upd G8 l9 (.dK []) = G9 at s9 a9 ⊢
  refine ⟨sz _, fun l10 h10 => ?_⟩
  have s10 := same_new h10 (.lst [.ref l9])
  have a10 : (upd G9 l10 (.lst [.ref l9])) l10 = some (.lst [.ref l9]) := upd_same
  generalize upd G9 l10 (.lst [.ref l9]) = G10 at s10 a10 ⊢
  refine ⟨(by show 12 ≤ sizeLine; decide), fun L hL => ?_⟩
  have t10 := same_new hL (.lst [V.ref l0, .ref l1, .ref l2, .ref l3, .ref l4, .non, .ref l5, .ref l6, .str ("0" : Str), .int 5, .ref l8, .ref l10])
  have aL : (upd G10 L (.lst [V.ref l0, .ref l1, .ref l2, .ref l3, .ref l4, .non, .ref l5, .ref l6, .str ("0" : Str), .int 5, .ref l8, .ref l10])) L = some (.lst [V.ref l0, .ref l1, .ref l2, .ref l3, .ref l4, .non, .ref l5, .ref l6, .str ("0" : Str), .int 5, .ref l8, .ref l10]) := upd_same
  generalize upd G10 L (.lst [V.ref l0, .ref l1, .ref l2, .ref l3, .ref l4, .non, .ref l5, .ref l6, .str ("0" : Str), .int 5, .ref l8, .ref l10]) = G at t10 aL ⊢
  have t9 := s10.trans t10
  have t8 := s9.trans t9
  have t7 := s8.trans t8
  have t6 := s7.trans t7
  have t5 := s6.trans t6
  have t4 := s5.trans t5
  have t3 := s4.trans t4
  have t2 := s3.trans t3
  have t1 := s2.trans t2
  have t0 := s1.trans t1
  have e := s0.trans t0
  have cases12 : k % 12 = 0 ∨ k % 12 = 1 ∨ k % 12 = 2 ∨ k % 12 = 3 ∨ k % 12 = 4 ∨ k % 12 = 5 ∨ k % 12 = 6 ∨ k % 12 = 7 ∨ k % 12 = 8 ∨ k % 12 = 9 ∨ k % 12 = 10 ∨ k % 12 = 11 := by omega
  refine ⟨_, rfl, _, _, rfl, rfl, (by show (0 : Int) < 12; decide), ?_⟩
  rcases cases12 with c | c | c | c | c | c | c | c | c | c | c | c
  · exact ⟨L, _, _, _, rfl, rfl, SqL.of aL, (by rw [c]; rfl), q _ G e (row_one (t0 _ _ a0) (.inr ⟨(g : Int), rfl, fun z => z.2.2 rfl⟩))⟩
  · exact ⟨L, _, _, _, rfl, rfl, SqL.of aL, (by rw [c]; rfl), q _ G e (row_one (t1 _ _ a1) (.inr ⟨(n : Int), rfl, fun z => by have := z.2.1; omega⟩))⟩
  · exact ⟨L, _, _, _, rfl, rfl, SqL.of aL, (by rw [c]; rfl), q _ G e (row_one (t2 _ _ a2) (.inr ⟨-1, rfl, fun z => by have := z.1; omega⟩))⟩
  · exact ⟨L, _, _, _, rfl, rfl, SqL.of aL, (by rw [c]; rfl), q _ G e (row_one (t3 _ _ a3) (.inl ⟨_, .base (.bl true), .inr ⟨kit_bi, kit_bb⟩⟩))⟩
  · exact ⟨L, _, _, _, rfl, rfl, SqL.of aL, (by rw [c]; rfl), q _ G e (row_one (t4 _ _ a4) (.inl ⟨_, .base (.str _), .inl kit_si⟩))⟩
  · exact ⟨L, _, _, _, rfl, rfl, SqL.of aL, (by rw [c]; rfl), q _ G e (.inl ⟨_, .base .non, kit_nl⟩)⟩
  · exact ⟨L, _, _, _, rfl, rfl, SqL.of aL, (by rw [c]; rfl), q _ G e (.inl ⟨_, .base (.tup (t5 _ _ a5)), kit_tl⟩)⟩
  · exact ⟨L, _, _, _, rfl, rfl, SqL.of aL, (by rw [c]; rfl), q _ G e (row_one (t6 _ _ a6) (.inr ⟨(n : Int), rfl, fun z => by have := z.2.1; omega⟩))⟩
  · exact ⟨L, _, _, _, rfl, rfl, SqL.of aL, (by rw [c]; rfl), q _ G e (.inl ⟨_, .base (.str _), kit_sl⟩)⟩
  · exact ⟨L, _, _, _, rfl, rfl, SqL.of aL, (by rw [c]; rfl), q _ G e (.inl ⟨_, .base (.int _), kit_il⟩)⟩
  · exact ⟨L, _, _, _, rfl, rfl, SqL.of aL, (by rw [c]; rfl), q _ G e (row_one (t8 _ _ a8) (.inl ⟨_, .base (.lst (t7 _ _ a7)), .inl kit_li⟩))⟩
  · exact ⟨L, _, _, _, rfl, rfl, SqL.of aL, (by rw [c]; rfl), q _ G e (row_one (t10 _ _ a10) (.inl ⟨_, .base (.dK (t9 _ _ a9)), .inl kit_di⟩))⟩
end
end B2

namespace B2
open PySem L2
/-- everyone's next one is the next -/
def afL (n : Nat) : List Int := (List.range n).map fun (i : Nat) => ((i : Int) + 1) % (n : Int)
theorem afL_len (n : Nat) : (afL n).length = n := by unfold afL; rw [List.length_map, List.length_range]
theorem afL_rg {n : Nat} {y : Int} (h : y ∈ afL n) : 0 ≤ y ∧ y < (n : Int) := by
  unfold afL at h
  obtain ⟨i, hi, rfl⟩ := List.mem_map.mp h
  have := List.mem_range.mp hi
  exact ⟨Int.emod_nonneg _ (by omega), Int.emod_lt_of_pos _ (by omega)⟩
section
variable {P : Program} {w : World} {K : PySem.W.Frag} {mg : Str → Option Value} {base : Heap}

/-! ### _law_bad_after -/
abbrev bada3N : List Str := ["_law_many", "_law_place", "_law_way", "_law_after", "_law_twice", "_law_k"]
theorem sc_lbad_after : FnScope ["_law_many", "_law_place", "_law_way", "_law_after", "_law_twice", "_law_k"] ["_law_many", "_law_place", "_law_way"] (defScope s_lbad_after) := ⟨rfl, rfl, rfl, by decide +kernel, rfl, by decide +kernel, by decide +kernel⟩
def sp_lbad_after (K : PySem.W.Frag) : Sp := fun vs H Q _ => ∃ (n g : Nat) (k : Int), vs = [.int n, .int g, .int k] ∧ g < n ∧ n ≤ 6 ∧ 0 ≤ k ∧ k ≤ 12 ∧ ∀ (v : V) (H' : Hp), Same H H' → PartiesBad K H' v → Q v H'
theorem ok_lbad_after {f : Addr} {fd : FuncData} (F : Fun K "_law_bad_after" "_law_bad_after" s_lbad_after f fd) (T : Own mg) : FnOk P w K mg base CX0 1 f fd ["_law_many", "_law_place", "_law_way"] (sp_lbad_after K) := by
  refine F.ok sc_lbad_after (fun vs H Q E h => ?_) (fun cdv A outer s H vs Q E hr h => ?_)
  · obtain ⟨n, g, k, rfl, _⟩ := h
    rfl
  obtain ⟨n, g, k, rfl, hg, h6, k0, k12, q⟩ := h
  refine ⟨_, Evl.pss_cut (ps_setLc (i := 3) (own := [("_law_k", 5)]) (g := gName 5) (tt := tYes) rfl sc_lbad_after.nd rfl rfl (sw_true rfl rfl rfl (by decide +kernel)) (pi_range1 rfl T.rng (pa_cons (pv 0) pa_nil))
      (blkOk_by (N := bada3N) (sc := defScope s_lbad_after) (by decide +kernel))
      (fun _ _ _ _ _ => pg_name (i := 5) sc_lbad_after.nd rfl (Or.inl rfl)) (fun _ _ _ _ _ => pts_nil) (fun _ _ _ _ _ => pe_op op_mod (pe_op op_add (pv 5) pe_int) (pv 0)))
    (Evl.pss_cut (ps_set (i := 4) sc_lbad_after.nd rfl (Or.inl rfl) (pe_op op_cat (pe_op op_cat (pe_slice sl_list (pv 3) po_none (po_some (pv 1))) (pe_lst (pa_cons (pe_ix ix_list (pv 3) (pe_op op_sub (pv 1) pe_int) (fun _ _ => rfl)) pa_nil)))
      (pe_slice sl_list (pv 3) (po_some (pv 1)) po_none)))
    (pss_cons (ps_if (pt_cmpR op_lt (pv 2) pe_int (nomark _)) (pss_one (ps_ret (pe_ix ix_list (pe_lst (pa_cons (pe_lst pa_nil) (pa_cons (pe_listRg rfl (by rfl) T.list (prg_1 (by rfl) T.rng pe_int))
      (pa_cons (pe_callTy (T := "tuple") call_tuple_of (by rfl) T.tup (by decide +kernel) (pa_cons (pv 3) pa_nil)) (pa_cons pe_non (pa_cons pe_str (pa_cons (pv 4) pa_nil))))))) (pv 2) (fun _ _ => rfl)))) pss_nil)
    (pss_cons (ps_if (pt_cmpR op_eq (pv 2) pe_int (nomark _)) (pss_one (ps_ret pe_int)) pss_nil)
    (pss_one (ps_ret (pe_op op_cat (pe_op op_cat (pe_slice sl_list (pv 3) po_none (po_some (pv 1))) (pe_lst (pa_cons (pe_ix ix_list (pe_lst (pa_cons (pv 0) (pa_cons (pe_un un_neg pe_int) (pa_cons (pe_cmpR op_eq (pv 1) pe_int (nomark _))
      (pa_cons pe_str (pa_cons pe_non (pa_cons (pe_lst (pa_cons pe_int pa_nil)) pa_nil))))))) (pe_op op_sub (pv 2) pe_int) (fun _ _ => rfl)) pa_nil))) (pe_slice sl_list (pv 3) (po_some (pe_op op_add (pv 1) pe_int)) po_none))))))), ?_⟩
  have nl := afL_len n
  refine ⟨fun σ H1 => Same H H1 ∧ ∃ l, H1 l = some (.lst ((afL n).map V.int)) ∧ σ = [some (.int n), some (.int g), some (.int k), some (.ref l), none, none], ?_, ?_⟩
  · refine ⟨_, rfl, (n : Int), rfl, by omega, by omega, fun L hL => ?_⟩
    have en : ((n : Nat) : Int).toNat = n := by omega
    refine lc_range (lo := 0) (n := ((n : Nat) : Int).toNat) (fun i H1 => Same H H1 ∧ H1 L = some (.lst (((List.range i).map fun (i : Nat) => ((i : Int) + 1) % (n : Int)).map V.int))) ⟨same_new hL _, upd_same⟩ ?_ ?_
    · rintro i H1 hi ⟨e1, at1⟩
      have ei : (0 : Int) + (i : Int) = (i : Int) := Int.zero_add _
      rw [ei]
      have hi : i < n := by omega
      refine ⟨rfl, ?_⟩
      refine ⟨_, rfl, _, _, rfl, rfl, _, rfl, _, _, rfl, rfl, (by omega), _, at1, ?_, same_put e1 hL _, ?_⟩
      · rw [List.length_map, List.length_map, List.length_range]
        exact small1000 (by omega)
      · rw [upd_same, List.range_succ, List.map_append, List.map_append]
        rfl
    · rintro H1 ⟨e1, at1⟩
      rw [en] at at1
      exact ⟨e1, L, at1, rfl⟩
  rintro σ H1 ⟨e1, l, at1, rfl⟩
  have le : ((afL n).map V.int).length = n := by rw [List.length_map]; exact nl
  refine ⟨fun σ H2 => Same H1 H2 ∧ ∃ (l2 : Addr) (y : Int), H2 l2 = some (.lst (((afL n).take g ++ [y] ++ (afL n).drop g).map V.int)) ∧ y ∈ afL n ∧ σ = [some (.int n), some (.int g), some (.int k), some (.ref l), some (.ref l2), none], ?_, ?_⟩
  · have hm : ∃ y : Int, atI ((afL n).map V.int) ((g : Int) - 1) = some (.int y) ∧ y ∈ afL n := by
      by_cases c : g = 0
      · subst c
        have hlt : n - 1 < (afL n).length := by omega
        refine ⟨(afL n)[n - 1], ?_, List.getElem_mem hlt⟩
        unfold atI
        have e : ixN ((afL n).map V.int).length (((0 : Nat) : Int) - 1) = some (n - 1) := by
          unfold ixN
          rw [le, if_neg (by omega), if_pos (by omega)]
          congr 1
          omega
        rw [e]
        show ((afL n).map V.int)[n - 1]? = _
        rw [List.getElem?_map, List.getElem?_eq_getElem hlt]
        rfl
      · have hlt : g - 1 < (afL n).length := by omega
        refine ⟨(afL n)[g - 1], ?_, List.getElem_mem hlt⟩
        have e : ((g : Nat) : Int) - 1 = ((g - 1 : Nat) : Int) := by omega
        rw [e]
        refine atI_nat ?_
        rw [List.getElem?_map, List.getElem?_eq_getElem hlt]
        rfl
    obtain ⟨y, hy, hin⟩ := hm
    refine ⟨_, rfl, _, rfl, _, rfl, l, _, rfl, SqL.of at1, fun p1 hp1 => ?_⟩
    rw [cut_to (afL n) (by omega)]
    have f1 := same_new hp1 (.lst (((afL n).take ((g : Nat) : Int).toNat).map V.int))
    refine ⟨_, rfl, _, rfl, _, _, rfl, rfl, l, _, _, _, rfl, rfl, SqL.of (f1 _ _ at1), hy, (by show 1 ≤ sizeLine; decide), fun p2 hp2 => ?_⟩
    have f2 := same_new hp2 (.lst [V.int y])
    refine ⟨p1, p2, _, _, rfl, rfl, f2 _ _ upd_same, upd_same, ?_, fun p3 hp3 => ?_⟩
    · rw [List.length_map, List.length_take]
      exact le_line (by show min _ _ + 1 ≤ 1000; omega)
    have f3 := same_new hp3 (.lst (((afL n).take ((g : Nat) : Int).toNat).map V.int ++ [V.int y]))
    have f13 := f1.trans (f2.trans f3)
    refine ⟨_, rfl, _, rfl, _, rfl, l, _, rfl, SqL.of (f13 _ _ at1), fun p4 hp4 => ?_⟩
    rw [cut_from (afL n) (by omega)]
    have f4 := same_new hp4 (.lst (((afL n).drop ((g : Nat) : Int).toNat).map V.int))
    refine ⟨p3, p4, _, _, rfl, rfl, f4 _ _ upd_same, upd_same, ?_, fun p5 hp5 => ?_⟩
    · rw [List.length_append, List.length_map, List.length_map, List.length_take, List.length_drop]
      exact le_line (by show min _ _ + 1 + _ ≤ 1000; omega)
    refine ⟨f13.trans (f4.trans (same_new hp5 _)), p5, y, ?_, hin, rfl⟩
    rw [upd_same, List.map_append, List.map_append, Int.toNat_natCast]
    rfl
  rintro σ H2 ⟨e2, l2, y, at2, hy, rfl⟩
  have e12 := e1.trans e2
  have at1' := e2 _ _ at1
  refine ⟨_, rfl, _, _, rfl, rfl, _, rfl, ?_⟩
  refine ite2 (fun c => ?_) (fun c => ?_)
  · have k6 : k < 6 := of_decide_eq_true c
    refine ⟨(by show 0 ≤ sizeLine; decide), fun b0 hb0 => ?_⟩
    have s0 := same_new hb0 (.lst [])
    have a0 : (upd H2 b0 (.lst [])) b0 = some (.lst []) := upd_same
    generalize upd H2 b0 (.lst []) = G0 at s0 a0 ⊢
    refine ⟨(7 : Int), rfl, RgOk.of_le (by omega) (by omega) (by omega) (by omega), fun b1 hb1 => ?_⟩
    have s1 := same_new hb1 (.lst (rgV 0 7))
    have a1 : (upd G0 b1 (.lst (rgV 0 7))) b1 = some (.lst (rgV 0 7)) := upd_same
    generalize upd G0 b1 (.lst (rgV 0 7)) = G1 at s1 a1 ⊢
    have s01 := s0.trans s1
    refine ⟨_, rfl, l, _, rfl, .inl ⟨SqL.of (s01 _ _ at1'), fun b2 hb2 => ?_⟩⟩
    have s2 := same_new hb2 (.tup ((afL n).map V.int))
    have a2 : (upd G1 b2 (.tup ((afL n).map V.int))) b2 = some (.tup ((afL n).map V.int)) := upd_same
    generalize upd G1 b2 (.tup ((afL n).map V.int)) = G2 at s2 a2 ⊢
    refine ⟨_, rfl, (by show 6 ≤ sizeLine; decide), fun L hL => ?_⟩
    have s3 := same_new hL (.lst [V.ref b0, .ref b1, .ref b2, .non, .str ("after" : Str), .ref l2])
    have a3 : (upd G2 L (.lst [V.ref b0, .ref b1, .ref b2, .non, .str ("after" : Str), .ref l2])) L = some (.lst [V.ref b0, .ref b1, .ref b2, .non, .str ("after" : Str), .ref l2]) := upd_same
    generalize upd G2 L (.lst [V.ref b0, .ref b1, .ref b2, .non, .str ("after" : Str), .ref l2]) = G at s3 a3 ⊢
    have t2 := s3
    have t1 := s2.trans s3
    have t0 := s1.trans t1
    have tH := s0.trans t0
    have eG := e12.trans tH
    refine ⟨_, rfl, L, ?_⟩
    have kk : k = 0 ∨ k = 1 ∨ k = 2 ∨ k = 3 ∨ k = 4 ∨ k = 5 := by omega
    rcases kk with rfl | rfl | rfl | rfl | rfl | rfl
    · exact ⟨_, _, _, rfl, rfl, SqL.of a3, rfl, q _ G eG (.inr (.inl ⟨b0, _, rfl, SqL.of (t0 _ _ a0), .inl rfl⟩))⟩
    · exact ⟨_, _, _, rfl, rfl, SqL.of a3, rfl, q _ G eG (.inr (.inl ⟨b1, _, rfl, SqL.of (t1 _ _ a1), .inr (by decide +kernel)⟩))⟩
    · exact ⟨_, _, _, rfl, rfl, SqL.of a3, rfl, q _ G eG (.inl ⟨_, .base (.tup (t2 _ _ a2)), kit_tl⟩)⟩
    · exact ⟨_, _, _, rfl, rfl, SqL.of a3, rfl, q _ G eG (.inl ⟨_, .base .non, kit_nl⟩)⟩
    · exact ⟨_, _, _, rfl, rfl, SqL.of a3, rfl, q _ G eG (.inl ⟨_, .base (.str _), kit_sl⟩)⟩
    · refine ⟨_, _, _, rfl, rfl, SqL.of a3, rfl, q _ G eG ?_⟩
      have lt2 : ((afL n).take g ++ [y] ++ (afL n).drop g).length = n + 1 := by
        rw [List.length_append, List.length_append, List.length_take, List.length_drop, List.length_singleton]
        omega
      by_cases c7 : n = 6
      · exact .inr (.inl ⟨l2, _, rfl, SqL.of (tH _ _ at2), .inr (by rw [List.length_map, lt2, c7])⟩)
      · refine .inr (.inr (.inr ⟨l2, _, rfl, SqL.of (tH _ _ at2), by omega, by omega, fun z hz => ?_, with_dup hy⟩))
        have hz : z ∈ afL n := by
          rcases List.mem_append.mp hz with h | h
          · rcases List.mem_append.mp h with h | h
            · exact List.mem_of_mem_take h
            · rw [List.mem_singleton.mp h]; exact hy
          · exact List.mem_of_mem_drop h
        have := afL_rg hz
        omega
  · have k6 : ¬ k < 6 := of_decide_eq_false (Bool.eq_false_iff.mpr c)
    refine ⟨_, rfl, rfl, _, rfl, ?_⟩
    refine ite2 (fun c2 => ?_) (fun c2 => ?_)
    · exact q _ H2 e12 (.inl ⟨_, .base (.int _), kit_il⟩)
    · have k12' : k ≠ 12 := fun z => c2 (decide_eq_true (by rw [z]))
      refine ⟨_, rfl, _, rfl, _, rfl, l, _, rfl, SqL.of at1', fun p1 hp1 => ?_⟩
      rw [cut_to (afL n) (by omega)]
      have s1 := same_new hp1 (.lst (((afL n).take ((g : Nat) : Int).toNat).map V.int))
      have a1 : (upd H2 p1 (.lst (((afL n).take ((g : Nat) : Int).toNat).map V.int))) p1 = some (.lst (((afL n).take ((g : Nat) : Int).toNat).map V.int)) := upd_same
      generalize upd H2 p1 (.lst (((afL n).take ((g : Nat) : Int).toNat).map V.int)) = G1 at s1 a1 ⊢
      refine ⟨_, rfl, _, rfl, _, rfl, rfl, (by show 1 ≤ sizeLine; decide), fun p2 hp2 => ?_⟩
      have s2 := same_new hp2 (.lst [V.int 0])
      have a2 : (upd G1 p2 (.lst [V.int 0])) p2 = some (.lst [V.int 0]) := upd_same
      generalize upd G1 p2 (.lst [V.int 0]) = G2 at s2 a2 ⊢
      refine ⟨(by show 6 ≤ sizeLine; decide), fun p3 hp3 => ?_⟩
      have s3 := same_new hp3 (.lst [V.int n, .int (-1), .bl (decide (V.int (g : Int) = V.int 0)), .str ("0" : Str), .non, .ref p2])
      have a3 : (upd G2 p3 (.lst [V.int n, .int (-1), .bl (decide (V.int (g : Int) = V.int 0)), .str ("0" : Str), .non, .ref p2])) p3 = some (.lst [V.int n, .int (-1), .bl (decide (V.int (g : Int) = V.int 0)), .str ("0" : Str), .non, .ref p2]) := upd_same
      generalize upd G2 p3 (.lst [V.int n, .int (-1), .bl (decide (V.int (g : Int) = V.int 0)), .str ("0" : Str), .non, .ref p2]) = G3 at s3 a3 ⊢
      -- one of the six
      have pick : ∃ x : V, atI [V.int n, .int (-1), .bl (decide (V.int (g : Int) = V.int 0)), .str ("0" : Str), .non, .ref p2] (k - 6) = some x ∧ ∀ G : Hp, Same G3 G → GuestBad K G n x := by
        have kk : k - 6 = 0 ∨ k - 6 = 1 ∨ k - 6 = 2 ∨ k - 6 = 3 ∨ k - 6 = 4 ∨ k - 6 = 5 := by omega
        rcases kk with z | z | z | z | z | z <;> rw [z]
        · exact ⟨_, rfl, fun G e => .inr ⟨(n : Int), rfl, fun z => by omega⟩⟩
        · exact ⟨_, rfl, fun G e => .inr ⟨-1, rfl, fun z => by omega⟩⟩
        · exact ⟨_, rfl, fun G e => .inl ⟨_, .base (.bl _), .inr ⟨kit_bi, kit_bb⟩⟩⟩
        · exact ⟨_, rfl, fun G e => .inl ⟨_, .base (.str _), .inl kit_si⟩⟩
        · exact ⟨_, rfl, fun G e => .inl ⟨_, .base .non, .inl kit_ni⟩⟩
        · exact ⟨_, rfl, fun G e => .inl ⟨_, .base (.lst (e _ _ (s3 _ _ a2))), .inl kit_li⟩⟩
      obtain ⟨x, hx, hbad⟩ := pick
      refine ⟨_, rfl, _, _, rfl, rfl, p3, _, _, _, rfl, rfl, SqL.of a3, hx, (by show 1 ≤ sizeLine; decide), fun p4 hp4 => ?_⟩
      have s4 := same_new hp4 (.lst [x])
      have a4 : (upd G3 p4 (.lst [x])) p4 = some (.lst [x]) := upd_same
      generalize upd G3 p4 (.lst [x]) = G4 at s4 a4 ⊢
      have s24 := s2.trans (s3.trans s4)
      refine ⟨p1, p4, _, _, rfl, rfl, s24 _ _ a1, a4, ?_, fun p5 hp5 => ?_⟩
      · rw [List.length_map, List.length_take]
        exact le_line (by show min _ _ + 1 ≤ 1000; omega)
      have s5 := same_new hp5 (.lst (((afL n).take ((g : Nat) : Int).toNat).map V.int ++ [x]))
      have a5 : (upd G4 p5 (.lst (((afL n).take ((g : Nat) : Int).toNat).map V.int ++ [x]))) p5 = some (.lst (((afL n).take ((g : Nat) : Int).toNat).map V.int ++ [x])) := upd_same
      generalize upd G4 p5 (.lst (((afL n).take ((g : Nat) : Int).toNat).map V.int ++ [x])) = G5 at s5 a5 ⊢
      have s15 := s1.trans (s24.trans s5)
      refine ⟨_, rfl, _, rfl, _, _, rfl, rfl, _, rfl, l, _, rfl, SqL.of (s15 _ _ at1'), fun p6 hp6 => ?_⟩
      rw [cut_from (afL n) (by omega)]
      have s6 := same_new hp6 (.lst (((afL n).drop (((g : Nat) : Int) + 1).toNat).map V.int))
      refine ⟨p5, p6, _, _, rfl, rfl, s6 _ _ a5, upd_same, ?_, fun p7 hp7 => ?_⟩
      · rw [List.length_append, List.length_map, List.length_map, List.length_take, List.length_drop]
        exact le_line (by show min _ _ + 1 + _ ≤ 1000; omega)
      have s7 := same_new hp7 (.lst (((afL n).take ((g : Nat) : Int).toNat).map V.int ++ [x] ++ ((afL n).drop (((g : Nat) : Int) + 1).toNat).map V.int))
      refine q _ _ (e12.trans (s15.trans (s6.trans s7))) (.inr (.inr (.inl ⟨p7, _, g, x, rfl, SqL.of upd_same, ?_, ?_, ?_, fun i hi => ?_, ?_⟩)))
      all_goals rw [Int.toNat_natCast, show (((g : Nat) : Int) + 1).toNat = g + 1 by omega]
      · rw [List.length_append, List.length_append, List.length_map, List.length_map, List.length_take, List.length_drop, List.length_singleton]; omega
      · rw [List.length_append, List.length_append, List.length_map, List.length_map, List.length_take, List.length_drop, List.length_singleton]; omega
      · have lt : (((afL n).take g).map V.int).length = g := by rw [List.length_map, List.length_take]; omega
        rw [List.append_assoc, List.getElem?_append_right (by omega), lt, Nat.sub_self]
        rfl
      · have hlt : i < (afL n).length := by omega
        have := afL_rg (List.getElem_mem hlt)
        refine ⟨(afL n)[i], ?_, this.1, ?_⟩
        · rw [List.append_assoc, List.getElem?_append_left (by rw [List.length_map, List.length_take]; omega), List.getElem?_map, List.getElem?_take, if_pos hi, List.getElem?_eq_getElem hlt]
          rfl
        · rw [List.length_append, List.length_append, List.length_map, List.length_map, List.length_take, List.length_drop, List.length_singleton]; omega
      · have el : (((afL n).take g).map V.int ++ [x] ++ ((afL n).drop (g + 1)).map V.int).length = n := by
          rw [List.length_append, List.length_append, List.length_map, List.length_map, List.length_take, List.length_drop, List.length_singleton]; omega
        rw [el]
        refine hbad _ (s4.trans (s5.trans (s6.trans ?_)))
        rw [Int.toNat_natCast, show (((g : Nat) : Int) + 1).toNat = g + 1 by omega] at s7
        exact s7
end
end B2

namespace B2
open PySem L2
theorem nin_lst {X : Cx} {K : PySem.W.Frag} (h : X.K = K) : OpR X (compareOp .NotIn) (rIn K true) := by
  subst h
  exact op_notIn_seq
theorem suits_self {ws : List (List Int)} (hG : Good ws) {g : Nat} (hg : g < ws.length) : suitsB ws (g : Int) (g : Int) = false := by
  unfold suitsB
  have hr : ws[g]? = some ws[g] := List.getElem?_eq_getElem hg
  have e : rowOf ws (g : Int) = ws[g] := by
    unfold rowOf
    rw [Int.toNat_natCast, List.getD_eq_getElem?_getD, hr]
    rfl
  rw [e, decide_eq_false (fun z => ((hG.row g _ hr).rg _ z).2.2 rfl), Bool.false_and]
theorem mates_first {K : PySem.W.Frag} {H : Hp} {ws : List (List Int)} {l : Addr} {xs : List V} {j : Nat} {x : V} (hG : Good ws) (h : H l = some (.lst xs)) (hl : xs.length = ws.length) (hj : xs[j]? = some x) (hb : ∀ i, i < j → xs[i]? = some V.non)
    (hbad : MateBad K H ws xs j x) : MatesBad K H ws (.ref l) := by
  have := hG.hi
  exact .inr ⟨l, xs, rfl, SqL.of h, by omega, .inr ⟨hl, j, x, hj, hb, hbad⟩⟩
/-- None but at some places -/
def nonesL (n : Nat) : List V := List.replicate n V.non
theorem nones_get {n i : Nat} (h : i < n) : (nonesL n)[i]? = some V.non := by
  unfold nonesL
  rw [List.getElem?_replicate, if_pos h]
theorem nones_len (n : Nat) : (nonesL n).length = n := List.length_replicate
theorem set_at {xs : List V} {g : Nat} (x : V) (h : g < xs.length) : (xs.set g x)[g]? = some x := by
  rw [List.getElem?_set, if_pos rfl, if_pos h]
theorem set_off {xs : List V} {g i : Nat} (x : V) (h : g ≠ i) : (xs.set g x)[i]? = xs[i]? := by
  rw [List.getElem?_set, if_neg h]
theorem flat_nonesL : ∀ n : Nat, (List.replicate n [V.non]).flatten = nonesL n
  | 0 => rfl
  | n + 1 => by
    unfold nonesL
    rw [List.replicate_succ, List.flatten_cons, flat_nonesL n, List.replicate_succ]
    rfl
theorem cut_tail (xs : List V) : (cutV xs (some 1) none).length = xs.length - 1 := by
  unfold cutV
  have e1 : HT.sIx xs.length xs.length none = xs.length := rfl
  have e0 : HT.sIx xs.length 0 (some 1) = min 1 xs.length := HT.sIx_nat _ _ 1
  rw [e0, e1, List.length_take, List.length_drop]
  omega
/-- one that is its own mate, or no mate at all -/
theorem mates_one {K : PySem.W.Frag} {H : Hp} {ws : List (List Int)} {l : Addr} {g : Nat} {x : V} (hG : Good ws) (hg : g < ws.length) (h : H l = some (.lst ((nonesL ws.length).set g x))) (hbad : MateBad K H ws ((nonesL ws.length).set g x) g x) : MatesBad K H ws (.ref l) :=
  mates_first hG h (by rw [List.length_set, nones_len]) (set_at x (by rw [nones_len]; exact hg)) (fun i hi => by rw [set_off x (by omega), nones_get (by omega)]) hbad
theorem mates_self {K : PySem.W.Frag} {H : Hp} {ws : List (List Int)} {l : Addr} {g : Nat} (hG : Good ws) (hg : g < ws.length) (h : H l = some (.lst ((nonesL ws.length).set g (.int (g : Nat))))) : MatesBad K H ws (.ref l) :=
  mates_one hG hg h (.inr ⟨(g : Int), rfl, .inr ⟨by omega, by omega, some (g : Int), atI_nat (set_at _ (by rw [nones_len]; exact hg)), .inr ⟨rfl, suits_self hG hg⟩⟩⟩)
/-- a list in which each of three names the next -/
theorem mates_three {K : PySem.W.Frag} {H : Hp} {ws : List (List Int)} {l : Addr} {xs : List V} {a b c : Nat} (hG : Good ws) (h : H l = some (.lst xs)) (hl : xs.length = ws.length) (ab : a ≠ b) (bc : b ≠ c) (ac : a ≠ c) (ha : a < ws.length) (hb : b < ws.length) (hc : c < ws.length)
    (xa : xs[a]? = some (.int (b : Nat))) (xb : xs[b]? = some (.int (c : Nat))) (xc : xs[c]? = some (.int (a : Nat))) (ho : ∀ i, i < ws.length → i ≠ a → i ≠ b → i ≠ c → xs[i]? = some V.non) : MatesBad K H ws (.ref l) := by
  have go : ∀ {p q r : Nat}, p < ws.length → q < ws.length → r ≠ p → xs[p]? = some (.int (q : Nat)) → xs[q]? = some (.int (r : Nat)) → (∀ i, i < p → xs[i]? = some V.non) → MatesBad K H ws (.ref l) := fun {p q r} hp hq rp xp xq hbf =>
    mates_first hG h hl xp hbf (.inr ⟨(q : Int), rfl, .inr ⟨by omega, by omega, some (r : Int), atI_nat xq, .inl (fun z => rp (by have := Option.some.inj z; omega))⟩⟩)
  by_cases h1 : a < b ∧ a < c
  · exact go ha hb (Ne.symm ac) xa xb (fun i hi => ho i (by omega) (by omega) (by omega) (by omega))
  · by_cases h2 : b < a ∧ b < c
    · exact go hb hc ab xb xc (fun i hi => ho i (by omega) (by omega) (by omega) (by omega))
    · exact go hc ha bc xc xa (fun i hi => ho i (by omega) (by omega) (by omega) (by omega))
section
variable {P : Program} {w : World} {K : PySem.W.Frag} {mg : Str → Option Value} {base : Heap}

/-! ### _law_bad_mates -/
abbrev badm3N : List Str := ["_law_wishes", "_law_guest", "_law_way", "_law_many", "_law_mates", "_law_others", "_law_one"]
theorem sc_lbad_mates : FnScope ["_law_wishes", "_law_guest", "_law_way", "_law_many", "_law_mates", "_law_others", "_law_one"] ["_law_wishes", "_law_guest", "_law_way"] (defScope s_lbad_mates) := ⟨rfl, rfl, rfl, by decide +kernel, rfl, by decide +kernel, by decide +kernel⟩
def sp_lbad_mates (K : PySem.W.Frag) : Sp := fun vs H Q _ => ∃ (a : Addr) (ws : List (List Int)) (g : Nat) (k : Int), vs = [.ref a, .int g, .int k] ∧ Tab K H a ws ∧ Good ws ∧ g < ws.length ∧ 0 ≤ k ∧ k ≤ 13 ∧ ∀ (v : V) (H' : Hp), Same H H' → MatesBad K H' ws v → Q v H'
theorem ok_lbad_mates {f : Addr} {fd : FuncData} (F : Fun K "_law_bad_mates" "_law_bad_mates" s_lbad_mates f fd) (T : Own mg) : FnOk P w K mg base CX0 2 f fd ["_law_wishes", "_law_guest", "_law_way"] (sp_lbad_mates K) := by
  refine F.ok sc_lbad_mates (fun vs H Q E h => ?_) (fun cdv A outer s H vs Q E hr h => ?_)
  · obtain ⟨a, ws, g, k, rfl, _⟩ := h
    rfl
  obtain ⟨a, ws, g, k, rfl, hT, hG, hg, k0, k13, q⟩ := h
  refine ⟨_, pss_cons (ps_set (i := 3) sc_lbad_mates.nd rfl (Or.inl rfl) (pe_callB call_len_seq (by rfl) T.len PySem.boot_len (pa_cons (pv 0) pa_nil)))
    (pss_cons (ps_set (i := 4) sc_lbad_mates.nd rfl (Or.inl rfl) (pe_op op_rep (pe_lst (pa_cons pe_non pa_nil)) (pv 3)))
    (pss_cons (ps_if (pt_cmpR op_lt (pv 2) pe_int (nomark _)) (pss_one (ps_ret (pe_ix ix_list (pe_lst (pa_cons (pe_slice sl_list (pv 4) (po_some pe_int) po_none) (pa_cons (pe_op op_cat (pv 4) (pe_lst (pa_cons pe_non pa_nil)))
      (pa_cons (pe_callTy (T := "tuple") call_tuple_of (by rfl) T.tup (by decide +kernel) (pa_cons (pv 4) pa_nil)) (pa_cons pe_non (pa_cons pe_str pa_nil)))))) (pv 2) (fun _ _ => rfl)))) pss_nil)
    (pss_cons (ps_if (pt_cmpR op_eq (pv 2) pe_int (nomark _)) (pss_one (ps_ret pe_int)) pss_nil)
    (Evl.pss_cut (ps_setLc (i := 5) (own := [("_law_one", 6)]) (g := gName 6) rfl sc_lbad_mates.nd rfl rfl (sw_true rfl rfl rfl (by decide +kernel)) (pi_range1 rfl T.rng (pa_cons (pv 3) pa_nil))
      (blkOk_by (N := badm3N) (sc := defScope s_lbad_mates) (by decide +kernel))
      (fun _ _ _ _ _ => pg_name (i := 6) sc_lbad_mates.nd rfl (Or.inl rfl))
      (fun _ _ _ _ _ => pts_one (PW.pt (pw_or (pt_cmpR (nin_lst (K := K) rfl) (pv 6) (pe_ix (ix_lst (K := K) rfl) (pv 0) (pv 1) (fun _ _ => rfl)) (by rfl)) (pw_or1 (pt_cmpR (nin_lst (K := K) rfl) (pv 1) (pe_ix (ix_lst (K := K) rfl) (pv 0) (pv 6) (fun _ _ => rfl)) (by rfl))))))
      (fun _ _ _ _ _ => pv 6))
    (pss_cons (ps_asg (pe_ix ix_list (pe_lst (pa_cons (pv 1) (pa_cons (pe_op op_mod (pe_op op_add (pv 1) pe_int) (pv 3)) (pa_cons (pv 3) (pa_cons (pe_cmpR op_eq (pv 1) pe_int (nomark _)) (pa_cons (pe_ix ix_list (pv 5) pe_int (fun _ _ => rfl))
      (pa_cons (pe_un un_neg pe_int) (pa_cons pe_str (pa_cons (pe_lst (pa_cons pe_int pa_nil)) pa_nil))))))))) (pe_op op_sub (pv 2) pe_int) (fun _ _ => rfl)) (pg_sub (pv 4) (pv 1) set_list))
    (pss_cons (ps_if (PW.pt (pw_and (pt_cmpR op_eq (pv 2) pe_int (nomark _)) (pw_and1 (pt_cmpR op_ne (pe_ix ix_list (pv 5) pe_int (fun _ _ => rfl)) (pv 1) (nomark _)))))
      (pss_one (ps_asg (pv 1) (pg_sub (pv 4) (pe_ix ix_list (pv 5) pe_int (fun _ _ => rfl)) set_list))) pss_nil)
    (pss_cons (ps_if (PW.pt (pw_and (pt_cmpR op_eq (pv 2) pe_int (nomark _)) (pw_and1 (pt_cmpR op_gt (pv 3) pe_int (nomark _)))))
      (pss_cons (ps_asg (pe_op op_mod (pe_op op_add (pv 1) pe_int) (pv 3)) (pg_sub (pv 4) (pe_op op_mod (pe_op op_add (pv 1) pe_int) (pv 3)) set_list))
      (pss_one (ps_asg (pv 1) (pg_sub (pv 4) (pe_op op_mod (pe_op op_add (pv 1) pe_int) (pv 3)) set_list)))) pss_nil)
    (pss_one (ps_ret (pv 4)))))))))), ?_⟩
  obtain ⟨as, h1, h2, h3⟩ := id hT
  have hl : (as.map V.ref).length = ws.length := by rw [List.length_map]; exact h2
  have hi := hG.hi
  have lo := hG.lo
  refine ⟨_, rfl, a, _, rfl, .inl h1, ?_⟩
  rw [hl]
  refine ⟨(by show 1 ≤ sizeLine; decide), fun N hN => ?_⟩
  refine ⟨_, rfl, N, (ws.length : Int), _, rfl, rfl, upd_same, by omega, by omega, ?_, fun M hM => ?_⟩
  · show 1 * ((ws.length : Nat) : Int).toNat ≤ sizeLine
    exact le_line (by omega)
  have en : ((ws.length : Nat) : Int).toNat = ws.length := by omega
  rw [en, flat_nonesL]
  have s0 : Same H (upd H N (.lst [V.non])) := same_new hN _
  have hM0 : H M = none := s0.free hM
  have s1 : Same H (upd (upd H N (.lst [V.non])) M (.lst (nonesL ws.length))) := same_put s0 hM0 _
  have a1 : (upd (upd H N (.lst [V.non])) M (.lst (nonesL ws.length))) M = some (.lst (nonesL ws.length)) := upd_same
  generalize upd (upd H N (.lst [V.non])) M (.lst (nonesL ws.length)) = G1 at s1 a1 ⊢
  clear s0 hM hN N
  have nl := nones_len ws.length
  refine ⟨_, rfl, _, _, rfl, rfl, _, rfl, ?_⟩
  refine ite2 (fun c => ?_) (fun c => ?_)
  · have k5 : k < 5 := of_decide_eq_true c
    refine ⟨_, rfl, _, rfl, M, _, rfl, SqL.of a1, fun b0 hb0 => ?_⟩
    have t0 := same_new hb0 (.lst (cutV (nonesL ws.length) (some 1) none))
    have z0 : (upd G1 b0 (.lst (cutV (nonesL ws.length) (some 1) none))) b0 = some (.lst (cutV (nonesL ws.length) (some 1) none)) := upd_same
    generalize upd G1 b0 (.lst (cutV (nonesL ws.length) (some 1) none)) = F0 at t0 z0 ⊢
    refine ⟨_, rfl, (by show 1 ≤ sizeLine; decide), fun b1 hb1 => ?_⟩
    have t1 := same_new hb1 (.lst [V.non])
    have z1 : (upd F0 b1 (.lst [V.non])) b1 = some (.lst [V.non]) := upd_same
    generalize upd F0 b1 (.lst [V.non]) = F1 at t1 z1 ⊢
    refine ⟨M, b1, _, _, rfl, rfl, t1 _ _ (t0 _ _ a1), z1, ?_, fun b2 hb2 => ?_⟩
    · rw [nl]
      exact le_line (by show _ + 1 ≤ 1000; omega)
    have t2 := same_new hb2 (.lst (nonesL ws.length ++ [V.non]))
    have z2 : (upd F1 b2 (.lst (nonesL ws.length ++ [V.non]))) b2 = some (.lst (nonesL ws.length ++ [V.non])) := upd_same
    generalize upd F1 b2 (.lst (nonesL ws.length ++ [V.non])) = F2 at t2 z2 ⊢
    refine ⟨_, rfl, M, _, rfl, .inl ⟨SqL.of (t2 _ _ (t1 _ _ (t0 _ _ a1))), fun b3 hb3 => ?_⟩⟩
    have t3 := same_new hb3 (.tup (nonesL ws.length))
    have z3 : (upd F2 b3 (.tup (nonesL ws.length))) b3 = some (.tup (nonesL ws.length)) := upd_same
    generalize upd F2 b3 (.tup (nonesL ws.length)) = F3 at t3 z3 ⊢
    refine ⟨(by show 5 ≤ sizeLine; decide), fun L hL => ?_⟩
    have t4 := same_new hL (.lst [V.ref b0, .ref b2, .ref b3, .non, .str ("mates" : Str)])
    have z4 : (upd F3 L (.lst [V.ref b0, .ref b2, .ref b3, .non, .str ("mates" : Str)])) L = some (.lst [V.ref b0, .ref b2, .ref b3, .non, .str ("mates" : Str)]) := upd_same
    generalize upd F3 L (.lst [V.ref b0, .ref b2, .ref b3, .non, .str ("mates" : Str)]) = F at t4 z4 ⊢
    have u3 := t4
    have u2 := t3.trans t4
    have u0 := t1.trans (t2.trans u2)
    have eF := s1.trans (t0.trans u0)
    refine ⟨_, rfl, L, ?_⟩
    have kk : k = 0 ∨ k = 1 ∨ k = 2 ∨ k = 3 ∨ k = 4 := by omega
    rcases kk with rfl | rfl | rfl | rfl | rfl
    · exact ⟨_, _, _, rfl, rfl, SqL.of z4, rfl, q _ F eF (.inr ⟨b0, _, rfl, SqL.of (u0 _ _ z0), by rw [cut_tail, nl]; omega, .inl (by rw [cut_tail, nl]; omega)⟩)⟩
    · exact ⟨_, _, _, rfl, rfl, SqL.of z4, rfl, q _ F eF (.inr ⟨b2, _, rfl, SqL.of (u2 _ _ z2), by rw [List.length_append, nl, List.length_singleton]; omega, .inl (by rw [List.length_append, nl, List.length_singleton]; omega)⟩)⟩
    · exact ⟨_, _, _, rfl, rfl, SqL.of z4, rfl, q _ F eF (.inl ⟨_, .base (.tup (u3 _ _ z3)), kit_tl⟩)⟩
    · exact ⟨_, _, _, rfl, rfl, SqL.of z4, rfl, q _ F eF (.inl ⟨_, .base .non, kit_nl⟩)⟩
    · exact ⟨_, _, _, rfl, rfl, SqL.of z4, rfl, q _ F eF (.inl ⟨_, .base (.str _), kit_sl⟩)⟩
  have k5 : ¬ k < 5 := of_decide_eq_false (Bool.eq_false_iff.mpr c)
  refine ⟨_, rfl, rfl, _, rfl, ?_⟩
  refine ite2 (fun c2 => ?_) (fun c2 => ?_)
  · exact q _ G1 s1 (.inl ⟨_, .base (.int _), kit_il⟩)
  have k13' : k ≠ 13 := fun z => c2 (decide_eq_true (by rw [z]))
  clear c c2
  -- those whom the guest suits not
  refine ⟨fun σ G2 => Same H G2 ∧ G2 M = some (.lst (nonesL ws.length)) ∧ ∃ (O o : Nat) (r : List Int), O ≠ M ∧ G2 O = some (.lst (V.int (o : Nat) :: r.map V.int)) ∧ o < ws.length ∧ suitsB ws (g : Int) (o : Int) = false ∧
    σ = [some (.ref a), some (.int g), some (.int k), some (.int ws.length), some (.ref M), some (.ref O), none], ?_, ?_⟩
  · obtain ⟨as', w1, w2, w3⟩ := (hT.same s1).at
    have row : ∀ i : Nat, i < ws.length → ∃ b, atI (as'.map V.ref) (i : Int) = some (.ref b) ∧ SqL K G1 b ((rowOf ws (i : Int)).map V.int) := fun i hi => w3 i (by omega) (by omega)
    obtain ⟨bg, hbg, hsg⟩ := row g hg
    refine ⟨_, rfl, (ws.length : Int), rfl, by omega, by omega, fun D hD => ?_⟩
    refine lc_range (lo := 0) (n := ((ws.length : Nat) : Int).toNat) (fun i H' => ∃ r : List Int, H' = upd G1 D (.lst (r.map V.int)) ∧ r.length ≤ i ∧ (∀ x ∈ r, ∃ o : Nat, x = (o : Int) ∧ o < ws.length ∧ suitsB ws (g : Int) (o : Int) = false) ∧ (g < i → r ≠ []))
      ⟨[], rfl, Nat.le_refl _, (fun x hx => by cases hx), fun z => absurd z (Nat.not_lt_zero _)⟩ ?_ ?_
    · rintro i H' hi' ⟨r, rfl, hrl, hr', hne⟩
      have ei : (0 : Int) + (i : Int) = (i : Int) := Int.zero_add _
      rw [ei]
      have hi2 : i < ws.length := by omega
      have eD := same_new hD (.lst (r.map V.int))
      obtain ⟨bi, hbi, hsi⟩ := row i hi2
      have pass : suitsB ws (g : Int) (i : Int) = false → ∃ acc, (upd G1 D (.lst (r.map V.int))) D = some (.lst acc) ∧ acc.length < sizeLine ∧ ∃ r' : List Int, upd (upd G1 D (.lst (r.map V.int))) D (.lst (acc ++ [V.int (i : Int)])) = upd G1 D (.lst (r'.map V.int)) ∧ r'.length ≤ i + 1 ∧
          (∀ x ∈ r', ∃ o : Nat, x = (o : Int) ∧ o < ws.length ∧ suitsB ws (g : Int) (o : Int) = false) ∧ (g < i + 1 → r' ≠ []) := fun hs => by
        refine ⟨_, upd_same, by rw [List.length_map]; exact small1000 (by omega), r ++ [(i : Int)], by rw [upd_upd, List.map_append]; rfl, by rw [List.length_append, List.length_singleton]; omega, fun x hx => ?_, fun _ => by simp⟩
        rcases List.mem_append.mp hx with h | h
        · exact hr' x h
        · exact ⟨i, List.mem_singleton.mp h, hi2, hs⟩
      have stay : suitsB ws (g : Int) (i : Int) = true → ∃ r' : List Int, upd G1 D (.lst (r.map V.int)) = upd G1 D (.lst (r'.map V.int)) ∧ r'.length ≤ i + 1 ∧ (∀ x ∈ r', ∃ o : Nat, x = (o : Int) ∧ o < ws.length ∧ suitsB ws (g : Int) (o : Int) = false) ∧ (g < i + 1 → r' ≠ []) := fun hs =>
        ⟨r, rfl, by omega, hr', fun z => hne (by
          by_cases e : g = i
          · rw [← e, suits_self hG hg] at hs; cases hs
          · omega)⟩
      refine ⟨rfl, ?_⟩
      refine ⟨_, rfl, _, rfl, _, rfl, a, _, _, _, rfl, rfl, eD.seq w1, hbg, bg, _, rfl, .inl (eD.seq hsg), rfl, flat_ints _, _, rfl, ?_⟩
      show if (!inV (.int (i : Int)) ((rowOf ws (g : Int)).map V.int)) = true then _ else _
      rw [inV_int]
      by_cases d1 : (i : Int) ∈ rowOf ws (g : Int)
      · rw [decide_eq_true d1]
        refine iteF ?_
        refine ⟨_, rfl, _, rfl, _, rfl, a, _, _, _, rfl, rfl, eD.seq w1, hbi, bi, _, rfl, .inl (eD.seq hsi), rfl, flat_ints _, _, rfl, ?_⟩
        show if (!inV (.int (g : Int)) ((rowOf ws (i : Int)).map V.int)) = true then _ else _
        rw [inV_int]
        by_cases d2 : (g : Int) ∈ rowOf ws (i : Int)
        · rw [decide_eq_true d2]
          exact stay (by unfold suitsB; rw [decide_eq_true d1, decide_eq_true d2]; rfl)
        · rw [decide_eq_false d2]
          exact ⟨_, rfl, pass (by unfold suitsB; rw [decide_eq_false d2, Bool.and_false])⟩
      · rw [decide_eq_false d1]
        exact ⟨_, rfl, pass (by unfold suitsB; rw [decide_eq_false d1, Bool.false_and])⟩
    · rintro H' ⟨r, rfl, _, hr', hne⟩
      have hne := hne (by omega)
      match r, hne with
      | x :: r, _ =>
        obtain ⟨o, rfl, ho, hs⟩ := hr' x (List.mem_cons_self ..)
        exact ⟨s1.trans (same_new hD _), same_new hD _ _ _ a1, D, o, r, (ne_of_none a1 hD).symm, upd_same, ho, hs, rfl⟩
  rintro σ G2 ⟨s2, a2, O, o, r, nOM, aO, ho, hso, rfl⟩
  have i0 : atI (V.int (o : Nat) :: r.map V.int) (0 : Int) = some (.int (o : Nat)) := atI_nat (j := 0) rfl
  refine ⟨_, rfl, _, rfl, _, _, rfl, rfl, _, rfl, _, _, rfl, rfl, (by show (0 : Int) < (ws.length : Int); omega), _, rfl, _, rfl, rfl, _, rfl, O, _, _, _, rfl, rfl, SqL.of aO, i0, _, rfl, (by show 1 ≤ sizeLine; decide), fun p hp => ?_⟩
  have t0 := same_new hp (.lst [V.int 0])
  have z0 : (upd G2 p (.lst [V.int 0])) p = some (.lst [V.int 0]) := upd_same
  generalize upd G2 p (.lst [V.int 0]) = F0 at t0 z0 ⊢
  refine ⟨(by show 8 ≤ sizeLine; decide), fun L hL => ?_⟩
  have t1 := same_new hL (.lst [V.int g, .int (((g : Int) + 1) % (ws.length : Int)), .int ws.length, .bl (decide (V.int (g : Int) = V.int 0)), .int (o : Nat), .int (-1), .str ("0" : Str), .ref p])
  have z1 : (upd F0 L (.lst [V.int g, .int (((g : Int) + 1) % (ws.length : Int)), .int ws.length, .bl (decide (V.int (g : Int) = V.int 0)), .int (o : Nat), .int (-1), .str ("0" : Str), .ref p])) L =
    some (.lst [V.int g, .int (((g : Int) + 1) % (ws.length : Int)), .int ws.length, .bl (decide (V.int (g : Int) = V.int 0)), .int (o : Nat), .int (-1), .str ("0" : Str), .ref p]) := upd_same
  generalize upd F0 L (.lst [V.int g, .int (((g : Int) + 1) % (ws.length : Int)), .int ws.length, .bl (decide (V.int (g : Int) = V.int 0)), .int (o : Nat), .int (-1), .str ("0" : Str), .ref p]) = F1 at t1 z1 ⊢
  have sF := s2.trans (t0.trans t1)
  have aF := t1 _ _ (t0 _ _ a2)
  have oF := t1 _ _ (t0 _ _ aO)
  have pF := t1 _ _ z0
  have pM : p ≠ M := (ne_of_none a2 hp).symm
  obtain ⟨x, hx, hcase⟩ : ∃ x : V, atI [V.int g, .int (((g : Int) + 1) % (ws.length : Int)), .int ws.length, .bl (decide (V.int (g : Int) = V.int 0)), .int (o : Nat), .int (-1), .str ("0" : Str), .ref p] (k - 5) = some x ∧
      ((k = 5 ∧ x = .int (g : Nat)) ∨ (k = 6 ∧ x = .int (((g : Int) + 1) % (ws.length : Int))) ∨ (k = 9 ∧ x = .int (o : Nat)) ∨ (k ≠ 6 ∧ k ≠ 9 ∧ ∀ (F : Hp) (xs : List V), F p = some (.lst [V.int 0]) → MateBad K F ws xs g x)) := by
    have kk : k = 5 ∨ k = 6 ∨ k = 7 ∨ k = 8 ∨ k = 9 ∨ k = 10 ∨ k = 11 ∨ k = 12 := by omega
    rcases kk with z | z | z | z | z | z | z | z
    · exact ⟨_, by rw [z]; rfl, .inl ⟨z, rfl⟩⟩
    · exact ⟨_, by rw [z]; rfl, .inr (.inl ⟨z, rfl⟩)⟩
    · exact ⟨_, by rw [z]; rfl, .inr (.inr (.inr ⟨by omega, by omega, fun F xs _ => .inr ⟨_, rfl, .inl (by omega)⟩⟩))⟩
    · exact ⟨_, by rw [z]; rfl, .inr (.inr (.inr ⟨by omega, by omega, fun F xs _ => .inl ⟨(fun y => by cases y), _, .base (.bl _), .inr ⟨kit_bi, kit_bb⟩⟩⟩))⟩
    · exact ⟨_, by rw [z]; rfl, .inr (.inr (.inl ⟨z, rfl⟩))⟩
    · exact ⟨_, by rw [z]; rfl, .inr (.inr (.inr ⟨by omega, by omega, fun F xs _ => .inr ⟨_, rfl, .inl (by omega)⟩⟩))⟩
    · exact ⟨_, by rw [z]; rfl, .inr (.inr (.inr ⟨by omega, by omega, fun F xs _ => .inl ⟨(fun y => by cases y), _, .base (.str _), .inl kit_si⟩⟩))⟩
    · exact ⟨_, by rw [z]; rfl, .inr (.inr (.inr ⟨by omega, by omega, fun F xs h => .inl ⟨(fun y => by cases y), _, .base (.lst h), .inl kit_li⟩⟩))⟩
  refine ⟨_, rfl, _, _, rfl, rfl, L, _, _, _, rfl, rfl, SqL.of z1, hx, _, rfl, _, rfl, M, _, _, _, rfl, rfl, aF, ixN_of (by omega) (by rw [nl]; omega), ?_⟩
  rw [Int.toNat_natCast]
  have sG : Same H (upd F1 M (.lst ((nonesL ws.length).set g x))) := same_put sF hM0 _
  have aG : (upd F1 M (.lst ((nonesL ws.length).set g x))) M = some (.lst ((nonesL ws.length).set g x)) := upd_same
  have oG : (upd F1 M (.lst ((nonesL ws.length).set g x))) O = some (.lst (V.int (o : Nat) :: r.map V.int)) := by rw [upd_ne nOM]; exact oF
  have pG : (upd F1 M (.lst ((nonesL ws.length).set g x))) p = some (.lst [V.int 0]) := by rw [upd_ne pM]; exact pF
  generalize upd F1 M (.lst ((nonesL ws.length).set g x)) = F2 at sG aG oG pG ⊢
  have l1 : ((nonesL ws.length).set g x).length = ws.length := by rw [List.length_set, nl]
  have yes : ∀ n : Int, k = n → decide (V.int k = V.int n) = true := fun n e => decide_eq_true (by rw [e])
  have no : ∀ n : Int, k ≠ n → decide (V.int k = V.int n) = false := fun n e => decide_eq_false fun z => e (V.int.inj z)
  refine ⟨_, rfl, rfl, _, rfl, ?_⟩
  rcases hcase with ⟨hk, rfl⟩ | ⟨hk, rfl⟩ | ⟨hk, rfl⟩ | ⟨h6, h9, hbad⟩
  · refine ifF (no 9 (by omega)) ⟨_, rfl, rfl, _, rfl, ifF (no 6 (by omega)) ⟨_, rfl, q _ F2 sG (mates_self hG hg aG)⟩⟩
  · refine ifF (no 9 (by omega)) ⟨_, rfl, rfl, _, rfl, ifT (yes 6 hk) ⟨_, rfl, _, _, rfl, rfl, _, rfl, ?_⟩⟩
    obtain ⟨b, eb⟩ : ∃ b : Nat, b = (g + 1) % ws.length := ⟨_, rfl⟩
    obtain ⟨c, ec⟩ : ∃ c : Nat, c = (g + 2) % ws.length := ⟨_, rfl⟩
    have ib : ((g : Int) + 1) % (ws.length : Int) = (b : Int) := by rw [eb]; rfl
    have ic : ((g : Int) + 2) % (ws.length : Int) = (c : Int) := by rw [ec]; rfl
    have hb : (g + 1 < ws.length ∧ b = g + 1) ∨ (g + 1 = ws.length ∧ b = 0) := by
      by_cases z : g + 1 < ws.length
      · exact .inl ⟨z, by rw [eb, Nat.mod_eq_of_lt z]⟩
      · have z2 : g + 1 = ws.length := by omega
        exact .inr ⟨z2, by rw [eb, z2, Nat.mod_self]⟩
    rw [ib] at aG l1
    refine ite2 (fun c2 => ?_) (fun c2 => ?_)
    · have n2 : ((ws.length : Nat) : Int) > 2 := of_decide_eq_true c2
      have hc : (g + 2 < ws.length ∧ c = g + 2) ∨ (g + 2 = ws.length ∧ c = 0) ∨ (g + 1 = ws.length ∧ c = 1) := by
        by_cases z : g + 2 < ws.length
        · exact .inl ⟨z, by rw [ec, Nat.mod_eq_of_lt z]⟩
        · by_cases z2 : g + 2 = ws.length
          · exact .inr (.inl ⟨z2, by rw [ec, z2, Nat.mod_self]⟩)
          · refine .inr (.inr ⟨by omega, ?_⟩)
            rw [ec, Nat.mod_eq_sub_mod (by omega), show g + 2 - ws.length = 1 by omega, Nat.mod_eq_of_lt (by omega)]
      have hbn : b < ws.length := by omega
      have hcn : c < ws.length := by omega
      refine ⟨_, rfl, _, _, rfl, rfl, _, rfl, _, _, rfl, rfl, (by show (0 : Int) < (ws.length : Int); omega), _, rfl, _, rfl, _, _, rfl, rfl, _, rfl, _, _, rfl, rfl, (by show (0 : Int) < (ws.length : Int); omega), M, _, _, _, rfl, rfl, aG, ixN_of (by rw [ib]; omega) (by rw [ib, l1]; omega), ?_⟩
      rw [ib, Int.toNat_natCast]
      dsimp only
      rw [ic]
      have sB := same_put sG hM0 (.lst (((nonesL ws.length).set g (V.int (b : Int))).set b (V.int (c : Int))))
      have aB : (upd F2 M (.lst (((nonesL ws.length).set g (V.int (b : Int))).set b (V.int (c : Int))))) M = some (.lst (((nonesL ws.length).set g (V.int (b : Int))).set b (V.int (c : Int)))) := upd_same
      generalize upd F2 M (.lst (((nonesL ws.length).set g (V.int (b : Int))).set b (V.int (c : Int)))) = F3 at sB aB ⊢
      have l2 : (((nonesL ws.length).set g (V.int (b : Int))).set b (V.int (c : Int))).length = ws.length := by rw [List.length_set]; exact l1
      refine ⟨_, rfl, _, rfl, _, rfl, _, _, rfl, rfl, _, rfl, _, _, rfl, rfl, (by show (0 : Int) < (ws.length : Int); omega), M, _, _, _, rfl, rfl, aB, ixN_of (by rw [ic]; omega) (by rw [ic, l2]; omega), ?_⟩
      rw [ic, Int.toNat_natCast]
      refine ⟨_, rfl, q _ _ (same_put sB hM0 _) ?_⟩
      have gb : g ≠ b := by omega
      have bc : b ≠ c := by omega
      have gc : g ≠ c := by omega
      refine mates_three (a := g) (b := b) (c := c) hG upd_same (by rw [List.length_set]; exact l2) gb bc gc hg hbn hcn ?_ ?_ ?_ fun i h n1 n2' n3 => ?_
      · rw [set_off _ (Ne.symm gc), set_off _ (Ne.symm gb), set_at _ (by rw [nl]; exact hg)]
      · rw [set_off _ (Ne.symm bc), set_at _ (by rw [l1]; exact hbn)]
      · exact set_at _ (by rw [l2]; exact hcn)
      · rw [set_off _ (Ne.symm n3), set_off _ (Ne.symm n2'), set_off _ (Ne.symm n1), nones_get h]
    · have n2 : ¬ ((ws.length : Nat) : Int) > 2 := of_decide_eq_false (Bool.eq_false_iff.mpr c2)
      refine ⟨_, rfl, q _ F2 sG ?_⟩
      by_cases e : b = g
      · rw [e] at aG
        exact mates_self hG hg aG
      · have hbn : b < ws.length := by omega
        exact mates_one hG hg aG (.inr ⟨(b : Int), rfl, .inr ⟨by omega, by omega, none, atI_nat (by rw [set_off _ (Ne.symm e), nones_get hbn]; rfl), .inl (fun z => nomatch z)⟩⟩)
  · refine ifT (yes 9 hk) ⟨_, rfl, O, _, _, _, rfl, rfl, SqL.of oG, i0, _, rfl, rfl, _, rfl, ?_⟩
    by_cases e : o = g
    · subst e
      rw [decide_eq_true (rfl : V.int (o : Int) = V.int (o : Int))]
      exact iteF ⟨_, rfl, rfl, _, rfl, ifF (no 6 (by omega)) ⟨_, rfl, q _ F2 sG (mates_self hG hg aG)⟩⟩
    · rw [decide_eq_false (show V.int (o : Int) ≠ V.int (g : Int) from fun z => e (by have := V.int.inj z; omega))]
      refine iteT ⟨_, rfl, _, rfl, _, rfl, O, _, _, _, rfl, rfl, SqL.of oG, i0, M, _, _, _, rfl, rfl, aG, ixN_of (by omega) (by rw [l1]; omega), ?_⟩
      rw [Int.toNat_natCast]
      refine ⟨_, rfl, rfl, _, rfl, ifF (no 6 (by omega)) ⟨_, rfl, q _ _ (same_put sG hM0 _) ?_⟩⟩
      have xg : (((nonesL ws.length).set g (V.int (o : Nat))).set o (V.int (g : Nat)))[g]? = some (V.int (o : Nat)) := by rw [set_off _ e, set_at _ (by rw [nl]; exact hg)]
      have xo : (((nonesL ws.length).set g (V.int (o : Nat))).set o (V.int (g : Nat)))[o]? = some (V.int (g : Nat)) := set_at _ (by rw [l1]; exact ho)
      have off : ∀ i, i < ws.length → i ≠ g → i ≠ o → (((nonesL ws.length).set g (V.int (o : Nat))).set o (V.int (g : Nat)))[i]? = some V.non := fun i h n1 n2 => by rw [set_off _ (Ne.symm n2), set_off _ (Ne.symm n1), nones_get h]
      have ll : (((nonesL ws.length).set g (V.int (o : Nat))).set o (V.int (g : Nat))).length = ws.length := by rw [List.length_set]; exact l1
      by_cases lt : g < o
      · exact mates_first hG upd_same ll xg (fun i hi => off i (by omega) (by omega) (by omega)) (.inr ⟨(o : Int), rfl, .inr ⟨by omega, by omega, some (g : Int), atI_nat xo, .inr ⟨rfl, hso⟩⟩⟩)
      · exact mates_first hG upd_same ll xo (fun i hi => off i (by omega) (by omega) (by omega)) (.inr ⟨(g : Int), rfl, .inr ⟨by omega, by omega, some (o : Int), atI_nat xg, .inr ⟨rfl, by rw [suitsB_comm]; exact hso⟩⟩⟩)
  · refine ifF (no 9 h9) ⟨_, rfl, rfl, _, rfl, ifF (no 6 h6) ⟨_, rfl, q _ F2 sG (mates_one hG hg aG (hbad F2 _ pG))⟩⟩
end
end B2

namespace B2
open PySem L2
/-! ### Mates or None, as data -/
def dO : Option (List (Option Int)) → PyData
  | none => .none
  | some ms => dL (ms.map ov)
theorem dO_shaped : ∀ mo, SeqAt.shaped (dO mo) = true
  | none => by decide +kernel
  | some ms => dL_shaped _
theorem dO_refl : ∀ mo, (dO mo).eqv (dO mo) = true
  | none => by decide +kernel
  | some ms => dL_refl _
/-- what is due: None, or a list of these mates -/
def DueAt (H : Hp) (dv : V) (mo : Option (List (Option Int))) : Prop := (dv = .non ∧ mo = none) ∨ ∃ (d : Addr) (ms : List (Option Int)), dv = .ref d ∧ mo = some ms ∧ H d = some (fm ms)
theorem DueAt.same {H H' : Hp} {dv : V} {mo : Option (List (Option Int))} (e : Same H H') (h : DueAt H dv mo) : DueAt H' dv mo := by
  rcases h with h | ⟨d, ms, h1, h2, h3⟩
  · exact .inl h
  · exact .inr ⟨d, ms, h1, h2, e _ _ h3⟩
theorem DueAt.dp {K : PySem.W.Frag} {H : Hp} {dv : V} {mo : Option (List (Option Int))} (h : DueAt H dv mo) : Dp K H dv (dO mo) := by
  rcases h with ⟨rfl, rfl⟩ | ⟨d, ms, rfl, rfl, h3⟩
  · exact .non
  · exact .lst (SqL.of h3) (dpAll_plain _ (flat_ovs ms))
/-- .. that was just made -/
def NewAt (H H' : Hp) (v : V) (mo : Option (List (Option Int))) : Prop := (v = .non ∧ mo = none) ∨ ∃ (l : Addr) (ms : List (Option Int)), v = .ref l ∧ mo = some ms ∧ H l = none ∧ H' l = some (fm ms)
theorem NewAt.due {H H' : Hp} {v : V} {mo : Option (List (Option Int))} (h : NewAt H H' v mo) : DueAt H' v mo := by
  rcases h with h | ⟨d, ms, h1, h2, _, h3⟩
  · exact .inl h
  · exact .inr ⟨d, ms, h1, h2, h3⟩
theorem NewAt.same {H H1 H2 : Hp} {v : V} {mo : Option (List (Option Int))} (h : NewAt H H1 v mo) (e : Same H1 H2) : NewAt H H2 v mo := by
  rcases h with h | ⟨d, ms, h1, h2, h3, h4⟩
  · exact .inl h
  · exact .inr ⟨d, ms, h1, h2, h3, e _ _ h4⟩
theorem NewAt.back {H0 H H1 : Hp} {v : V} {mo : Option (List (Option Int))} (s : Same H0 H) (h : NewAt H H1 v mo) : NewAt H0 H1 v mo := by
  rcases h with h | ⟨d, ms, h1, h2, h3, h4⟩
  · exact .inl h
  · exact .inr ⟨d, ms, h1, h2, s.free h3, h4⟩
theorem int_decT (i j : Int) : decide (V.int i = V.int j) = decide (i = j) := by
  by_cases h : i = j
  · rw [h]; simp
  · rw [decide_eq_false h, decide_eq_false (fun z => h (by cases z; rfl))]
theorem atI_zero {α : Type} {xs : List α} {x : α} (h : xs[0]? = some x) : atI xs 0 = some x := atI_nat (j := 0) h
section
variable {P : Program} {w : World} {K : PySem.W.Frag} {mg : Str → Option Value} {base : Heap}

def sp_twosN (C : Addr) : Sp := fun vs H Q _ => ∃ (D : Addr → Prop) (p t : Addr) (ws : List (List Int)) (mo : Option (List (Option Int))), vs = [.ref p] ∧ InnAt C D H p t ws mo ∧ ∀ (v : V) (H' : Hp), Same H H' → NewAt H H' v mo → Q v H'
theorem twosN {C f : Addr} {fd : FuncData} (G : FnOk P w K mg base CX0 1 f fd ["self"] (sp_inn_twos C)) : FnOk P w K mg base CX0 1 f fd ["self"] (sp_twosN C) :=
  G.imp fun vs H Q E ⟨D, p, t, ws, mo, e, hI, q⟩ => ⟨D, p, t, ws, mo, e, hI, fun em => q .non H (Same.refl H) (.inl ⟨rfl, em⟩), fun ms H' l em s hl hat => q (.ref l) H' s (.inr ⟨l, ms, rfl, em, hl, hat⟩)⟩
end
theorem inn_same {C : Addr} {D : Addr → Prop} {H H' : Hp} {p t : Addr} {ws : List (List Int)} {mo : Option (List (Option Int))} (h : InnAt C D H p t ws mo) (e : Same H H') : InnAt C D H' p t ws mo := by
  obtain ⟨⟨dx, mv, h1, hm⟩, ⟨as, h2, h3, h4⟩, np, nt, dm⟩ := h
  refine ⟨⟨dx, mv, e _ _ h1, ?_⟩, ⟨as, e _ _ h2, h3, fun i r hr => ?_⟩, np, nt, fun x hx => ?_⟩
  · rcases hm with hm | ⟨m, ms, r1, r2, r3⟩
    · exact .inl hm
    · exact .inr ⟨m, ms, r1, e _ _ r2, r3⟩
  · obtain ⟨b, b1, b2, b3⟩ := h4 i r hr
    exact ⟨b, b1, e _ _ b2, b3⟩
  · obtain ⟨o, ho⟩ := dm x hx
    exact ⟨o, e _ _ ho⟩
end B2

namespace B2
open PySem L2
theorem rg_ints (n : Nat) : rgV 0 (n : Int) = (rngL 0 n).map V.int := by
  unfold rgV rngL
  rw [show ((n : Int) - 0).toNat = n by omega, List.map_map]
  rfl
theorem rg_other {K : PySem.W.Frag} {H : Hp} {ws : List (List Int)} {b : Addr} {n : Nat} (h : H b = some (.lst (rgV 0 (n : Int)))) (h1 : 1 ≤ n) (h6 : n ≤ 6) (hn : n ≠ ws.length) : OtherLen K H ws (.ref b) := by
  rw [rg_ints] at h
  refine ⟨b, rngL 0 n, rfl, SqL.of h, by rw [rngL_len]; exact h1, by rw [rngL_len]; exact h6, fun y hy => ?_, (rngL_lt 0 n).imp (fun z => Int.ne_of_lt z), by rw [rngL_len]; exact hn⟩
  have := rngL_mem hy
  rw [rngL_len]
  omega
section
variable {P : Program} {w : World} {K : PySem.W.Frag} {mg : Str → Option Value} {base : Heap}

/-! ### law -/
abbrev law3N : List Str := ["_law_script", "_law_many", "_law_wishes", "_law_guest", "_law_kind", "_law_which", "_law_way", "_law_bad", "_law_inn", "_law_before", "_law_handed", "_law_row"]
theorem sc_law : FnScope ["_law_script", "_law_many", "_law_wishes", "_law_guest", "_law_kind", "_law_which", "_law_way", "_law_bad", "_law_inn", "_law_before", "_law_handed", "_law_row"] ["_law_script"] (defScope s_law) := ⟨rfl, rfl, rfl, by decide +kernel, rfl, by decide +kernel, by decide +kernel⟩
def sp_law (K : PySem.W.Frag) : Sp := fun vs H Q _ => ∃ (a : Addr) (ns : List Int), vs = [.ref a] ∧ SqL K H a (ns.map V.int) ∧ ns.length ≤ 63 ∧ ∀ H', Q (.bl true) H'
theorem ok_law {C fI fS fW fB : Addr} {fdI fdW fdB : FuncData} {f : Addr} {fd : FuncData} (F : Fun K "law" "law" s_law f fd) (T : Own mg) (X : TxtI K mg C fS) (MI : Mk K C fI) (mI : mg "Inn" = some (.ref C)) (bI : Binds K fdI ["self", "wishes"] [])
    (GI : FnOk P w K mg base CX0 7 fI fdI ["self", "wishes"] (sp_inn_init K C))
    (mW : Meth K C "twos" fW) (bW : Binds K fdW ["self"] []) (GW : FnOk P w K mg base CX0 1 fW fdW ["self"] (sp_inn_twos C))
    (mB : Meth K C "table" fB) (bB : Binds K fdB ["self"] []) (GB : FnOk P w K mg base CX0 1 fB fdB ["self"] (sp_inn_table C))
    (C1 : Cal P w K mg base 1 "_law_cell_at" ["_law_script", "_law_k"] (sp_cell_at K))
    (C2 : Cal P w K mg base 2 "_law_wishes_by" ["_law_script", "_law_many"] (sp_wishes_by K))
    (C3 : Cal P w K mg base 2 "_law_bad_mates" ["_law_wishes", "_law_guest", "_law_way"] (sp_lbad_mates K))
    (C4 : Cal P w K mg base 1 "_law_bad_after" ["_law_many", "_law_place", "_law_way"] (sp_lbad_after K))
    (C5 : Cal P w K mg base 1 "_law_bad_row" ["_law_many", "_law_guest", "_law_way"] (sp_lbad_row K))
    (C6 : Cal P w K mg base 10 "_law_told" ["_law_kind", "_law_which", "_law_wishes", "_law_inn", "_law_bad", "_law_good"] (sp_ltold K C))
    (C7 : Cal P w K mg base 10 "_law_based" ["_law_kind", "_law_which", "_law_wishes", "_law_inn", "_law_bad", "_law_good"] (sp_lbased K C)) :
    FnOk P w K mg base CX0 11 f fd ["_law_script"] (sp_law K) := by
  obtain ⟨g1, gd1, G1, m1, k1, b1⟩ := C1
  obtain ⟨g2, gd2, G2, m2, k2, b2⟩ := C2
  obtain ⟨g3, gd3, G3, m3, k3, b3⟩ := C3
  obtain ⟨g4, gd4, G4, m4, k4, b4⟩ := C4
  obtain ⟨g5, gd5, G5, m5, k5, b5⟩ := C5
  obtain ⟨g6, gd6, G6, m6, k6, b6⟩ := C6
  obtain ⟨g7, gd7, G7, m7, k7, b7⟩ := C7
  refine F.ok sc_law (fun vs H Q E h => ?_) (fun cdv A outer s H vs Q E hr h => ?_)
  · obtain ⟨a, ns, rfl, _⟩ := h
    rfl
  obtain ⟨a, cs, rfl, hS, hlen, q⟩ := h
  have hr1 : Room 1 _ := hr.mono (by decide)
  have hr2 : Room 2 _ := hr.mono (by decide)
  have hr8 : Room 8 _ := hr.mono (by decide)
  have hu := hr.units
  refine ⟨_, Evl.pss_cut (ps_set (i := 1) sc_law.nd rfl (Or.inl rfl) (pe_op op_add pe_int (pe_op op_mod (pe_call G1 hr1 (by rfl) m1 k1 b1 .nil pass0 (pa_cons (pv 0) (pa_cons pe_int pa_nil))) pe_int)))
    (pss_cons (ps_set (i := 2) sc_law.nd rfl (Or.inl rfl) (pe_call G2 hr2 (by rfl) m2 k2 b2 .nil pass0 (pa_cons (pv 0) (pa_cons (pv 1) pa_nil))))
    (Evl.pss_cut (ps_set (i := 3) sc_law.nd rfl (Or.inl rfl) (pe_op op_mod (pe_op op_fdiv (pe_call G1 hr1 (by rfl) m1 k1 b1 .nil pass0 (pa_cons (pv 0) (pa_cons pe_int pa_nil))) pe_int) (pv 1)))
    (Evl.pss_cut (ps_set (i := 4) sc_law.nd rfl (Or.inl rfl) (pe_op op_mod (pe_call G1 hr1 (by rfl) m1 k1 b1 .nil pass0 (pa_cons (pv 0) (pa_cons pe_int pa_nil))) pe_int))
    (Evl.pss_cut (ps_set (i := 5) sc_law.nd rfl (Or.inl rfl) (pe_op op_mod (pe_op op_fdiv (pe_call G1 hr1 (by rfl) m1 k1 b1 .nil pass0 (pa_cons (pv 0) (pa_cons pe_int pa_nil))) pe_int) pe_int))
    (Evl.pss_cut (ps_set (i := 6) sc_law.nd rfl (Or.inl rfl) (pe_op op_mod (pe_op op_fdiv (pe_call G1 hr1 (by rfl) m1 k1 b1 .nil pass0 (pa_cons (pv 0) (pa_cons pe_int pa_nil))) pe_int) pe_int))
    (Evl.pss_cut (ps_set (i := 7) sc_law.nd rfl (Or.inl rfl) (pe_ix ix_list (pe_lst (pa_cons (pe_un un_neg pe_int) (pa_cons (pv 1) (pa_cons pe_bl (pa_cons pe_str (pa_cons (pe_lst (pa_cons pe_int pa_nil)) (pa_cons pe_int (pa_cons pe_bl (pa_cons (pe_un un_neg (pv 1)) (pa_cons pe_int (pa_cons pe_str pa_nil)))))))))))
      (pe_op op_mod (pv 6) pe_int) (fun _ _ => rfl)))
    (Evl.pss_cut (ps_if (PW.pt (pw_and (pt_cmpR op_eq (pv 4) pe_int (nomark _)) (pw_and (pt_cmpR op_eq (pe_op op_mod (pv 6) pe_int) pe_int (nomark _)) (pw_and1 (pt_cmpR op_notIn_seq (pv 5) (pe_tup (pa_cons pe_int (pa_cons pe_int pa_nil))) (by rfl))))))
      (pss_one (ps_set (i := 7) sc_law.nd rfl (Or.inl rfl) pe_non)) pss_nil)
    (Evl.pss_cut (ps_if (pt_cmpR op_eq (pv 4) pe_int (nomark _)) (pss_one (ps_set (i := 7) sc_law.nd rfl (Or.inl rfl) (pe_call G3 hr2 (by rfl) m3 k3 b3 .nil pass0 (pa_cons (pv 2) (pa_cons (pv 3)
      (pa_cons (pe_ix ix_list (pe_lst (pa_cons pe_int (pa_cons pe_int (pa_cons pe_int (pa_cons pe_int (pa_cons pe_int (pa_cons pe_int (pa_cons pe_int (pa_cons pe_int (pa_cons pe_int (pa_cons pe_int (pa_cons pe_int (pa_cons pe_int (pa_cons pe_int (pa_cons pe_int pa_nil)))))))))))))))
        (pe_op op_mod (pv 6) pe_int) (fun _ _ => rfl)) pa_nil)))))) pss_nil)
    (Evl.pss_cut (ps_if (pt_cmpR op_eq (pv 4) pe_int (nomark _)) (pss_cons (ps_set (i := 7) sc_law.nd rfl (Or.inl rfl) (pe_call G4 hr1 (by rfl) m4 k4 b4 .nil pass0 (pa_cons (pv 1) (pa_cons (pv 3) (pa_cons (pe_op op_mod (pv 6) pe_int) pa_nil)))))
      (pss_one (ps_if (PW.pt (pw_and (pt_cmpR op_eq (pe_op op_mod (pv 5) pe_int) pe_int (nomark _)) (pw_and1 (pt_cmpR op_eq (pe_op op_mod (pv 6) pe_int) pe_int (nomark _)))))
        (pss_one (ps_set (i := 7) sc_law.nd rfl (Or.inl rfl) (pe_listRg rfl (by rfl) T.list (prg_1 (by rfl) T.rng (pe_op op_sub (pe_op op_add (pv 1) pe_int) (pe_op op_mul pe_int
          (pe_callTy (T := "int") call_int1 (by rfl) T.int (by decide +kernel) (pa_cons (pe_cmpR op_eq (pv 1) pe_int (nomark _)) pa_nil)))))))) pss_nil))) pss_nil)
    (Evl.pss_cut (ps_if (pt_cmpR op_eq (pv 4) pe_int (nomark _)) (pss_one (ps_set (i := 7) sc_law.nd rfl (Or.inl rfl) (pe_call G5 hr1 (by rfl) m5 k5 b5 .nil pass0 (pa_cons (pv 1) (pa_cons (pv 3) (pa_cons (pv 6) pa_nil)))))) pss_nil)
    (Evl.pss_cut (ps_set (i := 8) sc_law.nd rfl (Or.inl rfl) (pe_make MI GI hr8 (by rfl) mI bI .nil pass0 (pa_cons (pe_lc (own := [("_law_row", 11)]) (g := gName 11) (tt := tYes) rfl sc_law.nd (pi_list (pv 2))
        (blkOk_by (N := law3N) (sc := defScope s_law) (by decide +kernel))
        (fun _ _ _ _ _ => pg_name (i := 11) sc_law.nd rfl (Or.inl rfl)) (fun _ _ _ _ _ => pts_nil) (fun _ _ _ _ _ => pe_callTy (T := "list") (call_lof (K := K) rfl) (by rfl) T.list (by decide +kernel) (pa_cons (pv 11) pa_nil))) pa_nil)))
    (Evl.pss_cut (ps_set (i := 9) sc_law.nd rfl (Or.inl rfl) (pe_meth0 (pv 8) X.cl mW (twosN GW) hr1 bW .nil pass0))
    (Evl.pss_cut (ps_setLc (i := 10) (own := [("_law_row", 11)]) (g := gName 11) (tt := tYes) rfl sc_law.nd rfl rfl (sw_true rfl rfl rfl (by decide +kernel)) (pi_list (pv 2))
        (blkOk_by (N := law3N) (sc := defScope s_law) (by decide +kernel))
        (fun _ _ _ _ _ => pg_name (i := 11) sc_law.nd rfl (Or.inl rfl)) (fun _ _ _ _ _ => pts_nil) (fun _ _ _ _ _ => pe_callTy (T := "list") (call_lof (K := K) rfl) (by rfl) T.list (by decide +kernel) (pa_cons (pv 11) pa_nil)))
    (Evl.pss_cut (ps_if (pt_cmpR op_eq (pe_op op_mod (pe_op op_fdiv (pe_call G1 hr1 (by rfl) m1 k1 b1 .nil pass0 (pa_cons (pv 0) (pa_cons pe_int pa_nil))) pe_int) pe_int) pe_int (nomark _))
        (pss_one (ps_if (pt_not (pt_val (pe_call G7 hr (by rfl) m7 k7 b7 .nil pass0 (pa_cons (pv 4) (pa_cons (pv 5) (pa_cons (pv 10) (pa_cons (pv 8) (pa_cons (pv 7) (pa_cons (pv 3) pa_nil)))))))))
          (pss_one (ps_ret pe_bl)) pss_nil))
        (pss_one (ps_if (pt_cmpR op_ne (pe_call G6 hr (by rfl) m6 k6 b6 .nil pass0 (pa_cons (pv 4) (pa_cons (pv 5) (pa_cons (pv 10) (pa_cons (pv 8) (pa_cons (pv 7) (pa_cons (pv 3) pa_nil))))))) (pv 4) (nomark _))
          (pss_one (ps_ret pe_bl)) pss_nil)))
    (pss_one (ps_ret (pe_and (pe_cmpR (op_eqD hu) (pe_meth0 (pv 8) X.cl mW (twosN GW) hr1 bW .nil pass0) (pv 9) (nomark _))
      (pe_and (pe_cmpR (op_eqD hu) (pe_meth0 (pv 8) X.cl mB GB hr1 bB .nil pass0) (pv 2) (nomark _)) (pe_one (pe_cmpR (op_eqD hu) (pv 10) (pv 2) (nomark _))))))))))))))))))))), ?_⟩
  -- how many
  refine ⟨fun σ H' => H' = H ∧ ∃ m : Nat, 1 ≤ m ∧ m ≤ 6 ∧ σ = [some (.ref a), some (.int m), none, none, none, none, none, none, none, none, none, none], ?_, ?_⟩
  · refine ⟨_, rfl, a, cs, 0, rfl, hS, by decide, fun c => ?_⟩
    refine ⟨_, _, rfl, rfl, (by show (0 : Int) < 6; decide), _, _, rfl, rfl, ?_⟩
    obtain ⟨n, hn⟩ : ∃ n : Nat, 1 + c % 6 = (n : Int) := ⟨(1 + c % 6).toNat, by omega⟩
    exact ⟨rfl, n, by omega, by omega, by rw [← hn]; rfl⟩
  rintro σ H' ⟨rfl, m, hm1, hm6, rfl⟩
  refine ⟨_, rfl, _, rfl, a, cs, m, rfl, hS, hm1, hm6, fun H1 wl ws hwl hB1 hG hl => ?_⟩
  subst hl
  have hT1 : Tab K H1 wl ws := hB1.tab.t
  have e1 := hB1.1
  have hS1 := e1.seq hS
  -- the guest
  refine ⟨fun σ H2 => H2 = H1 ∧ ∃ g : Nat, g < ws.length ∧ σ = [some (.ref a), some (.int ws.length), some (.ref wl), some (.int g), none, none, none, none, none, none, none, none], ?_, ?_⟩
  · refine ⟨_, rfl, a, cs, 0, rfl, hS1, by decide, fun c => ?_⟩
    refine ⟨_, _, rfl, rfl, ⟨by decide, by decide⟩, _, rfl, _, _, rfl, rfl, (by show (0 : Int) < (ws.length : Int); omega), ?_⟩
    have q0 := Int.emod_nonneg (c / 6) (show (ws.length : Int) ≠ 0 by omega)
    have q1 := Int.emod_lt_of_pos (c / 6) (show (0 : Int) < (ws.length : Int) by omega)
    obtain ⟨n, hn⟩ : ∃ n : Nat, c / 6 % (ws.length : Int) = (n : Int) := ⟨(c / 6 % (ws.length : Int)).toNat, by omega⟩
    exact ⟨rfl, n, by omega, by rw [← hn]; rfl⟩
  rintro σ H2 ⟨rfl, g, hg, rfl⟩
  refine ⟨fun σ H2' => H2' = H2 ∧ ∃ k : Int, 0 ≤ k ∧ k ≤ 3 ∧ σ = [some (.ref a), some (.int ws.length), some (.ref wl), some (.int g), some (.int k), none, none, none, none, none, none, none], ?_, ?_⟩
  · refine ⟨_, rfl, a, cs, 2, rfl, hS1, by decide, fun c => ?_⟩
    exact ⟨_, _, rfl, rfl, (by show (0 : Int) < 4; decide), rfl, c % 4, by omega, by omega, rfl⟩
  rintro σ H2' ⟨rfl, k, hk0, hk3, rfl⟩
  refine ⟨fun σ H2 => H2 = H2' ∧ ∃ j : Int, 0 ≤ j ∧ j ≤ 5 ∧ σ = [some (.ref a), some (.int ws.length), some (.ref wl), some (.int g), some (.int k), some (.int j), none, none, none, none, none, none], ?_, ?_⟩
  · refine ⟨_, rfl, a, cs, 2, rfl, hS1, by decide, fun c => ?_⟩
    exact ⟨_, _, rfl, rfl, ⟨by decide, by decide⟩, _, _, rfl, rfl, (by show (0 : Int) < 6; decide), rfl, c / 4 % 6, by omega, by omega, rfl⟩
  rintro σ H2 ⟨rfl, j, hj0, hj5, rfl⟩
  refine ⟨fun σ H2' => H2' = H2 ∧ ∃ y : Int, 0 ≤ y ∧ y ≤ 29 ∧ σ = [some (.ref a), some (.int ws.length), some (.ref wl), some (.int g), some (.int k), some (.int j), some (.int y), none, none, none, none, none], ?_, ?_⟩
  · refine ⟨_, rfl, a, cs, 2, rfl, hS1, by decide, fun c => ?_⟩
    exact ⟨_, _, rfl, rfl, ⟨by decide, by decide⟩, _, _, rfl, rfl, (by show (0 : Int) < 30; decide), rfl, c / 24 % 30, by omega, by omega, rfl⟩
  rintro σ H2' ⟨rfl, y, hy0, hy29, rfl⟩
  have lo := hG.lo
  have hi := hG.hi
  -- no guest
  refine ⟨fun σ H3 => Same H2' H3 ∧ ∃ x : V, GuestBad K H3 ws.length x ∧ x ≠ V.non ∧ σ = [some (.ref a), some (.int ws.length), some (.ref wl), some (.int g), some (.int k), some (.int j), some (.int y), some x, none, none, none, none], ?_, ?_⟩
  · refine ⟨_, rfl, _, rfl, (by show 1 ≤ sizeLine; decide), fun p hp => ?_⟩
    have s1 := same_new hp (.lst [V.int 0])
    have z1 : (upd H2' p (.lst [V.int 0])) p = some (.lst [V.int 0]) := upd_same
    generalize upd H2' p (.lst [V.int 0]) = F1 at s1 z1 ⊢
    refine ⟨_, rfl, _, rfl, (by show 10 ≤ sizeLine; decide), fun L hL => ?_⟩
    have s2 := same_new hL (.lst [V.int (-1), .int ws.length, .bl true, .str ("0" : Str), .ref p, .int 6, .bl false, .int (-(ws.length : Int)), .int 1000000, .str ("a" : Str)])
    have z2 : (upd F1 L (.lst [V.int (-1), .int ws.length, .bl true, .str ("0" : Str), .ref p, .int 6, .bl false, .int (-(ws.length : Int)), .int 1000000, .str ("a" : Str)])) L = some (.lst [V.int (-1), .int ws.length, .bl true, .str ("0" : Str), .ref p, .int 6, .bl false, .int (-(ws.length : Int)), .int 1000000, .str ("a" : Str)]) := upd_same
    generalize upd F1 L (.lst [V.int (-1), .int ws.length, .bl true, .str ("0" : Str), .ref p, .int 6, .bl false, .int (-(ws.length : Int)), .int 1000000, .str ("a" : Str)]) = F2 at s2 z2 ⊢
    refine ⟨_, rfl, _, _, rfl, rfl, (by show (0 : Int) < 10; decide), ?_⟩
    have z1' := s2 _ _ z1
    have pick : ∃ x : V, atI [V.int (-1), .int ws.length, .bl true, .str ("0" : Str), .ref p, .int 6, .bl false, .int (-(ws.length : Int)), .int 1000000, .str ("a" : Str)] (y % 10) = some x ∧ GuestBad K F2 ws.length x ∧ x ≠ V.non := by
      have kk : y % 10 = 0 ∨ y % 10 = 1 ∨ y % 10 = 2 ∨ y % 10 = 3 ∨ y % 10 = 4 ∨ y % 10 = 5 ∨ y % 10 = 6 ∨ y % 10 = 7 ∨ y % 10 = 8 ∨ y % 10 = 9 := by omega
      rcases kk with z | z | z | z | z | z | z | z | z | z <;> rw [z]
      · exact ⟨_, rfl, .inr ⟨_, rfl, by omega⟩, fun z => nomatch z⟩
      · exact ⟨_, rfl, .inr ⟨_, rfl, by omega⟩, fun z => nomatch z⟩
      · exact ⟨_, rfl, .inl ⟨_, .base (.bl _), .inr ⟨kit_bi, kit_bb⟩⟩, fun z => nomatch z⟩
      · exact ⟨_, rfl, .inl ⟨_, .base (.str _), .inl kit_si⟩, fun z => nomatch z⟩
      · exact ⟨_, rfl, .inl ⟨_, .base (.lst z1'), .inl kit_li⟩, fun z => nomatch z⟩
      · exact ⟨_, rfl, .inr ⟨_, rfl, by omega⟩, fun z => nomatch z⟩
      · exact ⟨_, rfl, .inl ⟨_, .base (.bl _), .inr ⟨kit_bi, kit_bb⟩⟩, fun z => nomatch z⟩
      · exact ⟨_, rfl, .inr ⟨_, rfl, by omega⟩, fun z => nomatch z⟩
      · exact ⟨_, rfl, .inr ⟨_, rfl, by omega⟩, fun z => nomatch z⟩
      · exact ⟨_, rfl, .inl ⟨_, .base (.str _), .inl kit_si⟩, fun z => nomatch z⟩
    obtain ⟨x, hx, hb, hn⟩ := pick
    exact ⟨L, _, _, _, rfl, rfl, SqL.of z2, hx, s1.trans s2, x, hb, hn, rfl⟩
  rintro σ H3 ⟨e3, x, hx, hxn, rfl⟩
  -- None among them
  refine ⟨fun σ H4 => Same H3 H4 ∧ ∃ x : V, GuestBad K H4 ws.length x ∧ (j = 3 ∨ j = 4 → x ≠ V.non) ∧ σ = [some (.ref a), some (.int ws.length), some (.ref wl), some (.int g), some (.int k), some (.int j), some (.int y), some x, none, none, none, none], ?_, ?_⟩
  · refine ⟨_, rfl, rfl, _, rfl, ?_⟩
    refine ite2 (fun c1 => ?_) (fun c1 => ?_)
    · refine ⟨_, rfl, _, _, rfl, rfl, (by show (0 : Int) < 11; decide), rfl, _, rfl, ?_⟩
      refine ite2 (fun c2 => ?_) (fun c2 => ?_)
      · refine ⟨_, rfl, (by show 2 ≤ sizeLine; decide), fun t ht => ?_⟩
        refine ⟨t, _, rfl, .inr (SqT.of upd_same), rfl, rfl, _, rfl, ?_⟩
        have s1 := same_new ht (.tup [V.int 3, V.int 4])
        refine ite2 (fun c3 => ?_) (fun c3 => ?_)
        · refine ⟨s1, V.non, .inl ⟨_, .base .non, .inl kit_ni⟩, fun z => ?_, rfl⟩
          exfalso
          have c3 : (!inV (.int j) ([3, 4].map V.int)) = true := c3
          rw [inV_int] at c3
          rcases z with z | z
          · rw [z] at c3; revert c3; decide
          · rw [z] at c3; revert c3; decide
        · exact ⟨s1, x, hx.same s1, fun _ => hxn, rfl⟩
      · exact ⟨Same.refl _, x, hx, fun _ => hxn, rfl⟩
    · exact ⟨Same.refl _, x, hx, fun _ => hxn, rfl⟩
  clear hx hxn x
  rintro σ H4 ⟨e4, x, hx, hxn, rfl⟩
  have e24 := e3.trans e4
  -- mates
  refine ⟨fun σ H5 => Same H4 H5 ∧ ∃ x : V, (k = 0 → GuestBad K H5 ws.length x ∧ (j = 3 ∨ j = 4 → x ≠ V.non)) ∧ (k = 1 → MatesBad K H5 ws x) ∧ σ = [some (.ref a), some (.int ws.length), some (.ref wl), some (.int g), some (.int k), some (.int j), some (.int y), some x, none, none, none, none], ?_, ?_⟩
  · refine ⟨_, rfl, rfl, _, rfl, ?_⟩
    refine ite2 (fun c1 => ?_) (fun c1 => ?_)
    · have c1 : k = 1 := V.int.inj (of_decide_eq_true c1)
      refine ⟨_, rfl, _, rfl, (by show 14 ≤ sizeLine; decide), fun L hL => ?_⟩
      have s1 := same_new hL (.lst [V.int 6, .int 10, .int 11, .int 9, .int 5, .int 8, .int 7, .int 12, .int 3, .int 13, .int 2, .int 1, .int 0, .int 4])
      have z1 : (upd H4 L (.lst [V.int 6, .int 10, .int 11, .int 9, .int 5, .int 8, .int 7, .int 12, .int 3, .int 13, .int 2, .int 1, .int 0, .int 4])) L = some (.lst [V.int 6, .int 10, .int 11, .int 9, .int 5, .int 8, .int 7, .int 12, .int 3, .int 13, .int 2, .int 1, .int 0, .int 4]) := upd_same
      generalize upd H4 L (.lst [V.int 6, .int 10, .int 11, .int 9, .int 5, .int 8, .int 7, .int 12, .int 3, .int 13, .int 2, .int 1, .int 0, .int 4]) = F1 at s1 z1 ⊢
      obtain ⟨v, hv, v0, v13⟩ : ∃ v : Int, atI [V.int 6, .int 10, .int 11, .int 9, .int 5, .int 8, .int 7, .int 12, .int 3, .int 13, .int 2, .int 1, .int 0, .int 4] (y % 14) = some (.int v) ∧ 0 ≤ v ∧ v ≤ 13 := by
        have kk : y % 14 = 0 ∨ y % 14 = 1 ∨ y % 14 = 2 ∨ y % 14 = 3 ∨ y % 14 = 4 ∨ y % 14 = 5 ∨ y % 14 = 6 ∨ y % 14 = 7 ∨ y % 14 = 8 ∨ y % 14 = 9 ∨ y % 14 = 10 ∨ y % 14 = 11 ∨ y % 14 = 12 ∨ y % 14 = 13 := by omega
        rcases kk with z | z | z | z | z | z | z | z | z | z | z | z | z | z <;> rw [z] <;> exact ⟨_, rfl, by decide, by decide⟩
      refine ⟨_, rfl, _, _, rfl, rfl, (by show (0 : Int) < 14; decide), L, _, _, _, rfl, rfl, SqL.of z1, hv, ?_⟩
      refine ⟨wl, ws, g, v, rfl, hT1.same (e24.trans s1), hG, hg, v0, v13, fun u H5 e5 hM => ?_⟩
      exact ⟨s1.trans e5, u, fun z => by omega, fun _ => hM, rfl⟩
    · have c1 : k ≠ 1 := fun z => c1 (decide_eq_true (by rw [z]))
      exact ⟨Same.refl _, x, fun _ => ⟨hx, hxn⟩, fun z => absurd z c1, rfl⟩
  clear hx hxn x
  rintro σ H5 ⟨e5, x, hx0, hx1, rfl⟩
  have e25 := e24.trans e5
  -- parties
  refine ⟨fun σ H6 => Same H5 H6 ∧ ∃ x : V, (k = 0 → GuestBad K H6 ws.length x ∧ (j = 3 ∨ j = 4 → x ≠ V.non)) ∧ (k = 1 → MatesBad K H6 ws x) ∧ (k = 2 → PartiesBad K H6 x ∨ (j % 3 = 1 ∧ OtherLen K H6 ws x)) ∧ σ = [some (.ref a), some (.int ws.length), some (.ref wl), some (.int g), some (.int k), some (.int j), some (.int y), some x, none, none, none, none], ?_, ?_⟩
  · refine ⟨_, rfl, rfl, _, rfl, ?_⟩
    refine ite2 (fun c1 => ?_) (fun c1 => ?_)
    · have c1 : k = 2 := V.int.inj (of_decide_eq_true c1)
      refine ⟨_, rfl, _, rfl, _, rfl, _, _, rfl, rfl, (by show (0 : Int) < 13; decide), ?_⟩
      refine ⟨ws.length, g, y % 13, rfl, hg, hi, by omega, by omega, fun u H6 e6 hP => ?_⟩
      refine ⟨_, rfl, _, _, rfl, rfl, (by show (0 : Int) < 3; decide), rfl, _, rfl, ?_⟩
      refine ite2 (fun c2 => ?_) (fun c2 => ?_)
      · have c2 : j % 3 = 1 := V.int.inj (of_decide_eq_true c2)
        refine ⟨_, rfl, _, _, rfl, rfl, (by show (0 : Int) < 4; decide), rfl, _, rfl, ?_⟩
        refine ite2 (fun c3 => ?_) (fun c3 => ?_)
        · refine ⟨_, rfl, _, _, rfl, rfl, _, rfl, rfl, .inr ⟨_, rfl, ?_⟩⟩
          have done : ∀ (N : Nat) (b : Addr), 1 ≤ N → N ≤ 6 → N ≠ ws.length → H6 b = none → Same H5 (upd H6 b (.lst (rgV 0 (N : Int)))) ∧ ∃ x : V, (k = 0 → GuestBad K (upd H6 b (.lst (rgV 0 (N : Int)))) ws.length x ∧ (j = 3 ∨ j = 4 → x ≠ V.non)) ∧ (k = 1 → MatesBad K (upd H6 b (.lst (rgV 0 (N : Int)))) ws x) ∧
              (k = 2 → PartiesBad K (upd H6 b (.lst (rgV 0 (N : Int)))) x ∨ (j % 3 = 1 ∧ OtherLen K (upd H6 b (.lst (rgV 0 (N : Int)))) ws x)) ∧
              [some (.ref a), some (.int ws.length), some (.ref wl), some (.int g), some (.int k), some (.int j), some (.int y), some (.ref b), none, none, none, none] = [some (.ref a), some (.int ws.length), some (.ref wl), some (.int g), some (.int k), some (.int j), some (.int y), some x, none, none, none, none] := fun N b n1 n6 nn hb =>
            ⟨e6.trans (same_new hb _), .ref b, fun z => by omega, fun z => by omega, fun _ => .inr ⟨c2, rg_other upd_same n1 n6 nn⟩, rfl⟩
          by_cases c6 : ws.length = 6
          · rw [decide_eq_true (show V.int (ws.length : Int) = V.int 6 by rw [c6]; rfl)]
            refine ⟨_, _, rfl, rfl, .inl ⟨by decide, by decide⟩, _, _, rfl, rfl, _, rfl, RgOk.of_le (by omega) (by omega) (by omega) (by omega), fun b hb => ?_⟩
            have ev : (ws.length : Int) + 1 - 2 * 1 = ((5 : Nat) : Int) := by omega
            have r := done 5 b (by omega) (by omega) (by omega) hb
            rw [← ev] at r
            exact r
          · rw [decide_eq_false (show V.int (ws.length : Int) ≠ V.int 6 from fun z => c6 (by have := V.int.inj z; omega))]
            refine ⟨_, _, rfl, rfl, .inl ⟨by decide, by decide⟩, _, _, rfl, rfl, _, rfl, RgOk.of_le (by omega) (by omega) (by omega) (by omega), fun b hb => ?_⟩
            have ev : (ws.length : Int) + 1 - 2 * 0 = ((ws.length + 1 : Nat) : Int) := by omega
            have r := done (ws.length + 1) b (by omega) (by omega) (by omega) hb
            rw [← ev] at r
            exact r
        · exact ⟨e6, u, fun z => by omega, fun z => by omega, fun _ => .inl hP, rfl⟩
      · exact ⟨e6, u, fun z => by omega, fun z => by omega, fun _ => .inl hP, rfl⟩
    · have c1 : k ≠ 2 := fun z => c1 (decide_eq_true (by rw [z]))
      exact ⟨Same.refl _, x, hx0, hx1, fun z => absurd z c1, rfl⟩
  clear hx0 hx1 x
  rintro σ H6 ⟨e6, x, hx0, hx1, hx2, rfl⟩
  have e26 := e25.trans e6
  -- a row
  refine ⟨fun σ H7 => Same H6 H7 ∧ ∃ x : V, Ask K H7 ws k j x g ∧ σ = [some (.ref a), some (.int ws.length), some (.ref wl), some (.int g), some (.int k), some (.int j), some (.int y), some x, none, none, none, none], ?_, ?_⟩
  · refine ⟨_, rfl, rfl, _, rfl, ?_⟩
    refine ite2 (fun c1 => ?_) (fun c1 => ?_)
    · have c1 : k = 3 := V.int.inj (of_decide_eq_true c1)
      refine ⟨_, rfl, _, rfl, _, rfl, ws.length, g, y, rfl, hg, fun u H7 e7 hR => ?_⟩
      exact ⟨e7, u, .inr (.inr (.inr ⟨c1, hR⟩)), rfl⟩
    · have c1 : k ≠ 3 := fun z => c1 (decide_eq_true (by rw [z]))
      have kk : k = 0 ∨ k = 1 ∨ k = 2 := by omega
      refine ⟨Same.refl _, x, ?_, rfl⟩
      rcases kk with z | z | z
      · refine .inl ⟨z, (hx0 z).1, fun w => (hx0 z).2 (by omega)⟩
      · exact .inr (.inl ⟨z, hx1 z⟩)
      · exact .inr (.inr (.inl ⟨z, hx2 z⟩))
  clear hx0 hx1 hx2 x
  rintro σ H7 ⟨e7, x, hA, rfl⟩
  have e27 := e26.trans e7
  have hT7 := hT1.same e27
  obtain ⟨as, t1, t2, t3⟩ := id hT7
  -- the Inn
  refine ⟨fun σ H8 => Same H7 H8 ∧ ∃ p t D, InnAt C D H8 p t ws (allCalm ws).head? ∧ σ = [some (.ref a), some (.int ws.length), some (.ref wl), some (.int g), some (.int k), some (.int j), some (.int y), some x, some (.ref p), none, none, none], ?_, ?_⟩
  · refine ⟨_, rfl, wl, rfl, ⟨_, t1⟩, fun L hL => ?_⟩
    refine lc_list (K := K) (a := wl) (xs := as.map V.ref) (fun i H' => Built H7 L ((ws.take i).map fun r => r.map V.int) H') (built_start hL) (fun i H' _ h => h.1.seq t1) ?_ ?_
    · rintro i x HX hx hBX
      obtain ⟨b, hb, rfl⟩ := map_ref_get hx
      have hi : i < ws.length := by rw [← t2]; exact (List.getElem?_eq_some_iff.mp hb).1
      obtain ⟨b', hb', hs⟩ := t3 i ws[i] (List.getElem?_eq_getElem hi)
      rw [hb] at hb'
      cases hb'
      refine ⟨rfl, _, rfl, b, _, rfl, .inl (hBX.1.seq hs), fun l hl => ?_⟩
      obtain ⟨acc, z1, z2, z3⟩ := built_step (f := HO.lst) (r := ws[i].map V.int) hL hBX (same_new hl _) hl upd_same
      refine ⟨acc, z1, ?_, ?_⟩
      · rw [z2, List.length_map, List.length_take]
        exact small1000 (by omega)
      · rw [take_one (List.getElem?_eq_getElem hi), List.map_append]
        exact z3
    · rintro H8 hB
      rw [List.length_map, t2, List.take_length] at hB
      intro p dx hp hdx ne
      have sM : Same H8 (upd (upd H8 dx (.own p)) p (.ins C dx [])) := (same_new hdx _).trans (same_new (by rw [upd_ne ne.symm]; exact hp) _)
      refine ⟨fun _ => False, p, dx, L, ws, rfl, upd_same, hB.tab.t.same sM, hG, (fun z => z), (fun y z => z.elim), fun H9 t kp hI => ⟨rfl, hB.1.trans fun b o z => ?_, p, t, fun _ => False, hI, rfl⟩⟩
      exact kp b o (sM _ _ z) (fun e => by rw [e, hp] at z; cases z)
  rintro σ H8 ⟨e8, p, t, D, hI8, rfl⟩
  have noW : ∀ mv, (inf t mv).lookup ("twos" : Str) = none := fun mv => inf_no _ _ (by decide +kernel) (by decide +kernel)
  have noB : ∀ mv, (inf t mv).lookup ("table" : Str) = none := fun mv => inf_no _ _ (by decide +kernel) (by decide +kernel)
  -- before
  refine ⟨fun σ H9 => Same H8 H9 ∧ ∃ v : V, DueAt H9 v (allCalm ws).head? ∧ σ = [some (.ref a), some (.int ws.length), some (.ref wl), some (.int g), some (.int k), some (.int j), some (.int y), some x, some (.ref p), some v, none, none], ?_, ?_⟩
  · obtain ⟨⟨dx, mv, h1, _⟩, _⟩ := id hI8
    exact ⟨_, rfl, p, dx, _, rfl, h1, noW mv, _, p, t, ws, _, rfl, hI8, fun v H9 e9 hN => ⟨e9, v, hN.due, rfl⟩⟩
  rintro σ H9 ⟨e9, v, hD9, rfl⟩
  have e79 := e8.trans e9
  -- handed
  refine ⟨fun σ H10 => ∃ hd, Same H9 H10 ∧ Tab K H10 hd ws ∧ σ = [some (.ref a), some (.int ws.length), some (.ref wl), some (.int g), some (.int k), some (.int j), some (.int y), some x, some (.ref p), some v, some (.ref hd), none], ?_, ?_⟩
  · refine ⟨_, rfl, wl, rfl, ⟨_, e79.seq t1⟩, fun L hL => ?_⟩
    refine lc_list (K := K) (a := wl) (xs := as.map V.ref) (fun i H' => Built H9 L ((ws.take i).map fun r => r.map V.int) H') (built_start hL) (fun i H' _ h => h.1.seq (e79.seq t1)) ?_ ?_
    · rintro i x HX hx hBX
      obtain ⟨b, hb, rfl⟩ := map_ref_get hx
      have hi : i < ws.length := by rw [← t2]; exact (List.getElem?_eq_some_iff.mp hb).1
      obtain ⟨b', hb', hs⟩ := t3 i ws[i] (List.getElem?_eq_getElem hi)
      rw [hb] at hb'
      cases hb'
      refine ⟨rfl, _, rfl, b, _, rfl, .inl (hBX.1.seq (e79.seq hs)), fun l hl => ?_⟩
      obtain ⟨acc, z1, z2, z3⟩ := built_step (f := HO.lst) (r := ws[i].map V.int) hL hBX (same_new hl _) hl upd_same
      refine ⟨acc, z1, ?_, ?_⟩
      · rw [z2, List.length_map, List.length_take]
        exact small1000 (by omega)
      · rw [take_one (List.getElem?_eq_getElem hi), List.map_append]
        exact z3
    · rintro H10 hB
      rw [List.length_map, t2, List.take_length] at hB
      exact ⟨L, hB.1, hB.tab.t, rfl⟩
  rintro σ H10 ⟨hd, e10, hT10, rfl⟩
  have e7_10 := e79.trans e10
  have hI10 := inn_same hI8 (e9.trans e10)
  have hA10 : Ask K H10 ws k j x g := by
    rcases hA with ⟨z, h, n⟩ | ⟨z, h⟩ | ⟨z, h⟩ | ⟨z, h⟩
    · exact .inl ⟨z, h.same e7_10, n⟩
    · exact .inr (.inl ⟨z, h.same e7_10⟩)
    · refine .inr (.inr (.inl ⟨z, ?_⟩))
      rcases h with h | ⟨hj, b, ns, r1, r2, r3⟩
      · exact .inl (h.same e7_10)
      · exact .inr ⟨hj, b, ns, r1, e7_10.seq r2, r3⟩
    · exact .inr (.inr (.inr ⟨z, h.same e7_10⟩))
  have e1_10 := e27.trans e7_10
  -- it is refused
  refine ⟨fun σ H11 => Same H10 H11 ∧ σ = [some (.ref a), some (.int ws.length), some (.ref wl), some (.int g), some (.int k), some (.int j), some (.int y), some x, some (.ref p), some v, some (.ref hd), none], ?_, ?_⟩
  · refine ⟨_, rfl, a, cs, 1, rfl, e1_10.seq hS1, by decide, fun c => ?_⟩
    refine ⟨_, _, rfl, rfl, ⟨by decide, by decide⟩, _, _, rfl, rfl, (by show (0 : Int) < 2; decide), rfl, _, rfl, ?_⟩
    refine ite2 (fun c1 => ?_) (fun c1 => ?_)
    · refine ⟨_, rfl, _, rfl, _, rfl, _, rfl, _, rfl, _, rfl, D, hd, p, t, ws, _, k, j, x, g, rfl, hT10, hG, hI10, hg, hA10, fun H11 e11 => ?_⟩
      exact ⟨_, rfl, iteF ⟨e11, rfl⟩⟩
    · refine ⟨_, rfl, _, rfl, _, rfl, _, rfl, _, rfl, _, rfl, D, hd, p, t, ws, _, k, j, x, g, rfl, hT10, hG, hI10, hg, hA10, fun H11 e11 => ?_⟩
      refine ⟨_, rfl, rfl, _, rfl, ?_⟩
      rw [decide_eq_true (rfl : V.int k = V.int k)]
      exact iteF ⟨e11, rfl⟩
  rintro σ H11 ⟨e11, rfl⟩
  have hI11 := inn_same hI10 e11
  have hD11 := hD9.same (e10.trans e11)
  obtain ⟨⟨dx, mv, h1, _⟩, _⟩ := id hI11
  refine ⟨_, rfl, p, dx, _, rfl, h1, noW mv, _, p, t, ws, _, rfl, hI11, fun v2 H12 e12 hN => ?_⟩
  refine ⟨_, rfl, _, _, hN.due.dp, (hD11.same e12).dp, dO_shaped _, dO_shaped _, _, rfl, ?_⟩
  rw [dO_refl]
  refine iteT ?_
  have hI12 := inn_same hI11 e12
  refine ⟨_, rfl, p, dx, _, rfl, e12 _ _ h1, noB mv, _, p, t, ws, _, rfl, hI12, hi, fun H13 tl htl hB13 => ?_⟩
  have e1_13 := e1_10.trans (e11.trans (e12.trans hB13.1))
  refine ⟨_, rfl, _, _, hB13.tab.dp (plain_ints ws), (hT1.same e1_13).dp, dLL_shaped _, dLL_shaped _, _, rfl, ?_⟩
  rw [dLL_refl]
  refine iteT ?_
  refine ⟨_, rfl, _, rfl, _, _, ((hT10.same (e11.trans (e12.trans hB13.1))).dp), (hT1.same e1_13).dp, dLL_shaped _, dLL_shaped _, ?_⟩
  rw [dLL_refl]
  exact q _
end
end B2

namespace B2
open PySem L2
theorem all_mk {l : PySem.W.OpenLaw} {w : World} {K : PySem.W.Frag} {h : Heap} {mg : Str → Option Value} {fa : Addr} (X : K.In h) (G : h.Ns mainGlobals mg) (hfa : mg "law" = some (.ref fa))
    {f1 f2 f3 f4 f5 f6 f7 f8 f9 f10 f11 f12 f13 f14 f15 f16 f17 f18 f19 f20 f21 f22 f23 f24 f25 f26 f27 f28 f29 f30 f31 : Addr} {od1 an1 od2 an2 od3 an3 od4 an4 od5 an5 od6 an6 od7 an7 od8 an8 od9 an9 od10 an10 od11 an11 od12 an12 od13 an13 od14 an14 od15 an15 od16 an16 od17 an17 od18 an18 od19 an19 od20 an20 od21 an21 od22 an22 od23 an23 od24 an24 od25 an25 od26 an26 od27 an27 od28 an28 od29 an29 od30 an30 od31 an31 : Option Addr} {sl1 sl2 sl3 sl4 sl5 sl6 sl7 sl8 sl9 sl10 sl11 sl12 sl13 sl14 sl15 sl16 sl17 sl18 sl19 sl20 sl21 sl22 sl23 sl24 sl25 sl26 sl27 sl28 sl29 sl30 sl31 : Array (Option Value)} {oc1 kV1 dc1 pm1 cd1 ct1 oc2 kV2 dc2 pm2 cd2 ct2 oc3 kV3 dc3 pm3 cd3 ct3 oc4 kV4 dc4 pm4 cd4 ct4 oc5 kV5 dc5 pm5 cd5 ct5 oc6 kV6 dc6 pm6 cd6 ct6 oc7 kV7 dc7 pm7 cd7 ct7 oc8 kV8 dc8 pm8 cd8 ct8 oc9 kV9 dc9 pm9 cd9 ct9 oc10 kV10 dc10 pm10 cd10 ct10 oc11 kV11 dc11 pm11 cd11 ct11 oc12 kV12 dc12 pm12 cd12 ct12 oc13 kV13 dc13 pm13 cd13 ct13 oc14 kV14 dc14 pm14 cd14 ct14 oc15 kV15 dc15 pm15 cd15 ct15 oc16 kV16 dc16 pm16 cd16 ct16 oc17 kV17 dc17 pm17 cd17 ct17 oc18 kV18 dc18 pm18 cd18 ct18 oc19 kV19 dc19 pm19 cd19 ct19 oc20 kV20 dc20 pm20 cd20 ct20 oc21 kV21 dc21 pm21 cd21 ct21 oc22 kV22 dc22 pm22 cd22 ct22 oc23 kV23 dc23 pm23 cd23 ct23 oc24 kV24 dc24 pm24 cd24 ct24 oc25 kV25 dc25 pm25 cd25 ct25 oc26 kV26 dc26 pm26 cd26 ct26 oc27 kV27 dc27 pm27 cd27 ct27 oc28 kV28 dc28 pm28 cd28 ct28 oc29 kV29 dc29 pm29 cd29 ct29 oc30 kV30 dc30 pm30 cd30 ct30 oc31 kV31 dc31 pm31 cd31 ct31 : Value}
    (a1 : PySem.W.nsIn K mainGlobals "is_guest" = some (some (.ref f1))) (l1 : K.lookup f1 = some ⟨oc1, od1, .func (PySem.W.fnOf "is_guest" "is_guest" (defArgs s_is_guest) (defBody s_is_guest) (defScope s_is_guest) .none kV1 dc1 pm1 an1 cd1 ct1), sl1⟩) (c1 : PySem.W.codeIn K cd1 "is_guest" = true) (k1 : PySem.W.keepIn K (.ref f1) = true)
    (a2 : PySem.W.nsIn K mainGlobals "need_row" = some (some (.ref f2))) (l2 : K.lookup f2 = some ⟨oc2, od2, .func (PySem.W.fnOf "need_row" "need_row" (defArgs s_need_row) (defBody s_need_row) (defScope s_need_row) .none kV2 dc2 pm2 an2 cd2 ct2), sl2⟩) (c2 : PySem.W.codeIn K cd2 "need_row" = true) (k2 : PySem.W.keepIn K (.ref f2) = true)
    (a3 : PySem.W.nsIn K mainGlobals "need_wishes" = some (some (.ref f3))) (l3 : K.lookup f3 = some ⟨oc3, od3, .func (PySem.W.fnOf "need_wishes" "need_wishes" (defArgs s_need_wishes) (defBody s_need_wishes) (defScope s_need_wishes) .none kV3 dc3 pm3 an3 cd3 ct3), sl3⟩) (c3 : PySem.W.codeIn K cd3 "need_wishes" = true) (k3 : PySem.W.keepIn K (.ref f3) = true)
    (a4 : PySem.W.nsIn K mainGlobals "need_guest" = some (some (.ref f4))) (l4 : K.lookup f4 = some ⟨oc4, od4, .func (PySem.W.fnOf "need_guest" "need_guest" (defArgs s_need_guest) (defBody s_need_guest) (defScope s_need_guest) .none kV4 dc4 pm4 an4 cd4 ct4), sl4⟩) (c4 : PySem.W.codeIn K cd4 "need_guest" = true) (k4 : PySem.W.keepIn K (.ref f4) = true)
    (a5 : PySem.W.nsIn K mainGlobals "in_both" = some (some (.ref f5))) (l5 : K.lookup f5 = some ⟨oc5, od5, .func (PySem.W.fnOf "in_both" "in_both" (defArgs s_in_both) (defBody s_in_both) (defScope s_in_both) .none kV5 dc5 pm5 an5 cd5 ct5), sl5⟩) (c5 : PySem.W.codeIn K cd5 "in_both" = true) (k5 : PySem.W.keepIn K (.ref f5) = true)
    (a6 : PySem.W.nsIn K mainGlobals "is_ahead" = some (some (.ref f6))) (l6 : K.lookup f6 = some ⟨oc6, od6, .func (PySem.W.fnOf "is_ahead" "is_ahead" (defArgs s_is_ahead) (defBody s_is_ahead) (defScope s_is_ahead) .none kV6 dc6 pm6 an6 cd6 ct6), sl6⟩) (c6 : PySem.W.codeIn K cd6 "is_ahead" = true) (k6 : PySem.W.keepIn K (.ref f6) = true)
    (a7 : PySem.W.nsIn K mainGlobals "suits" = some (some (.ref f7))) (l7 : K.lookup f7 = some ⟨oc7, od7, .func (PySem.W.fnOf "suits" "suits" (defArgs s_suits) (defBody s_suits) (defScope s_suits) .none kV7 dc7 pm7 an7 cd7 ct7), sl7⟩) (c7 : PySem.W.codeIn K cd7 "suits" = true) (k7 : PySem.W.keepIn K (.ref f7) = true)
    (a8 : PySem.W.nsIn K mainGlobals "rather" = some (some (.ref f8))) (l8 : K.lookup f8 = some ⟨oc8, od8, .func (PySem.W.fnOf "rather" "rather" (defArgs s_rather) (defBody s_rather) (defScope s_rather) .none kV8 dc8 pm8 an8 cd8 ct8), sl8⟩) (c8 : PySem.W.codeIn K cd8 "rather" = true) (k8 : PySem.W.keepIn K (.ref f8) = true)
    (a9 : PySem.W.nsIn K mainGlobals "need_mates" = some (some (.ref f9))) (l9 : K.lookup f9 = some ⟨oc9, od9, .func (PySem.W.fnOf "need_mates" "need_mates" (defArgs s_need_mates) (defBody s_need_mates) (defScope s_need_mates) .none kV9 dc9 pm9 an9 cd9 ct9), sl9⟩) (c9 : PySem.W.codeIn K cd9 "need_mates" = true) (k9 : PySem.W.keepIn K (.ref f9) = true)
    (a10 : PySem.W.nsIn K mainGlobals "restless_pairs" = some (some (.ref f10))) (l10 : K.lookup f10 = some ⟨oc10, od10, .func (PySem.W.fnOf "restless_pairs" "restless_pairs" (defArgs s_restless_pairs) (defBody s_restless_pairs) (defScope s_restless_pairs) .none kV10 dc10 pm10 an10 cd10 ct10), sl10⟩) (c10 : PySem.W.codeIn K cd10 "restless_pairs" = true) (k10 : PySem.W.keepIn K (.ref f10) = true)
    (a11 : PySem.W.nsIn K mainGlobals "restless" = some (some (.ref f11))) (l11 : K.lookup f11 = some ⟨oc11, od11, .func (PySem.W.fnOf "restless" "restless" (defArgs s_restless) (defBody s_restless) (defScope s_restless) .none kV11 dc11 pm11 an11 cd11 ct11), sl11⟩) (c11 : PySem.W.codeIn K cd11 "restless" = true) (k11 : PySem.W.keepIn K (.ref f11) = true)
    (a12 : PySem.W.nsIn K mainGlobals "calm" = some (some (.ref f12))) (l12 : K.lookup f12 = some ⟨oc12, od12, .func (PySem.W.fnOf "calm" "calm" (defArgs s_calm) (defBody s_calm) (defScope s_calm) .none kV12 dc12 pm12 an12 cd12 ct12), sl12⟩) (c12 : PySem.W.codeIn K cd12 "calm" = true) (k12 : PySem.W.keepIn K (.ref f12) = true)
    (a13 : PySem.W.nsIn K mainGlobals "joined" = some (some (.ref f13))) (l13 : K.lookup f13 = some ⟨oc13, od13, .func (PySem.W.fnOf "joined" "joined" (defArgs s_joined) (defBody s_joined) (defScope s_joined) .none kV13 dc13 pm13 an13 cd13 ct13), sl13⟩) (c13 : PySem.W.codeIn K cd13 "joined" = true) (k13 : PySem.W.keepIn K (.ref f13) = true)
    (a14 : PySem.W.nsIn K mainGlobals "settled" = some (some (.ref f14))) (l14 : K.lookup f14 = some ⟨oc14, od14, .func (PySem.W.fnOf "settled" "settled" (defArgs s_settled) (defBody s_settled) (defScope s_settled) .none kV14 dc14 pm14 an14 cd14 ct14), sl14⟩) (c14 : PySem.W.codeIn K cd14 "settled" = true) (k14 : PySem.W.keepIn K (.ref f14) = true)
    (a15 : PySem.W.nsIn K mainGlobals "all_twos" = some (some (.ref f15))) (l15 : K.lookup f15 = some ⟨oc15, od15, .func (PySem.W.fnOf "all_twos" "all_twos" (defArgs s_all_twos) (defBody s_all_twos) (defScope s_all_twos) .none kV15 dc15 pm15 an15 cd15 ct15), sl15⟩) (c15 : PySem.W.codeIn K cd15 "all_twos" = true) (k15 : PySem.W.keepIn K (.ref f15) = true)
    (a16 : PySem.W.nsIn K mainGlobals "all_calm" = some (some (.ref f16))) (l16 : K.lookup f16 = some ⟨oc16, od16, .func (PySem.W.fnOf "all_calm" "all_calm" (defArgs s_all_calm) (defBody s_all_calm) (defScope s_all_calm) .none kV16 dc16 pm16 an16 cd16 ct16), sl16⟩) (c16 : PySem.W.codeIn K cd16 "all_calm" = true) (k16 : PySem.W.keepIn K (.ref f16) = true)
    (a17 : PySem.W.nsIn K mainGlobals "need_parties" = some (some (.ref f17))) (l17 : K.lookup f17 = some ⟨oc17, od17, .func (PySem.W.fnOf "need_parties" "need_parties" (defArgs s_need_parties) (defBody s_need_parties) (defScope s_need_parties) .none kV17 dc17 pm17 an17 cd17 ct17), sl17⟩) (c17 : PySem.W.codeIn K cd17 "need_parties" = true) (k17 : PySem.W.keepIn K (.ref f17) = true)
    (a18 : PySem.W.nsIn K mainGlobals "rings" = some (some (.ref f18))) (l18 : K.lookup f18 = some ⟨oc18, od18, .func (PySem.W.fnOf "rings" "rings" (defArgs s_rings) (defBody s_rings) (defScope s_rings) .none kV18 dc18 pm18 an18 cd18 ct18), sl18⟩) (c18 : PySem.W.codeIn K cd18 "rings" = true) (k18 : PySem.W.keepIn K (.ref f18) = true)
    (a19 : PySem.W.nsIn K mainGlobals "holds" = some (some (.ref f19))) (l19 : K.lookup f19 = some ⟨oc19, od19, .func (PySem.W.fnOf "holds" "holds" (defArgs s_holds) (defBody s_holds) (defScope s_holds) .none kV19 dc19 pm19 an19 cd19 ct19), sl19⟩) (c19 : PySem.W.codeIn K cd19 "holds" = true) (k19 : PySem.W.keepIn K (.ref f19) = true)
    (a20 : PySem.W.nsIn K mainGlobals "paired" = some (some (.ref f20))) (l20 : K.lookup f20 = some ⟨oc20, od20, .func (PySem.W.fnOf "paired" "paired" (defArgs s_paired) (defBody s_paired) (defScope s_paired) .none kV20 dc20 pm20 an20 cd20 ct20), sl20⟩) (c20 : PySem.W.codeIn K cd20 "paired" = true) (k20 : PySem.W.keepIn K (.ref f20) = true)
    (a21 : PySem.W.nsIn K mainGlobals "_law_cell_at" = some (some (.ref f21))) (l21 : K.lookup f21 = some ⟨oc21, od21, .func (PySem.W.fnOf "_law_cell_at" "_law_cell_at" (defArgs s_cell_at) (defBody s_cell_at) (defScope s_cell_at) .none kV21 dc21 pm21 an21 cd21 ct21), sl21⟩) (c21 : PySem.W.codeIn K cd21 "_law_cell_at" = true) (k21 : PySem.W.keepIn K (.ref f21) = true)
    (a22 : PySem.W.nsIn K mainGlobals "_law_row_by" = some (some (.ref f22))) (l22 : K.lookup f22 = some ⟨oc22, od22, .func (PySem.W.fnOf "_law_row_by" "_law_row_by" (defArgs s_row_by) (defBody s_row_by) (defScope s_row_by) .none kV22 dc22 pm22 an22 cd22 ct22), sl22⟩) (c22 : PySem.W.codeIn K cd22 "_law_row_by" = true) (k22 : PySem.W.keepIn K (.ref f22) = true)
    (a23 : PySem.W.nsIn K mainGlobals "_law_wishes_by" = some (some (.ref f23))) (l23 : K.lookup f23 = some ⟨oc23, od23, .func (PySem.W.fnOf "_law_wishes_by" "_law_wishes_by" (defArgs s_wishes_by) (defBody s_wishes_by) (defScope s_wishes_by) .none kV23 dc23 pm23 an23 cd23 ct23), sl23⟩) (c23 : PySem.W.codeIn K cd23 "_law_wishes_by" = true) (k23 : PySem.W.keepIn K (.ref f23) = true)
    (a24 : PySem.W.nsIn K mainGlobals "_law_guest_asked" = some (some (.ref f24))) (l24 : K.lookup f24 = some ⟨oc24, od24, .func (PySem.W.fnOf "_law_guest_asked" "_law_guest_asked" (defArgs s_lguest_asked) (defBody s_lguest_asked) (defScope s_lguest_asked) .none kV24 dc24 pm24 an24 cd24 ct24), sl24⟩) (c24 : PySem.W.codeIn K cd24 "_law_guest_asked" = true) (k24 : PySem.W.keepIn K (.ref f24) = true)
    (a25 : PySem.W.nsIn K mainGlobals "_law_asked" = some (some (.ref f25))) (l25 : K.lookup f25 = some ⟨oc25, od25, .func (PySem.W.fnOf "_law_asked" "_law_asked" (defArgs s_lasked) (defBody s_lasked) (defScope s_lasked) .none kV25 dc25 pm25 an25 cd25 ct25), sl25⟩) (c25 : PySem.W.codeIn K cd25 "_law_asked" = true) (k25 : PySem.W.keepIn K (.ref f25) = true)
    (a26 : PySem.W.nsIn K mainGlobals "_law_told" = some (some (.ref f26))) (l26 : K.lookup f26 = some ⟨oc26, od26, .func (PySem.W.fnOf "_law_told" "_law_told" (defArgs s_ltold) (defBody s_ltold) (defScope s_ltold) .none kV26 dc26 pm26 an26 cd26 ct26), sl26⟩) (c26 : PySem.W.codeIn K cd26 "_law_told" = true) (k26 : PySem.W.keepIn K (.ref f26) = true)
    (a27 : PySem.W.nsIn K mainGlobals "_law_based" = some (some (.ref f27))) (l27 : K.lookup f27 = some ⟨oc27, od27, .func (PySem.W.fnOf "_law_based" "_law_based" (defArgs s_lbased) (defBody s_lbased) (defScope s_lbased) .none kV27 dc27 pm27 an27 cd27 ct27), sl27⟩) (c27 : PySem.W.codeIn K cd27 "_law_based" = true) (k27 : PySem.W.keepIn K (.ref f27) = true)
    (a28 : PySem.W.nsIn K mainGlobals "_law_bad_mates" = some (some (.ref f28))) (l28 : K.lookup f28 = some ⟨oc28, od28, .func (PySem.W.fnOf "_law_bad_mates" "_law_bad_mates" (defArgs s_lbad_mates) (defBody s_lbad_mates) (defScope s_lbad_mates) .none kV28 dc28 pm28 an28 cd28 ct28), sl28⟩) (c28 : PySem.W.codeIn K cd28 "_law_bad_mates" = true) (k28 : PySem.W.keepIn K (.ref f28) = true)
    (a29 : PySem.W.nsIn K mainGlobals "_law_bad_after" = some (some (.ref f29))) (l29 : K.lookup f29 = some ⟨oc29, od29, .func (PySem.W.fnOf "_law_bad_after" "_law_bad_after" (defArgs s_lbad_after) (defBody s_lbad_after) (defScope s_lbad_after) .none kV29 dc29 pm29 an29 cd29 ct29), sl29⟩) (c29 : PySem.W.codeIn K cd29 "_law_bad_after" = true) (k29 : PySem.W.keepIn K (.ref f29) = true)
    (a30 : PySem.W.nsIn K mainGlobals "_law_bad_row" = some (some (.ref f30))) (l30 : K.lookup f30 = some ⟨oc30, od30, .func (PySem.W.fnOf "_law_bad_row" "_law_bad_row" (defArgs s_lbad_row) (defBody s_lbad_row) (defScope s_lbad_row) .none kV30 dc30 pm30 an30 cd30 ct30), sl30⟩) (c30 : PySem.W.codeIn K cd30 "_law_bad_row" = true) (k30 : PySem.W.keepIn K (.ref f30) = true)
    (a31 : PySem.W.nsIn K mainGlobals "law" = some (some (.ref f31))) (l31 : K.lookup f31 = some ⟨oc31, od31, .func (PySem.W.fnOf "law" "law" (defArgs s_law) (defBody s_law) (defScope s_law) .none kV31 dc31 pm31 an31 cd31 ct31), sl31⟩) (c31 : PySem.W.codeIn K cd31 "law" = true) (k31 : PySem.W.keepIn K (.ref f31) = true)
    (z_len : PySem.W.nsIn K mainGlobals "len" = some none)
    (z_rng : PySem.W.nsIn K mainGlobals "range" = some none)
    (z_isI : PySem.W.nsIn K mainGlobals "isinstance" = some none)
    (z_int : PySem.W.nsIn K mainGlobals "int" = some none)
    (z_bool : PySem.W.nsIn K mainGlobals "bool" = some none)
    (z_list : PySem.W.nsIn K mainGlobals "list" = some none)
    (z_set : PySem.W.nsIn K mainGlobals "set" = some none)
    (z_enm : PySem.W.nsIn K mainGlobals "enumerate" = some none)
    (z_all : PySem.W.nsIn K mainGlobals "all" = some none)
    (z_tup : PySem.W.nsIn K mainGlobals "tuple" = some none)
    {t_mg : Tok} (y_mg : PySem.W.nsIn K mainGlobals "MOST_GUESTS" = some (some (.int 6 t_mg)))
    {e_BadWishes : Addr} (g_BadWishes : PySem.W.nsIn K mainGlobals "BadWishes" = some (some (.ref e_BadWishes)))
    {e_BadGuest : Addr} (g_BadGuest : PySem.W.nsIn K mainGlobals "BadGuest" = some (some (.ref e_BadGuest)))
    {e_BadMates : Addr} (g_BadMates : PySem.W.nsIn K mainGlobals "BadMates" = some (some (.ref e_BadMates)))
    {e_BadParties : Addr} (g_BadParties : PySem.W.nsIn K mainGlobals "BadParties" = some (some (.ref e_BadParties)))
    {e_BedError : Addr} (g_BedError : PySem.W.nsIn K mainGlobals "BedError" = some (some (.ref e_BedError)))
    {e_NoNote : Addr} (g_NoNote : PySem.W.nsIn K mainGlobals "NoNote" = some (some (.ref e_NoNote)))
    {e_Inn : Addr} (g_Inn : PySem.W.nsIn K mainGlobals "Inn" = some (some (.ref e_Inn)))
    {fI : Addr} {odI anI : Option Addr} {slI : Array (Option Value)} {ocI kVI dcI pmI cdI ctI : Value}
    {fT : Addr} {odT anT : Option Addr} {slT : Array (Option Value)} {ocT kVT dcT pmT cdT ctT : Value}
    {fW : Addr} {odW anW : Option Addr} {slW : Array (Option Value)} {ocW kVW dcW pmW cdW ctW : Value}
    {fB : Addr} {odB anB : Option Addr} {slB : Array (Option Value)} {ocB kVB dcB pmB cdB ctB : Value}
    {fS : Addr} {odS anS : Option Addr} {slS : Array (Option Value)} {ocS kVS dcS pmS cdS ctS : Value}
    (w1BadWishes : PySem.W.excIn K e_BadWishes [.type "ValueError", .type "Exception", .type "BaseException", .type "object"] "ValueError.__new__" = true)
    (w2BadWishes : PySem.W.keepIn K (.ref e_BadWishes) = true)
    (y1BadWishes : PySem.W.findIn K (.ref e_BadWishes) "__getattribute__" = some (some (.builtin "BaseException.__getattribute__")))
    (y2BadWishes : PySem.W.findIn K (.ref e_BadWishes) "__getattr__" = some none)
    (y5BadWishes : PySem.W.findIn K (.ref e_BadWishes) "__class__" = some (some (.builtin "object.__class__")))
    (y8BadWishes : PySem.W.mroIn K e_BadWishes (.type "object") = some true)
    (w1BadGuest : PySem.W.excIn K e_BadGuest [.type "ValueError", .type "Exception", .type "BaseException", .type "object"] "ValueError.__new__" = true)
    (w2BadGuest : PySem.W.keepIn K (.ref e_BadGuest) = true)
    (y1BadGuest : PySem.W.findIn K (.ref e_BadGuest) "__getattribute__" = some (some (.builtin "BaseException.__getattribute__")))
    (y2BadGuest : PySem.W.findIn K (.ref e_BadGuest) "__getattr__" = some none)
    (y5BadGuest : PySem.W.findIn K (.ref e_BadGuest) "__class__" = some (some (.builtin "object.__class__")))
    (y8BadGuest : PySem.W.mroIn K e_BadGuest (.type "object") = some true)
    (w1BadMates : PySem.W.excIn K e_BadMates [.type "ValueError", .type "Exception", .type "BaseException", .type "object"] "ValueError.__new__" = true)
    (w2BadMates : PySem.W.keepIn K (.ref e_BadMates) = true)
    (y1BadMates : PySem.W.findIn K (.ref e_BadMates) "__getattribute__" = some (some (.builtin "BaseException.__getattribute__")))
    (y2BadMates : PySem.W.findIn K (.ref e_BadMates) "__getattr__" = some none)
    (y5BadMates : PySem.W.findIn K (.ref e_BadMates) "__class__" = some (some (.builtin "object.__class__")))
    (y8BadMates : PySem.W.mroIn K e_BadMates (.type "object") = some true)
    (w1BadParties : PySem.W.excIn K e_BadParties [.type "ValueError", .type "Exception", .type "BaseException", .type "object"] "ValueError.__new__" = true)
    (w2BadParties : PySem.W.keepIn K (.ref e_BadParties) = true)
    (y1BadParties : PySem.W.findIn K (.ref e_BadParties) "__getattribute__" = some (some (.builtin "BaseException.__getattribute__")))
    (y2BadParties : PySem.W.findIn K (.ref e_BadParties) "__getattr__" = some none)
    (y5BadParties : PySem.W.findIn K (.ref e_BadParties) "__class__" = some (some (.builtin "object.__class__")))
    (y8BadParties : PySem.W.mroIn K e_BadParties (.type "object") = some true)
    (d_BadWishes : PySem.W.hasDictIn K e_BadWishes = true)
    (t_BadWishes : PySem.W.typeIn K (.ref e_BadWishes) = some (.type "type"))
    (b_BadWishes : PySem.W.subIn K (.ref e_BadWishes) (.type "BaseException") = some true)
    (d_BadGuest : PySem.W.hasDictIn K e_BadGuest = true)
    (t_BadGuest : PySem.W.typeIn K (.ref e_BadGuest) = some (.type "type"))
    (b_BadGuest : PySem.W.subIn K (.ref e_BadGuest) (.type "BaseException") = some true)
    (d_BadMates : PySem.W.hasDictIn K e_BadMates = true)
    (t_BadMates : PySem.W.typeIn K (.ref e_BadMates) = some (.type "type"))
    (b_BadMates : PySem.W.subIn K (.ref e_BadMates) (.type "BaseException") = some true)
    (d_BadParties : PySem.W.hasDictIn K e_BadParties = true)
    (t_BadParties : PySem.W.typeIn K (.ref e_BadParties) = some (.type "type"))
    (b_BadParties : PySem.W.subIn K (.ref e_BadParties) (.type "BaseException") = some true)
    (d_BedError : PySem.W.hasDictIn K e_BedError = true)
    (t_BedError : PySem.W.typeIn K (.ref e_BedError) = some (.type "type"))
    (b_BedError : PySem.W.subIn K (.ref e_BedError) (.type "BaseException") = some true)
    (d_NoNote : PySem.W.hasDictIn K e_NoNote = true)
    (t_NoNote : PySem.W.typeIn K (.ref e_NoNote) = some (.type "type"))
    (b_NoNote : PySem.W.subIn K (.ref e_NoNote) (.type "BaseException") = some true)
    (zV : PySem.W.nsIn K mainGlobals "ValueError" = some none)
    (y6 : PySem.W.specialIn K (.builtin "object.__class__") "__get__" = some (some (.builtin "getset_descriptor.__get__")))
    (y7 : PySem.W.takesIn K (.builtin "object.__class__") = some true)
    (s_BadWishes_BadWishes : PySem.W.subIn K (.ref e_BadWishes) (.ref e_BadWishes) = some true)
    (s_BadWishes_BadGuest : PySem.W.subIn K (.ref e_BadWishes) (.ref e_BadGuest) = some false)
    (s_BadWishes_BadMates : PySem.W.subIn K (.ref e_BadWishes) (.ref e_BadMates) = some false)
    (s_BadWishes_BadParties : PySem.W.subIn K (.ref e_BadWishes) (.ref e_BadParties) = some false)
    (s_BadWishes_BedError : PySem.W.subIn K (.ref e_BadWishes) (.ref e_BedError) = some true)
    (s_BadWishes_NoNote : PySem.W.subIn K (.ref e_BadWishes) (.ref e_NoNote) = some false)
    (s_BadWishes_VE : PySem.W.subIn K (.ref e_BadWishes) (.type "ValueError") = some true)
    (s_BadGuest_BadWishes : PySem.W.subIn K (.ref e_BadGuest) (.ref e_BadWishes) = some false)
    (s_BadGuest_BadGuest : PySem.W.subIn K (.ref e_BadGuest) (.ref e_BadGuest) = some true)
    (s_BadGuest_BadMates : PySem.W.subIn K (.ref e_BadGuest) (.ref e_BadMates) = some false)
    (s_BadGuest_BadParties : PySem.W.subIn K (.ref e_BadGuest) (.ref e_BadParties) = some false)
    (s_BadGuest_BedError : PySem.W.subIn K (.ref e_BadGuest) (.ref e_BedError) = some true)
    (s_BadGuest_NoNote : PySem.W.subIn K (.ref e_BadGuest) (.ref e_NoNote) = some false)
    (s_BadGuest_VE : PySem.W.subIn K (.ref e_BadGuest) (.type "ValueError") = some true)
    (s_BadMates_BadWishes : PySem.W.subIn K (.ref e_BadMates) (.ref e_BadWishes) = some false)
    (s_BadMates_BadGuest : PySem.W.subIn K (.ref e_BadMates) (.ref e_BadGuest) = some false)
    (s_BadMates_BadMates : PySem.W.subIn K (.ref e_BadMates) (.ref e_BadMates) = some true)
    (s_BadMates_BadParties : PySem.W.subIn K (.ref e_BadMates) (.ref e_BadParties) = some false)
    (s_BadMates_BedError : PySem.W.subIn K (.ref e_BadMates) (.ref e_BedError) = some true)
    (s_BadMates_NoNote : PySem.W.subIn K (.ref e_BadMates) (.ref e_NoNote) = some false)
    (s_BadMates_VE : PySem.W.subIn K (.ref e_BadMates) (.type "ValueError") = some true)
    (s_BadParties_BadWishes : PySem.W.subIn K (.ref e_BadParties) (.ref e_BadWishes) = some false)
    (s_BadParties_BadGuest : PySem.W.subIn K (.ref e_BadParties) (.ref e_BadGuest) = some false)
    (s_BadParties_BadMates : PySem.W.subIn K (.ref e_BadParties) (.ref e_BadMates) = some false)
    (s_BadParties_BadParties : PySem.W.subIn K (.ref e_BadParties) (.ref e_BadParties) = some true)
    (s_BadParties_BedError : PySem.W.subIn K (.ref e_BadParties) (.ref e_BedError) = some true)
    (s_BadParties_NoNote : PySem.W.subIn K (.ref e_BadParties) (.ref e_NoNote) = some false)
    (s_BadParties_VE : PySem.W.subIn K (.ref e_BadParties) (.type "ValueError") = some true)
    (aI : PySem.W.findIn K (.ref e_Inn) "__init__" = some (some (.ref fI)))
    (iI : PySem.W.isFn K (.ref fI) = true)
    (lI : K.lookup fI = some ⟨ocI, odI, .func (PySem.W.fnOf "__init__" "Inn.__init__" (defArgs s_inn_init) (defBody s_inn_init) (defScope s_inn_init) .none kVI dcI pmI anI cdI ctI), slI⟩)
    (cI : PySem.W.codeIn K cdI "Inn.__init__" = true)
    (kI : PySem.W.keepIn K (.ref fI) = true)
    (aT : PySem.W.findIn K (.ref e_Inn) "turn" = some (some (.ref fT)))
    (iT : PySem.W.isFn K (.ref fT) = true)
    (lT : K.lookup fT = some ⟨ocT, odT, .func (PySem.W.fnOf "turn" "Inn.turn" (defArgs s_inn_turn) (defBody s_inn_turn) (defScope s_inn_turn) .none kVT dcT pmT anT cdT ctT), slT⟩)
    (cT : PySem.W.codeIn K cdT "Inn.turn" = true)
    (kT : PySem.W.keepIn K (.ref fT) = true)
    (aW : PySem.W.findIn K (.ref e_Inn) "twos" = some (some (.ref fW)))
    (iW : PySem.W.isFn K (.ref fW) = true)
    (lW : K.lookup fW = some ⟨ocW, odW, .func (PySem.W.fnOf "twos" "Inn.twos" (defArgs s_inn_twos) (defBody s_inn_twos) (defScope s_inn_twos) .none kVW dcW pmW anW cdW ctW), slW⟩)
    (cW : PySem.W.codeIn K cdW "Inn.twos" = true)
    (kW : PySem.W.keepIn K (.ref fW) = true)
    (aB : PySem.W.findIn K (.ref e_Inn) "table" = some (some (.ref fB)))
    (iB : PySem.W.isFn K (.ref fB) = true)
    (lB : K.lookup fB = some ⟨ocB, odB, .func (PySem.W.fnOf "table" "Inn.table" (defArgs s_inn_table) (defBody s_inn_table) (defScope s_inn_table) .none kVB dcB pmB anB cdB ctB), slB⟩)
    (cB : PySem.W.codeIn K cdB "Inn.table" = true)
    (kB : PySem.W.keepIn K (.ref fB) = true)
    (aS : PySem.W.findIn K (.ref e_Inn) "_settle" = some (some (.ref fS)))
    (iS : PySem.W.isFn K (.ref fS) = true)
    (lS : K.lookup fS = some ⟨ocS, odS, .func (PySem.W.fnOf "_settle" "Inn._settle" (defArgs s_inn_settle) (defBody s_inn_settle) (defScope s_inn_settle) .none kVS dcS pmS anS cdS ctS), slS⟩)
    (cS : PySem.W.codeIn K cdS "Inn._settle" = true)
    (kS : PySem.W.keepIn K (.ref fS) = true)
    (nmk : PySem.W.makesIn K e_Inn = true)
    (nkp : PySem.W.keepIn K (.ref e_Inn) = true)
    (npg : PySem.W.plainGet K e_Inn Str.empty = true)
    (nhd : PySem.W.hasDictIn K e_Inn = true)
    (npo : PySem.W.plainOver K e_Inn = true)
    (nsa : PySem.W.findIn K (.ref e_Inn) "__setattr__" = some (some (.builtin "object.__setattr__")))
    (nnw : PySem.W.findIn K (.ref e_Inn) "_wishes" = some none)
    (nnm : PySem.W.findIn K (.ref e_Inn) "_mates" = some none)
    :
    ∃ fd : FuncData, (∀ (s : Shared) (v : Value), BindsTo s fd ⟨[v], []⟩ [("_law_script", v)]) ∧ ∀ base : Heap, K.In base → base.Ns mainGlobals mg → FnOk l.prog w K mg base CX0 11 fa fd ["_law_script"] (sp_law K) := by
  have e := hfa.symm.trans (PySem.W.mg_of X G a31)
  cases e
  have T : Own mg := ⟨PySem.W.mg_none_of X G z_len, PySem.W.mg_none_of X G z_rng, PySem.W.mg_none_of X G z_isI, PySem.W.mg_none_of X G z_int, PySem.W.mg_none_of X G z_bool, PySem.W.mg_none_of X G z_list, PySem.W.mg_none_of X G z_set, PySem.W.mg_none_of X G z_enm, PySem.W.mg_none_of X G z_all, PySem.W.mg_none_of X G z_tup⟩
  have WBadWishes : ErrC K mg "BadWishes" e_BadWishes := ⟨PySem.W.mg_of X G g_BadWishes, w1BadWishes, w2BadWishes, b_BadWishes, t_BadWishes⟩
  have WBadGuest : ErrC K mg "BadGuest" e_BadGuest := ⟨PySem.W.mg_of X G g_BadGuest, w1BadGuest, w2BadGuest, b_BadGuest, t_BadGuest⟩
  have WBadMates : ErrC K mg "BadMates" e_BadMates := ⟨PySem.W.mg_of X G g_BadMates, w1BadMates, w2BadMates, b_BadMates, t_BadMates⟩
  have WBadParties : ErrC K mg "BadParties" e_BadParties := ⟨PySem.W.mg_of X G g_BadParties, w1BadParties, w2BadParties, b_BadParties, t_BadParties⟩
  have KD : Er4 K mg e_BadGuest e_BadMates e_BadParties e_BadWishes e_BedError e_NoNote := ⟨PySem.W.mg_of X G g_BadGuest, PySem.W.mg_of X G g_BadMates, PySem.W.mg_of X G g_BadParties, PySem.W.mg_of X G g_BadWishes, PySem.W.mg_of X G g_BedError, PySem.W.mg_of X G g_NoNote, PySem.W.mg_none_of X G zV, (fun k h0 h3 => by rcases (show k = 0 ∨ k = 1 ∨ k = 2 ∨ k = 3 by omega) with rfl | rfl | rfl | rfl <;> first | exact ⟨(exm_own ⟨d_BadGuest, t_BadGuest, b_BadGuest⟩ s_BadGuest_BadGuest), (exm_own ⟨d_BadMates, t_BadMates, b_BadMates⟩ s_BadGuest_BadMates), (exm_own ⟨d_BadParties, t_BadParties, b_BadParties⟩ s_BadGuest_BadParties), (exm_own ⟨d_BadWishes, t_BadWishes, b_BadWishes⟩ s_BadGuest_BadWishes), (exm_own ⟨d_BedError, t_BedError, b_BedError⟩ s_BadGuest_BedError)⟩ | exact ⟨(exm_own ⟨d_BadGuest, t_BadGuest, b_BadGuest⟩ s_BadMates_BadGuest), (exm_own ⟨d_BadMates, t_BadMates, b_BadMates⟩ s_BadMates_BadMates), (exm_own ⟨d_BadParties, t_BadParties, b_BadParties⟩ s_BadMates_BadParties), (exm_own ⟨d_BadWishes, t_BadWishes, b_BadWishes⟩ s_BadMates_BadWishes), (exm_own ⟨d_BedError, t_BedError, b_BedError⟩ s_BadMates_BedError)⟩ | exact ⟨(exm_own ⟨d_BadGuest, t_BadGuest, b_BadGuest⟩ s_BadParties_BadGuest), (exm_own ⟨d_BadMates, t_BadMates, b_BadMates⟩ s_BadParties_BadMates), (exm_own ⟨d_BadParties, t_BadParties, b_BadParties⟩ s_BadParties_BadParties), (exm_own ⟨d_BadWishes, t_BadWishes, b_BadWishes⟩ s_BadParties_BadWishes), (exm_own ⟨d_BedError, t_BedError, b_BedError⟩ s_BadParties_BedError)⟩ | exact ⟨(exm_own ⟨d_BadGuest, t_BadGuest, b_BadGuest⟩ s_BadWishes_BadGuest), (exm_own ⟨d_BadMates, t_BadMates, b_BadMates⟩ s_BadWishes_BadMates), (exm_own ⟨d_BadParties, t_BadParties, b_BadParties⟩ s_BadWishes_BadParties), (exm_own ⟨d_BadWishes, t_BadWishes, b_BadWishes⟩ s_BadWishes_BadWishes), (exm_own ⟨d_BedError, t_BedError, b_BedError⟩ s_BadWishes_BedError)⟩), (fun k h0 h3 => by rcases (show k = 0 ∨ k = 1 ∨ k = 2 ∨ k = 3 by omega) with rfl | rfl | rfl | rfl <;> first | exact ⟨(kit_own ⟨d_BadGuest, t_BadGuest, b_BadGuest⟩ s_BadGuest_BadGuest s_BadGuest_BadGuest), (kit_own ⟨d_BadMates, t_BadMates, b_BadMates⟩ s_BadGuest_BadMates s_BadGuest_BadGuest), (kit_own ⟨d_BadParties, t_BadParties, b_BadParties⟩ s_BadGuest_BadParties s_BadGuest_BadGuest), (kit_own ⟨d_BadWishes, t_BadWishes, b_BadWishes⟩ s_BadGuest_BadWishes s_BadGuest_BadGuest), (kit_own ⟨d_NoNote, t_NoNote, b_NoNote⟩ s_BadGuest_NoNote s_BadGuest_BadGuest), kit_val s_BadGuest_VE⟩ | exact ⟨(kit_own ⟨d_BadGuest, t_BadGuest, b_BadGuest⟩ s_BadMates_BadGuest s_BadMates_BadMates), (kit_own ⟨d_BadMates, t_BadMates, b_BadMates⟩ s_BadMates_BadMates s_BadMates_BadMates), (kit_own ⟨d_BadParties, t_BadParties, b_BadParties⟩ s_BadMates_BadParties s_BadMates_BadMates), (kit_own ⟨d_BadWishes, t_BadWishes, b_BadWishes⟩ s_BadMates_BadWishes s_BadMates_BadMates), (kit_own ⟨d_NoNote, t_NoNote, b_NoNote⟩ s_BadMates_NoNote s_BadMates_BadMates), kit_val s_BadMates_VE⟩ | exact ⟨(kit_own ⟨d_BadGuest, t_BadGuest, b_BadGuest⟩ s_BadParties_BadGuest s_BadParties_BadParties), (kit_own ⟨d_BadMates, t_BadMates, b_BadMates⟩ s_BadParties_BadMates s_BadParties_BadParties), (kit_own ⟨d_BadParties, t_BadParties, b_BadParties⟩ s_BadParties_BadParties s_BadParties_BadParties), (kit_own ⟨d_BadWishes, t_BadWishes, b_BadWishes⟩ s_BadParties_BadWishes s_BadParties_BadParties), (kit_own ⟨d_NoNote, t_NoNote, b_NoNote⟩ s_BadParties_NoNote s_BadParties_BadParties), kit_val s_BadParties_VE⟩ | exact ⟨(kit_own ⟨d_BadGuest, t_BadGuest, b_BadGuest⟩ s_BadWishes_BadGuest s_BadWishes_BadWishes), (kit_own ⟨d_BadMates, t_BadMates, b_BadMates⟩ s_BadWishes_BadMates s_BadWishes_BadWishes), (kit_own ⟨d_BadParties, t_BadParties, b_BadParties⟩ s_BadWishes_BadParties s_BadWishes_BadWishes), (kit_own ⟨d_BadWishes, t_BadWishes, b_BadWishes⟩ s_BadWishes_BadWishes s_BadWishes_BadWishes), (kit_own ⟨d_NoNote, t_NoNote, b_NoNote⟩ s_BadWishes_NoNote s_BadWishes_BadWishes), kit_val s_BadWishes_VE⟩), (fun k h0 h3 => by rcases (show k = 0 ∨ k = 1 ∨ k = 2 ∨ k = 3 by omega) with rfl | rfl | rfl | rfl <;> first | exact ⟨y1BadGuest, y2BadGuest, b_BadGuest, d_BadGuest, y5BadGuest, y6, y7, y8BadGuest⟩ | exact ⟨y1BadMates, y2BadMates, b_BadMates, d_BadMates, y5BadMates, y6, y7, y8BadMates⟩ | exact ⟨y1BadParties, y2BadParties, b_BadParties, d_BadParties, y5BadParties, y6, y7, y8BadParties⟩ | exact ⟨y1BadWishes, y2BadWishes, b_BadWishes, d_BadWishes, y5BadWishes, y6, y7, y8BadWishes⟩)⟩
  have XI : TxtI K mg e_Inn fS := ⟨⟨npg, nhd, npo, nsa⟩, nnw, nnm, ⟨aS, iS, kS⟩⟩
  have MI : Mk K e_Inn fI := ⟨nmk, aI, iI, nkp⟩
  have mT : Meth K e_Inn "turn" fT := ⟨aT, iT, kT⟩
  have mW : Meth K e_Inn "twos" fW := ⟨aW, iW, kW⟩
  have mB : Meth K e_Inn "table" fB := ⟨aB, iB, kB⟩
  have FI := fun_mk (st := s_inn_init) lI cI kI
  have bI := FI.binds (ps := ["self", "wishes"]) fun _ _ _ _ _ _ us hl => match us, hl with | [_, _], _ => rfl
  have FT := fun_mk (st := s_inn_turn) lT cT kT
  have bT := FT.binds (ps := ["self", "guest", "row"]) fun _ _ _ _ _ _ us hl => match us, hl with | [_, _, _], _ => rfl
  have FW := fun_mk (st := s_inn_twos) lW cW kW
  have bW := FW.binds (ps := ["self"]) fun _ _ _ _ _ _ us hl => match us, hl with | [_], _ => rfl
  have FB := fun_mk (st := s_inn_table) lB cB kB
  have bB := FB.binds (ps := ["self"]) fun _ _ _ _ _ _ us hl => match us, hl with | [_], _ => rfl
  have FS := fun_mk (st := s_inn_settle) lS cS kS
  have bS := FS.binds (ps := ["self"]) fun _ _ _ _ _ _ us hl => match us, hl with | [_], _ => rfl
  have F1 := fun_mk (st := s_is_guest) l1 c1 k1
  have b1 := F1.binds (ps := ["number", "many"]) fun _ _ _ _ _ _ us hl => match us, hl with | [_, _], _ => rfl
  have F2 := fun_mk (st := s_need_row) l2 c2 k2
  have b2 := F2.binds (ps := ["row", "guest", "many"]) fun _ _ _ _ _ _ us hl => match us, hl with | [_, _, _], _ => rfl
  have F3 := fun_mk (st := s_need_wishes) l3 c3 k3
  have b3 := F3.binds (ps := ["wishes"]) fun _ _ _ _ _ _ us hl => match us, hl with | [_], _ => rfl
  have F4 := fun_mk (st := s_need_guest) l4 c4 k4
  have b4 := F4.binds (ps := ["wishes", "guest"]) fun _ _ _ _ _ _ us hl => match us, hl with | [_, _], _ => rfl
  have F5 := fun_mk (st := s_in_both) l5 c5 k5
  have b5 := F5.binds (ps := ["wishes", "one", "other"]) fun _ _ _ _ _ _ us hl => match us, hl with | [_, _, _], _ => rfl
  have F6 := fun_mk (st := s_is_ahead) l6 c6 k6
  have b6 := F6.binds (ps := ["wishes", "guest", "one", "other"]) fun _ _ _ _ _ _ us hl => match us, hl with | [_, _, _, _], _ => rfl
  have F7 := fun_mk (st := s_suits) l7 c7 k7
  have b7 := F7.binds (ps := ["wishes", "one", "other"]) fun _ _ _ _ _ _ us hl => match us, hl with | [_, _, _], _ => rfl
  have F8 := fun_mk (st := s_rather) l8 c8 k8
  have b8 := F8.binds (ps := ["wishes", "guest", "one", "other"]) fun _ _ _ _ _ _ us hl => match us, hl with | [_, _, _, _], _ => rfl
  have F9 := fun_mk (st := s_need_mates) l9 c9 k9
  have b9 := F9.binds (ps := ["wishes", "mates"]) fun _ _ _ _ _ _ us hl => match us, hl with | [_, _], _ => rfl
  have F10 := fun_mk (st := s_restless_pairs) l10 c10 k10
  have b10 := F10.binds (ps := ["wishes", "mates"]) fun _ _ _ _ _ _ us hl => match us, hl with | [_, _], _ => rfl
  have F11 := fun_mk (st := s_restless) l11 c11 k11
  have b11 := F11.binds (ps := ["wishes", "mates"]) fun _ _ _ _ _ _ us hl => match us, hl with | [_, _], _ => rfl
  have F12 := fun_mk (st := s_calm) l12 c12 k12
  have b12 := F12.binds (ps := ["wishes", "mates"]) fun _ _ _ _ _ _ us hl => match us, hl with | [_, _], _ => rfl
  have F13 := fun_mk (st := s_joined) l13 c13 k13
  have b13 := F13.binds (ps := ["mates", "one", "other"]) fun _ _ _ _ _ _ us hl => match us, hl with | [_, _, _], _ => rfl
  have F14 := fun_mk (st := s_settled) l14 c14 k14
  have b14 := F14.binds (ps := ["wishes", "mates", "guest"]) fun _ _ _ _ _ _ us hl => match us, hl with | [_, _, _], _ => rfl
  have F15 := fun_mk (st := s_all_twos) l15 c15 k15
  have b15 := F15.binds (ps := ["wishes"]) fun _ _ _ _ _ _ us hl => match us, hl with | [_], _ => rfl
  have F16 := fun_mk (st := s_all_calm) l16 c16 k16
  have b16 := F16.binds (ps := ["wishes"]) fun _ _ _ _ _ _ us hl => match us, hl with | [_], _ => rfl
  have F17 := fun_mk (st := s_need_parties) l17 c17 k17
  have b17 := F17.binds (ps := ["after"]) fun _ _ _ _ _ _ us hl => match us, hl with | [_], _ => rfl
  have F18 := fun_mk (st := s_rings) l18 c18 k18
  have b18 := F18.binds (ps := ["after"]) fun _ _ _ _ _ _ us hl => match us, hl with | [_], _ => rfl
  have F19 := fun_mk (st := s_holds) l19 c19 k19
  have b19 := F19.binds (ps := ["wishes", "after"]) fun _ _ _ _ _ _ us hl => match us, hl with | [_, _], _ => rfl
  have F20 := fun_mk (st := s_paired) l20 c20 k20
  have b20 := F20.binds (ps := ["after", "ahead"]) fun _ _ _ _ _ _ us hl => match us, hl with | [_, _], _ => rfl
  have F21 := fun_mk (st := s_cell_at) l21 c21 k21
  have b21 := F21.binds (ps := ["_law_script", "_law_k"]) fun _ _ _ _ _ _ us hl => match us, hl with | [_, _], _ => rfl
  have F22 := fun_mk (st := s_row_by) l22 c22 k22
  have b22 := F22.binds (ps := ["_law_cell", "_law_guest", "_law_many", "_law_full"]) fun _ _ _ _ _ _ us hl => match us, hl with | [_, _, _, _], _ => rfl
  have F23 := fun_mk (st := s_wishes_by) l23 c23 k23
  have b23 := F23.binds (ps := ["_law_script", "_law_many"]) fun _ _ _ _ _ _ us hl => match us, hl with | [_, _], _ => rfl
  have F24 := fun_mk (st := s_lguest_asked) l24 c24 k24
  have b24 := F24.binds (ps := ["_law_which", "_law_wishes", "_law_inn", "_law_bad", "_law_good"]) fun _ _ _ _ _ _ us hl => match us, hl with | [_, _, _, _, _], _ => rfl
  have F25 := fun_mk (st := s_lasked) l25 c25 k25
  have b25 := F25.binds (ps := ["_law_kind", "_law_which", "_law_wishes", "_law_inn", "_law_bad", "_law_good"]) fun _ _ _ _ _ _ us hl => match us, hl with | [_, _, _, _, _, _], _ => rfl
  have F26 := fun_mk (st := s_ltold) l26 c26 k26
  have b26 := F26.binds (ps := ["_law_kind", "_law_which", "_law_wishes", "_law_inn", "_law_bad", "_law_good"]) fun _ _ _ _ _ _ us hl => match us, hl with | [_, _, _, _, _, _], _ => rfl
  have F27 := fun_mk (st := s_lbased) l27 c27 k27
  have b27 := F27.binds (ps := ["_law_kind", "_law_which", "_law_wishes", "_law_inn", "_law_bad", "_law_good"]) fun _ _ _ _ _ _ us hl => match us, hl with | [_, _, _, _, _, _], _ => rfl
  have F28 := fun_mk (st := s_lbad_mates) l28 c28 k28
  have b28 := F28.binds (ps := ["_law_wishes", "_law_guest", "_law_way"]) fun _ _ _ _ _ _ us hl => match us, hl with | [_, _, _], _ => rfl
  have F29 := fun_mk (st := s_lbad_after) l29 c29 k29
  have b29 := F29.binds (ps := ["_law_many", "_law_place", "_law_way"]) fun _ _ _ _ _ _ us hl => match us, hl with | [_, _, _], _ => rfl
  have F30 := fun_mk (st := s_lbad_row) l30 c30 k30
  have b30 := F30.binds (ps := ["_law_many", "_law_guest", "_law_way"]) fun _ _ _ _ _ _ us hl => match us, hl with | [_, _, _], _ => rfl
  have F31 := fun_mk (st := s_law) l31 c31 k31
  refine ⟨PySem.W.fnOf "law" "law" (defArgs s_law) (defBody s_law) (defScope s_law) .none kV31 dc31 pm31 an31 cd31 ct31, fun s v => .of_eq rfl, fun base _ _ => ?_⟩
  have C1 : Cal l.prog w K mg base 1 "is_guest" ["number", "many"] (sp_is_guestX K) := ⟨⟨_, _, ok_is_guestX F1 T, PySem.W.mg_of X G a1, k1, b1⟩⟩
  have C2 : CalX l.prog w K mg base 2 "need_row" ["row", "guest", "many"] (sp_need_rowX K e_BadWishes) := ⟨⟨_, _, ok_need_rowX F2 T WBadWishes C1, PySem.W.mg_of X G a2, k2, b2⟩⟩
  have C3 : CalX l.prog w K mg base 3 "need_wishes" ["wishes"] (sp_need_wishesX K e_BadWishes) := ⟨⟨_, _, ok_need_wishesX F3 T ⟨_, PySem.W.mg_of X G y_mg⟩ WBadWishes C2, PySem.W.mg_of X G a3, k3, b3⟩⟩
  have C4 : CalX l.prog w K mg base 2 "need_guest" ["wishes", "guest"] (sp_need_guestX K e_BadGuest) := ⟨⟨_, _, ok_need_guestX F4 T WBadGuest C1, PySem.W.mg_of X G a4, k4, b4⟩⟩
  have C5 : Cal l.prog w K mg base 1 "in_both" ["wishes", "one", "other"] (sp_in_both K) := ⟨⟨_, _, ok_in_both F5, PySem.W.mg_of X G a5, k5, b5⟩⟩
  have C6 : Cal l.prog w K mg base 2 "is_ahead" ["wishes", "guest", "one", "other"] (sp_is_ahead K) := ⟨⟨_, _, ok_is_ahead F6 C5, PySem.W.mg_of X G a6, k6, b6⟩⟩
  have C7 : CalX l.prog w K mg base 4 "suits" ["wishes", "one", "other"] (sp_suitsG K e_BadGuest) := ⟨⟨_, _, ok_suitsG F7 (cal_need_wishes C3) C4, PySem.W.mg_of X G a7, k7, b7⟩⟩
  have C8 : CalX l.prog w K mg base 4 "rather" ["wishes", "guest", "one", "other"] (sp_ratherG K e_BadGuest) := ⟨⟨_, _, ok_ratherG F8 (cal_need_wishes C3) C4, PySem.W.mg_of X G a8, k8, b8⟩⟩
  have C9 : CalX l.prog w K mg base 2 "need_mates" ["wishes", "mates"] (sp_need_matesB K e_BadMates) := ⟨⟨_, _, ok_need_matesB F9 T WBadMates C1 C5, PySem.W.mg_of X G a9, k9, b9⟩⟩
  have C10 : Cal l.prog w K mg base 3 "restless_pairs" ["wishes", "mates"] (sp_pairs K) := ⟨⟨_, _, ok_restless_pairs F10 T C6, PySem.W.mg_of X G a10, k10, b10⟩⟩
  have C11 : CalX l.prog w K mg base 4 "restless" ["wishes", "mates"] (sp_need_matesB K e_BadMates) := ⟨⟨_, _, ok_restlessM F11 (cal_need_wishes C3) C9, PySem.W.mg_of X G a11, k11, b11⟩⟩
  have C12 : CalX l.prog w K mg base 5 "calm" ["wishes", "mates"] (sp_need_matesB K e_BadMates) := ⟨⟨_, _, ok_calmM F12 C11, PySem.W.mg_of X G a12, k12, b12⟩⟩
  have C13 : Cal l.prog w K mg base 1 "joined" ["mates", "one", "other"] (sp_joined K) := ⟨⟨_, _, ok_joined F13 T, PySem.W.mg_of X G a13, k13, b13⟩⟩
  have C14 : Cal l.prog w K mg base 2 "settled" ["wishes", "mates", "guest"] (sp_settled K) := ⟨⟨_, _, ok_settled F14 T C5 C13, PySem.W.mg_of X G a14, k14, b14⟩⟩
  have C15 : Cal l.prog w K mg base 4 "all_twos" ["wishes"] (sp_all_twos K) := ⟨⟨_, _, ok_all_twos F15 T (cal_need_wishes C3) C14, PySem.W.mg_of X G a15, k15, b15⟩⟩
  have C16 : Cal l.prog w K mg base 5 "all_calm" ["wishes"] (sp_all_calm K) := ⟨⟨_, _, ok_all_calm F16 C15 C10, PySem.W.mg_of X G a16, k16, b16⟩⟩
  have C17 : CalX l.prog w K mg base 2 "need_parties" ["after"] (sp_need_partiesX K e_BadParties) := ⟨⟨_, _, ok_need_partiesX F17 T ⟨_, PySem.W.mg_of X G y_mg⟩ WBadParties C1, PySem.W.mg_of X G a17, k17, b17⟩⟩
  have C18 : CalX l.prog w K mg base 3 "rings" ["after"] (sp_partiesB K e_BadParties) := ⟨⟨_, _, ok_ringsB F18 C17, PySem.W.mg_of X G a18, k18, b18⟩⟩
  have C19 : CalX l.prog w K mg base 4 "holds" ["wishes", "after"] (sp_holdsB K e_BadParties) := ⟨⟨_, _, ok_holdsB F19 T WBadParties (cal_need_wishes C3) C17, PySem.W.mg_of X G a19, k19, b19⟩⟩
  have C20 : CalX l.prog w K mg base 4 "paired" ["after", "ahead"] (sp_pairedP K e_BadParties) := ⟨⟨_, _, ok_pairedP F20 C18, PySem.W.mg_of X G a20, k20, b20⟩⟩
  have GS := ok_settle (P := l.prog) (w := w) (base := base) FS XI C16
  have GI := ok_inn_init FI T XI (cal_need_wishes C3) GS bS
  have GT := ok_inn_turn FT T XI C4 C2 GS bS
  have GW := ok_inn_twos (P := l.prog) (w := w) (base := base) FW T XI
  have GB := ok_inn_table (P := l.prog) (w := w) (base := base) FB T XI
  have C21 : Cal l.prog w K mg base 1 "_law_cell_at" ["_law_script", "_law_k"] (sp_cell_at K) := ⟨⟨_, _, ok_cell_at F21 T, PySem.W.mg_of X G a21, k21, b21⟩⟩
  have C22 : Cal l.prog w K mg base 1 "_law_row_by" ["_law_cell", "_law_guest", "_law_many", "_law_full"] sp_row_by := ⟨⟨_, _, ok_row_by F22 T, PySem.W.mg_of X G a22, k22, b22⟩⟩
  have C23 : Cal l.prog w K mg base 2 "_law_wishes_by" ["_law_script", "_law_many"] (sp_wishes_by K) := ⟨⟨_, _, ok_wishes_by F23 T C21 C22, PySem.W.mg_of X G a23, k23, b23⟩⟩
  have C24 : CalX l.prog w K mg base 8 "_law_guest_asked" ["_law_which", "_law_wishes", "_law_inn", "_law_bad", "_law_good"] (sp_lguest_asked K e_Inn e_BadGuest) := ⟨⟨_, _, ok_lguest_asked F24 XI mT bT GT C7 C8, PySem.W.mg_of X G a24, k24, b24⟩⟩
  have C25 : CalX l.prog w K mg base 9 "_law_asked" ["_law_kind", "_law_which", "_law_wishes", "_law_inn", "_law_bad", "_law_good"] (sp_lasked K e_Inn e_BadGuest e_BadMates e_BadParties e_BadWishes) := ⟨⟨_, _, ok_lasked F25 XI mT bT GT C24 C11 C12 C18 C19 C20, PySem.W.mg_of X G a25, k25, b25⟩⟩
  have C26 : Cal l.prog w K mg base 10 "_law_told" ["_law_kind", "_law_which", "_law_wishes", "_law_inn", "_law_bad", "_law_good"] (sp_ltold K e_Inn) := ⟨⟨_, _, ok_ltold F26 KD C25, PySem.W.mg_of X G a26, k26, b26⟩⟩
  have C27 : Cal l.prog w K mg base 10 "_law_based" ["_law_kind", "_law_which", "_law_wishes", "_law_inn", "_law_bad", "_law_good"] (sp_lbased K e_Inn) := ⟨⟨_, _, ok_lbased F27 T KD C25, PySem.W.mg_of X G a27, k27, b27⟩⟩
  have C28 : Cal l.prog w K mg base 2 "_law_bad_mates" ["_law_wishes", "_law_guest", "_law_way"] (sp_lbad_mates K) := ⟨⟨_, _, ok_lbad_mates F28 T, PySem.W.mg_of X G a28, k28, b28⟩⟩
  have C29 : Cal l.prog w K mg base 1 "_law_bad_after" ["_law_many", "_law_place", "_law_way"] (sp_lbad_after K) := ⟨⟨_, _, ok_lbad_after F29 T, PySem.W.mg_of X G a29, k29, b29⟩⟩
  have C30 : Cal l.prog w K mg base 1 "_law_bad_row" ["_law_many", "_law_guest", "_law_way"] (sp_lbad_row K) := ⟨⟨_, _, ok_lbad_row F30, PySem.W.mg_of X G a30, k30, b30⟩⟩
  exact ok_law F31 T XI MI (PySem.W.mg_of X G g_Inn) bI GI mW bW GW mB bB GB C21 C23 C28 C29 C30 C26 C27
theorem walk {l : PySem.W.OpenLaw} {q : Program} {loose : List Str} {XP : (Str → Option Value) → Heap → Prop} {YP : World → Heap → Prop} {d : DefRec} {K : Params → PySem.W.Frag} (hn : l.most = some 63) (hdf : d.params.defaults = [])
    (hY : ∀ (w : World) (h : Heap), YP w h → (K w.params).In h)
    (F : ∀ (w : World) (mg : Str → Option Value) (fa : Addr) (h : Heap), (K w.params).In h → h.Ns mainGlobals mg → mg d.name = some (.ref fa) →
      ∃ fd : FuncData, (∀ (s : Shared) (u : Value), BindsTo s fd ⟨[u], []⟩ [("_law_script", u)]) ∧ ∀ base : Heap, (K w.params).In base → base.Ns mainGlobals mg → FnOk l.prog w (K w.params) mg base CX0 11 fa fd ["_law_script"] (sp_law (K w.params))) :
    PySem.W.WalkO q loose XP YP l.row.toRowW d [] (fun f vs => PySem.call f vs) :=
  L2.walk_of (n := 63) (k := 11) (x := "_law_script") (CX := fun _ => CX0) (sp := fun w => sp_law (K w.params)) hn (by decide) hdf ⟨rfl, by decide, by decide⟩ hY F (fun _ _ a ns hl _ hS => ⟨a, ns, rfl, hS, hl, fun _ => rfl⟩) fun _ _ _ _ _ z => z
end B2

open PySem PySem.W PyProof.Rows in
set_option maxRecDepth 100000 in
set_option maxHeartbeats 0 in
theorem PySem.Challenge.cw_bedtwos_k03_other_refusals_holds : PySem.Challenge.rw_bedtwos_k03_other_refusals.Holds := by
  w_on; o_law; k_head; (case hw => w_witness2)
  k_fill
  refine B2.walk (l := PySem.Challenge.rw_bedtwos_k03_other_refusals) rfl rfl (fun w h Y => PySem.W.kIn_of Y) ?F
  case F =>
    intro w mg fa h KX G hmg
    refine' B2.all_mk KX G hmg ?a1 ?l1 ?c1 ?k1 ?a2 ?l2 ?c2 ?k2 ?a3 ?l3 ?c3 ?k3 ?a4 ?l4 ?c4 ?k4 ?a5 ?l5 ?c5 ?k5 ?a6 ?l6 ?c6 ?k6 ?a7 ?l7 ?c7 ?k7 ?a8 ?l8 ?c8 ?k8 ?a9 ?l9 ?c9 ?k9 ?a10 ?l10 ?c10 ?k10 ?a11 ?l11 ?c11 ?k11 ?a12 ?l12 ?c12 ?k12 ?a13 ?l13 ?c13 ?k13 ?a14 ?l14 ?c14 ?k14 ?a15 ?l15 ?c15 ?k15 ?a16 ?l16 ?c16 ?k16 ?a17 ?l17 ?c17 ?k17 ?a18 ?l18 ?c18 ?k18 ?a19 ?l19 ?c19 ?k19 ?a20 ?l20 ?c20 ?k20 ?a21 ?l21 ?c21 ?k21 ?a22 ?l22 ?c22 ?k22 ?a23 ?l23 ?c23 ?k23 ?a24 ?l24 ?c24 ?k24 ?a25 ?l25 ?c25 ?k25 ?a26 ?l26 ?c26 ?k26 ?a27 ?l27 ?c27 ?k27 ?a28 ?l28 ?c28 ?k28 ?a29 ?l29 ?c29 ?k29 ?a30 ?l30 ?c30 ?k30 ?a31 ?l31 ?c31 ?k31 ?z_len ?z_rng ?z_isI ?z_int ?z_bool ?z_list ?z_set ?z_enm ?z_all ?z_tup ?y_mg ?g_BadWishes ?g_BadGuest ?g_BadMates ?g_BadParties ?g_BedError ?g_NoNote ?g_Inn ?w1BadWishes ?w2BadWishes ?y1BadWishes ?y2BadWishes ?y5BadWishes ?y8BadWishes ?w1BadGuest ?w2BadGuest ?y1BadGuest ?y2BadGuest ?y5BadGuest ?y8BadGuest ?w1BadMates ?w2BadMates ?y1BadMates ?y2BadMates ?y5BadMates ?y8BadMates ?w1BadParties ?w2BadParties ?y1BadParties ?y2BadParties ?y5BadParties ?y8BadParties ?d_BadWishes ?t_BadWishes ?b_BadWishes ?d_BadGuest ?t_BadGuest ?b_BadGuest ?d_BadMates ?t_BadMates ?b_BadMates ?d_BadParties ?t_BadParties ?b_BadParties ?d_BedError ?t_BedError ?b_BedError ?d_NoNote ?t_NoNote ?b_NoNote ?zV ?y6 ?y7 ?s_BadWishes_BadWishes ?s_BadWishes_BadGuest ?s_BadWishes_BadMates ?s_BadWishes_BadParties ?s_BadWishes_BedError ?s_BadWishes_NoNote ?s_BadWishes_VE ?s_BadGuest_BadWishes ?s_BadGuest_BadGuest ?s_BadGuest_BadMates ?s_BadGuest_BadParties ?s_BadGuest_BedError ?s_BadGuest_NoNote ?s_BadGuest_VE ?s_BadMates_BadWishes ?s_BadMates_BadGuest ?s_BadMates_BadMates ?s_BadMates_BadParties ?s_BadMates_BedError ?s_BadMates_NoNote ?s_BadMates_VE ?s_BadParties_BadWishes ?s_BadParties_BadGuest ?s_BadParties_BadMates ?s_BadParties_BadParties ?s_BadParties_BedError ?s_BadParties_NoNote ?s_BadParties_VE ?aI ?iI ?lI ?cI ?kI ?aT ?iT ?lT ?cT ?kT ?aW ?iW ?lW ?cW ?kW ?aB ?iB ?lB ?cB ?kB ?aS ?iS ?lS ?cS ?kS ?nmk ?nkp ?npg ?nhd ?npo ?nsa ?nnw ?nnm
    (case a1 => k_is)
    (case l1 => k_is)
    (case c1 => k_is)
    (case k1 => k_is)
    (case a2 => k_is)
    (case l2 => k_is)
    (case c2 => k_is)
    (case k2 => k_is)
    (case a3 => k_is)
    (case l3 => k_is)
    (case c3 => k_is)
    (case k3 => k_is)
    (case a4 => k_is)
    (case l4 => k_is)
    (case c4 => k_is)
    (case k4 => k_is)
    (case a5 => k_is)
    (case l5 => k_is)
    (case c5 => k_is)
    (case k5 => k_is)
    (case a6 => k_is)
    (case l6 => k_is)
    (case c6 => k_is)
    (case k6 => k_is)
    (case a7 => k_is)
    (case l7 => k_is)
    (case c7 => k_is)
    (case k7 => k_is)
    (case a8 => k_is)
    (case l8 => k_is)
    (case c8 => k_is)
    (case k8 => k_is)
    (case a9 => k_is)
    (case l9 => k_is)
    (case c9 => k_is)
    (case k9 => k_is)
    (case a10 => k_is)
    (case l10 => k_is)
    (case c10 => k_is)
    (case k10 => k_is)
    (case a11 => k_is)
    (case l11 => k_is)
    (case c11 => k_is)
    (case k11 => k_is)
    (case a12 => k_is)
    (case l12 => k_is)
    (case c12 => k_is)
    (case k12 => k_is)
    (case a13 => k_is)
    (case l13 => k_is)
    (case c13 => k_is)
    (case k13 => k_is)
    (case a14 => k_is)
    (case l14 => k_is)
    (case c14 => k_is)
    (case k14 => k_is)
    (case a15 => k_is)
    (case l15 => k_is)
    (case c15 => k_is)
    (case k15 => k_is)
    (case a16 => k_is)
    (case l16 => k_is)
    (case c16 => k_is)
    (case k16 => k_is)
    (case a17 => k_is)
    (case l17 => k_is)
    (case c17 => k_is)
    (case k17 => k_is)
    (case a18 => k_is)
    (case l18 => k_is)
    (case c18 => k_is)
    (case k18 => k_is)
    (case a19 => k_is)
    (case l19 => k_is)
    (case c19 => k_is)
    (case k19 => k_is)
    (case a20 => k_is)
    (case l20 => k_is)
    (case c20 => k_is)
    (case k20 => k_is)
    (case a21 => k_is)
    (case l21 => k_is)
    (case c21 => k_is)
    (case k21 => k_is)
    (case a22 => k_is)
    (case l22 => k_is)
    (case c22 => k_is)
    (case k22 => k_is)
    (case a23 => k_is)
    (case l23 => k_is)
    (case c23 => k_is)
    (case k23 => k_is)
    (case a24 => k_is)
    (case l24 => k_is)
    (case c24 => k_is)
    (case k24 => k_is)
    (case a25 => k_is)
    (case l25 => k_is)
    (case c25 => k_is)
    (case k25 => k_is)
    (case a26 => k_is)
    (case l26 => k_is)
    (case c26 => k_is)
    (case k26 => k_is)
    (case a27 => k_is)
    (case l27 => k_is)
    (case c27 => k_is)
    (case k27 => k_is)
    (case a28 => k_is)
    (case l28 => k_is)
    (case c28 => k_is)
    (case k28 => k_is)
    (case a29 => k_is)
    (case l29 => k_is)
    (case c29 => k_is)
    (case k29 => k_is)
    (case a30 => k_is)
    (case l30 => k_is)
    (case c30 => k_is)
    (case k30 => k_is)
    (case a31 => k_is)
    (case l31 => k_is)
    (case c31 => k_is)
    (case k31 => k_is)
    (case z_len => k_is)
    (case z_rng => k_is)
    (case z_isI => k_is)
    (case z_int => k_is)
    (case z_bool => k_is)
    (case z_list => k_is)
    (case z_set => k_is)
    (case z_enm => k_is)
    (case z_all => k_is)
    (case z_tup => k_is)
    (case y_mg => k_is)
    (case g_BadWishes => k_is)
    (case g_BadGuest => k_is)
    (case g_BadMates => k_is)
    (case g_BadParties => k_is)
    (case g_BedError => k_is)
    (case g_NoNote => k_is)
    (case g_Inn => k_is)
    (case w1BadWishes => k_exc)
    (case w2BadWishes => k_is)
    (case y1BadWishes => k_is)
    (case y2BadWishes => k_is)
    (case y5BadWishes => k_is)
    (case y8BadWishes => k_is)
    (case w1BadGuest => k_exc)
    (case w2BadGuest => k_is)
    (case y1BadGuest => k_is)
    (case y2BadGuest => k_is)
    (case y5BadGuest => k_is)
    (case y8BadGuest => k_is)
    (case w1BadMates => k_exc)
    (case w2BadMates => k_is)
    (case y1BadMates => k_is)
    (case y2BadMates => k_is)
    (case y5BadMates => k_is)
    (case y8BadMates => k_is)
    (case w1BadParties => k_exc)
    (case w2BadParties => k_is)
    (case y1BadParties => k_is)
    (case y2BadParties => k_is)
    (case y5BadParties => k_is)
    (case y8BadParties => k_is)
    (case d_BadWishes => k_is)
    (case t_BadWishes => k_is)
    (case b_BadWishes => k_is)
    (case d_BadGuest => k_is)
    (case t_BadGuest => k_is)
    (case b_BadGuest => k_is)
    (case d_BadMates => k_is)
    (case t_BadMates => k_is)
    (case b_BadMates => k_is)
    (case d_BadParties => k_is)
    (case t_BadParties => k_is)
    (case b_BadParties => k_is)
    (case d_BedError => k_is)
    (case t_BedError => k_is)
    (case b_BedError => k_is)
    (case d_NoNote => k_is)
    (case t_NoNote => k_is)
    (case b_NoNote => k_is)
    (case zV => k_is)
    (case y6 => k_is)
    (case y7 => k_is)
    (case s_BadWishes_BadWishes => k_is)
    (case s_BadWishes_BadGuest => k_is)
    (case s_BadWishes_BadMates => k_is)
    (case s_BadWishes_BadParties => k_is)
    (case s_BadWishes_BedError => k_is)
    (case s_BadWishes_NoNote => k_is)
    (case s_BadWishes_VE => k_is)
    (case s_BadGuest_BadWishes => k_is)
    (case s_BadGuest_BadGuest => k_is)
    (case s_BadGuest_BadMates => k_is)
    (case s_BadGuest_BadParties => k_is)
    (case s_BadGuest_BedError => k_is)
    (case s_BadGuest_NoNote => k_is)
    (case s_BadGuest_VE => k_is)
    (case s_BadMates_BadWishes => k_is)
    (case s_BadMates_BadGuest => k_is)
    (case s_BadMates_BadMates => k_is)
    (case s_BadMates_BadParties => k_is)
    (case s_BadMates_BedError => k_is)
    (case s_BadMates_NoNote => k_is)
    (case s_BadMates_VE => k_is)
    (case s_BadParties_BadWishes => k_is)
    (case s_BadParties_BadGuest => k_is)
    (case s_BadParties_BadMates => k_is)
    (case s_BadParties_BadParties => k_is)
    (case s_BadParties_BedError => k_is)
    (case s_BadParties_NoNote => k_is)
    (case s_BadParties_VE => k_is)
    (case aI => k_is)
    (case iI => k_is)
    (case lI => k_is)
    (case cI => k_is)
    (case kI => k_is)
    (case aT => k_is)
    (case iT => k_is)
    (case lT => k_is)
    (case cT => k_is)
    (case kT => k_is)
    (case aW => k_is)
    (case iW => k_is)
    (case lW => k_is)
    (case cW => k_is)
    (case kW => k_is)
    (case aB => k_is)
    (case iB => k_is)
    (case lB => k_is)
    (case cB => k_is)
    (case kB => k_is)
    (case aS => k_is)
    (case iS => k_is)
    (case lS => k_is)
    (case cS => k_is)
    (case kS => k_is)
    (case nmk => k_is)
    (case nkp => k_is)
    (case npg => k_is)
    (case nhd => k_is)
    (case npo => k_is)
    (case nsa => k_is)
    (case nnw => k_is)
    (case nnm => k_is)
#print axioms PySem.Challenge.cw_bedtwos_k03_other_refusals_holds
