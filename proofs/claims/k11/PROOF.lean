import PyProof.Rows.All
import Wide.All
import OpenK.AllK
import Wide.FinOn
import HandS.ForMost
import HandS.IsInst
import HandS.Zip
import HandS.Walk
import HandS.Evl
import HandS.Style
import HandS.ExcCtx
import HandS.HotCalls
import HandS.ForExc
import HandS.Small
import HandS.FStr
import HandS.ExcIs
import HandS.Conv
import HandS.Deep
import KE.KUnpackStar
import HandS.Codes
import HandS.SuiteRaise
import HandS.RaiseFrom
import HandS.JoinGen
import HandS.EndTab
import KE.KNestM
import PySem.Challenge.RW_bedtwos_k11_shown
set_option Elab.async false
set_option maxRecDepth 100000
set_option maxHeartbeats 4000000
namespace B2
open PySem L2

/-! ### Data: tables of wishes, rows, what stands at an address -/

/-- a row of the guest g, one of n -/
structure GoodRow (n : Nat) (g : Int) (r : List Int) : Prop where
  nd : r.Nodup
  rg : ∀ x ∈ r, 0 ≤ x ∧ x < (n : Int) ∧ x ≠ g
  sm : r.length ≤ 6

structure Good (ws : List (List Int)) : Prop where
  lo : 1 ≤ ws.length
  hi : ws.length ≤ 6
  row : ∀ (g : Nat) (r : List Int), ws[g]? = some r → GoodRow ws.length (g : Int) r

/-- the table ws stands at a -/
def Tab (K : PySem.W.Frag) (H : Hp) (a : Addr) (ws : List (List Int)) : Prop :=
  ∃ as : List Addr, SqL K H a (as.map V.ref) ∧ as.length = ws.length ∧
    ∀ (i : Nat) (r : List Int), ws[i]? = some r → ∃ b, as[i]? = some b ∧ SqL K H b (r.map V.int)

theorem Tab.same {K : PySem.W.Frag} {H H' : Hp} {a : Addr} {ws : List (List Int)} (e : Same H H') (t : Tab K H a ws) : Tab K H' a ws := by
  obtain ⟨as, h1, h2, h3⟩ := t
  refine ⟨as, e.seq h1, h2, fun i r hr => ?_⟩
  obtain ⟨b, hb, hs⟩ := h3 i r hr
  exact ⟨b, hb, e.seq hs⟩

theorem same_new {H : Hp} {p : Addr} (h : H p = none) (o : HO) : Same H (upd H p o) := fun b u q => by
  rw [upd_ne (ne_of_none q h)]; exact q

/-- what was there at the start stays, though the new object at p is changed -/
theorem same_put {H H1 : Hp} {p : Addr} (e : Same H H1) (h : H p = none) (o : HO) : Same H (upd H1 p o) := fun b u q => by
  rw [upd_ne (ne_of_none q h)]; exact e b u q

def rowOf (ws : List (List Int)) (i : Int) : List Int := ws.getD i.toNat []

theorem rowOf_get {ws : List (List Int)} {i : Int} (h0 : 0 ≤ i) (h1 : i < (ws.length : Int)) :
    ws[i.toNat]? = some (rowOf ws i) ∧ i = ((i.toNat : Nat) : Int) := by
  have h : i.toNat < ws.length := by omega
  refine ⟨?_, by omega⟩
  unfold rowOf
  rw [List.getD_eq_getElem?_getD, List.getElem?_eq_getElem h]
  rfl

theorem rowOf_good {ws : List (List Int)} (g : Good ws) {i : Int} (h0 : 0 ≤ i) (h1 : i < (ws.length : Int)) : GoodRow ws.length i (rowOf ws i) := by
  have h := rowOf_get h0 h1
  have q := g.row _ _ h.1
  rw [← h.2] at q
  exact q

/-- wishes[i], as the list rules ask it -/
theorem Tab.at {K : PySem.W.Frag} {H : Hp} {a : Addr} {ws : List (List Int)} (t : Tab K H a ws) :
    ∃ as : List Addr, SqL K H a (as.map V.ref) ∧ as.length = ws.length ∧
    ∀ i : Int, 0 ≤ i → i < (ws.length : Int) → ∃ b, atI (as.map V.ref) i = some (.ref b) ∧ SqL K H b ((rowOf ws i).map V.int) := by
  obtain ⟨as, h1, h2, h3⟩ := t
  refine ⟨as, h1, h2, fun i i0 i1 => ?_⟩
  obtain ⟨q1, q2⟩ := rowOf_get i0 i1
  obtain ⟨b, hb, hs⟩ := h3 _ _ q1
  refine ⟨b, ?_, hs⟩
  have : atI (as.map V.ref) ((i.toNat : Nat) : Int) = some (.ref b) := atI_nat (by rw [List.getElem?_map, hb]; rfl)
  rw [← q2] at this
  exact this

theorem inV_int (j : Int) : ∀ r : List Int, inV (.int j) (r.map V.int) = decide (j ∈ r)
  | [] => by simp [inV]
  | x :: r => by
    have ih := inV_int j r
    unfold inV at ih ⊢
    rw [List.map_cons, List.any_cons, ih]
    show ((x == j) || decide (j ∈ r)) = decide (j ∈ x :: r)
    by_cases h : x = j
    · simp [h]
    · have h' : ¬ j = x := fun q => h q.symm
      simp [h, h']

theorem flat_ints (r : List Int) : (r.map V.int).all flatV = true := by
  rw [List.all_eq_true]
  intro x hx
  rw [List.mem_map] at hx
  obtain ⟨i, _, rfl⟩ := hx
  rfl

/-- two guests suit each other -/
def suitsB (ws : List (List Int)) (i j : Int) : Bool := decide (j ∈ rowOf ws i) && decide (i ∈ rowOf ws j)

theorem suitsB_comm (ws : List (List Int)) (i j : Int) : suitsB ws i j = suitsB ws j i := Bool.and_comm _ _

def ov : Option Int → V
  | none => .non
  | some i => .int i

theorem ov_inj {a b : Option Int} (h : ov a = ov b) : a = b := by
  cases a <;> cases b <;> first | rfl | (cases h; rfl) | (cases h)

theorem ov_dec (a b : Option Int) : decide (ov a = ov b) = decide (a = b) := by
  by_cases h : a = b
  · rw [h]; simp
  · have h' : ¬ ov a = ov b := fun q => h (ov_inj q)
    rw [decide_eq_false h, decide_eq_false h']

theorem ov_non (a : Option Int) : decide (ov a = .non) = a.isNone := by
  cases a <;> rfl

/-- a guest or none, of n -/
def OkO (n : Nat) : Option Int → Prop
  | none => True
  | some i => 0 ≤ i ∧ i < (n : Int)

/-- whether g would rather have one than other -/
def aheadB (ws : List (List Int)) (g : Int) : Option Int → Option Int → Bool
  | none, _ => false
  | some a, none => suitsB ws g a
  | some a, some b => if a = b then false else
      if suitsB ws g a = true then (if suitsB ws g b = true then decide ((rowOf ws g).idxOf a < (rowOf ws g).idxOf b) else true) else false

/-- as the law goes through the list -/
def scanB (s : Int → Bool) (a : Int) (o : Option Int) : List Int → Bool
  | [] => false
  | t :: r => if (decide (some t = o) && s t) = true then false else if t = a then true else scanB s a o r

theorem scanB_none (s : Int → Bool) (a : Int) : ∀ r : List Int, a ∈ r → scanB s a none r = true
  | [], h => by cases h
  | t :: r, h => by
    unfold scanB
    have e : (decide (some t = (none : Option Int)) && s t) = false := by
      rw [decide_eq_false (by intro q; cases q), Bool.false_and]
    rw [e]
    by_cases q : t = a
    · rw [if_neg (by decide), if_pos q]
    · rw [if_neg (by decide), if_neg q]
      rcases List.mem_cons.mp h with h | h
      · exact absurd h.symm q
      · exact scanB_none s a r h

theorem scanB_no (s : Int → Bool) (a b : Int) (hs : s b = false) : ∀ r : List Int, a ∈ r → scanB s a (some b) r = true
  | [], h => by cases h
  | t :: r, h => by
    unfold scanB
    have e : (decide (some t = some b) && s t) = false := by
      by_cases q : t = b
      · rw [q, hs, Bool.and_false]
      · rw [decide_eq_false (by intro z; exact q (Option.some.inj z)), Bool.false_and]
    rw [e]
    by_cases q : t = a
    · rw [if_neg (by decide), if_pos q]
    · rw [if_neg (by decide), if_neg q]
      rcases List.mem_cons.mp h with h | h
      · exact absurd h.symm q
      · exact scanB_no s a b hs r h

theorem scanB_yes (s : Int → Bool) (a b : Int) (hs : s b = true) (hab : a ≠ b) : ∀ r : List Int, a ∈ r → scanB s a (some b) r = decide (r.idxOf a < r.idxOf b)
  | [], h => by cases h
  | t :: r, h => by
    unfold scanB
    by_cases q : t = b
    · have e : (decide (some t = some b) && s t) = true := by rw [q, hs]; simp
      rw [if_pos e, q, List.idxOf_cons, List.idxOf_cons]
      have e1 : (b == a) = false := by
        apply beq_eq_false_iff_ne.mpr
        exact fun z => hab z.symm
      simp [e1]
    · have e : (decide (some t = some b) && s t) = false := by
        rw [decide_eq_false (by intro z; exact q (Option.some.inj z)), Bool.false_and]
      rw [e, if_neg (by decide)]
      have e2 : (t == b) = false := beq_eq_false_iff_ne.mpr q
      by_cases q1 : t = a
      · rw [if_pos q1, List.idxOf_cons, List.idxOf_cons]
        have e1 : (t == a) = true := by rw [q1]; exact beq_self_eq_true a
        rw [e1, e2]
        simp
      · rw [if_neg q1]
        have e1 : (t == a) = false := beq_eq_false_iff_ne.mpr q1
        have ha : a ∈ r := by
          rcases List.mem_cons.mp h with h | h
          · exact absurd h.symm q1
          · exact h
        rw [scanB_yes s a b hs hab r ha, List.idxOf_cons, List.idxOf_cons, e1, e2]
        simp

def ratherB (ws : List (List Int)) (g : Int) : Option Int → Option Int → Bool
  | none, _ => false
  | some a, o => if suitsB ws g a = true then scanB (suitsB ws g) a o (rowOf ws g) else false

theorem suitsB_mem {ws : List (List Int)} {g a : Int} (h : suitsB ws g a = true) : a ∈ rowOf ws g ∧ g ∈ rowOf ws a := by
  unfold suitsB at h
  rw [Bool.and_eq_true] at h
  exact ⟨of_decide_eq_true h.1, of_decide_eq_true h.2⟩

theorem scanB_same (s : Int → Bool) (a : Int) (hs : s a = true) : ∀ r : List Int, scanB s a (some a) r = false
  | [] => rfl
  | t :: r => by
    unfold scanB
    by_cases q : t = a
    · rw [if_pos (by rw [q, hs]; simp)]
    · rw [if_neg (by rw [decide_eq_false (by intro z; exact q (Option.some.inj z)), Bool.false_and]; decide), if_neg q]
      exact scanB_same s a hs r

theorem rather_is (ws : List (List Int)) (g : Int) : ∀ a o : Option Int, ratherB ws g a o = aheadB ws g a o
  | none, _ => rfl
  | some a, none => by
    show (if suitsB ws g a = true then scanB (suitsB ws g) a none (rowOf ws g) else false) = suitsB ws g a
    by_cases h : suitsB ws g a = true
    · rw [if_pos h, scanB_none _ _ _ (suitsB_mem h).1, h]
    · rw [if_neg h]
      exact (Bool.eq_false_iff.mpr h).symm
  | some a, some b => by
    show (if suitsB ws g a = true then scanB (suitsB ws g) a (some b) (rowOf ws g) else false) = (if a = b then false else
      if suitsB ws g a = true then (if suitsB ws g b = true then decide ((rowOf ws g).idxOf a < (rowOf ws g).idxOf b) else true) else false)
    by_cases h : suitsB ws g a = true
    · rw [if_pos h, if_pos h]
      by_cases q : a = b
      · rw [if_pos q, ← q, scanB_same _ _ h]
      · rw [if_neg q]
        by_cases h2 : suitsB ws g b = true
        · rw [if_pos h2, scanB_yes _ _ _ h2 q _ (suitsB_mem h).1]
        · rw [if_neg h2, scanB_no _ _ _ (Bool.eq_false_iff.mpr h2) _ (suitsB_mem h).1]
    · rw [if_neg h, if_neg h]
      by_cases q : a = b
      · rw [if_pos q]
      · rw [if_neg q]

/-- the first place of x in a list of ints, as list.index asks it -/
theorem index_at (x : Int) : ∀ r : List Int, x ∈ r →
    (r.map V.int)[r.idxOf x]? = some (.int x) ∧ ∀ (m : Nat) (z : V), m < r.idxOf x → (r.map V.int)[m]? = some z → eqV z (.int x) = false
  | [], h => by cases h
  | t :: r, h => by
    by_cases q : t = x
    · rw [List.idxOf_cons]
      have e1 : (t == x) = true := by rw [q]; exact beq_self_eq_true x
      rw [e1]
      refine ⟨by rw [q]; rfl, fun m z hm => ?_⟩
      simp at hm
    · have e1 : (t == x) = false := beq_eq_false_iff_ne.mpr q
      have ha : x ∈ r := by
        rcases List.mem_cons.mp h with h | h
        · exact absurd h.symm q
        · exact h
      obtain ⟨i1, i2⟩ := index_at x r ha
      rw [List.idxOf_cons, e1]
      refine ⟨?_, fun m z hm hz => ?_⟩
      · show (V.int t :: r.map V.int)[r.idxOf x + 1]? = _
        rw [List.getElem?_cons_succ]
        exact i1
      · cases m with
        | zero =>
          rw [List.map_cons, List.getElem?_cons_zero] at hz
          cases hz
          exact e1
        | succ m =>
          rw [List.map_cons, List.getElem?_cons_succ] at hz
          have hm' : m + 1 < r.idxOf x + 1 := hm
          exact i2 m z (by omega) hz
end B2

namespace B2
open PySem L2

/-! ### Data of nested lists -/
theorem canLayAll_of : ∀ ds : List PyData, (∀ d ∈ ds, d.canLay0 = true) → PyData.canLayAll0 ds = true
  | [], _ => by simp [PyData.canLayAll0]
  | d :: ds, h => by
    have h1 := h d (List.mem_cons_self ..)
    have h2 := canLayAll_of ds (fun e he => h e (List.mem_cons_of_mem _ he))
    simp [PyData.canLayAll0, h1, h2]
theorem depthAll_of (k : Nat) : ∀ ds : List PyData, (∀ d ∈ ds, d.depth ≤ k) → PyData.depthAll ds ≤ k
  | [], _ => by simp [PyData.depthAll]
  | d :: ds, h => by
    have h1 := h d (List.mem_cons_self ..)
    have h2 := depthAll_of k ds (fun e he => h e (List.mem_cons_of_mem _ he))
    simp only [PyData.depthAll]
    omega

def dV : V → PyData
  | .bl b => .bool b
  | .int i => .int i
  | _ => .none
/-- None, truths and numbers -/
def plainV : V → Bool
  | .non => true
  | .bl _ => true
  | .int _ => true
  | _ => false
theorem dV_dp {K : PySem.W.Frag} {H : Hp} : ∀ v : V, plainV v = true → Dp K H v (dV v)
  | .non, _ => .non
  | .bl b, _ => .bl b
  | .int i, _ => .int i
  | .str _, h | .byt _, h | .flt _, h | .ref _, h | .ty _, h => by cases h
theorem dV_lay : ∀ v : V, (dV v).canLay0 = true ∧ (dV v).depth ≤ 1
  | .non | .bl _ | .int _ | .str _ | .byt _ | .flt _ | .ref _ | .ty _ => by simp [dV, PyData.canLay0, PyData.depth]
theorem dpAll_plain {K : PySem.W.Frag} {H : Hp} : ∀ vs : List V, (∀ v ∈ vs, plainV v = true) → DpAll K H vs (vs.map dV)
  | [], _ => .nil
  | v :: vs, h => .cons (dV_dp v (h v (List.mem_cons_self ..))) (dpAll_plain vs fun u hu => h u (List.mem_cons_of_mem _ hu))
/-- what a list of plain things, a list of such lists is as data -/
def dL (vs : List V) : PyData := .list (vs.map dV)
def dLL (vss : List (List V)) : PyData := .list (vss.map dL)
theorem dL_lay (vs : List V) : (dL vs).canLay0 = true ∧ (dL vs).depth ≤ 2 := by
  have h1 := canLayAll_of (vs.map dV) (fun d hd => by
    obtain ⟨v, _, rfl⟩ := List.mem_map.mp hd
    exact (dV_lay v).1)
  have h2 := depthAll_of 1 (vs.map dV) (fun d hd => by
    obtain ⟨v, _, rfl⟩ := List.mem_map.mp hd
    exact (dV_lay v).2)
  unfold dL
  simp only [PyData.canLay0, PyData.depth]
  exact ⟨h1, by omega⟩
theorem dLL_lay (vss : List (List V)) : (dLL vss).canLay0 = true ∧ (dLL vss).depth ≤ 3 := by
  have h1 := canLayAll_of (vss.map dL) (fun d hd => by
    obtain ⟨v, _, rfl⟩ := List.mem_map.mp hd
    exact (dL_lay v).1)
  have h2 := depthAll_of 2 (vss.map dL) (fun d hd => by
    obtain ⟨v, _, rfl⟩ := List.mem_map.mp hd
    exact (dL_lay v).2)
  unfold dLL
  simp only [PyData.canLay0, PyData.depth]
  exact ⟨h1, by omega⟩
theorem shaped_of {d : PyData} (h : d.canLay0 = true) (k : d.depth ≤ 64) : SeqAt.shaped d = true := by
  unfold SeqAt.shaped
  rw [h, decide_eq_true k]
  rfl
theorem dL_shaped (vs : List V) : SeqAt.shaped (dL vs) = true := shaped_of (dL_lay vs).1 (Nat.le_trans (dL_lay vs).2 (by decide))
theorem dLL_shaped (vss : List (List V)) : SeqAt.shaped (dLL vss) = true := shaped_of (dLL_lay vss).1 (Nat.le_trans (dLL_lay vss).2 (by decide))
theorem dL_refl (vs : List V) : (dL vs).eqv (dL vs) = true := SeqAt.eqv_refl _ (dL_lay vs).1
theorem dLL_refl (vss : List (List V)) : (dLL vss).eqv (dLL vss) = true := SeqAt.eqv_refl _ (dLL_lay vss).1

/-! ### Lists of lists in the heap -/
/-- at a a list of lists, whose items are the values vss -/
def TabV (K : PySem.W.Frag) (H : Hp) (a : Addr) (vss : List (List V)) : Prop :=
  ∃ as : List Addr, SqL K H a (as.map V.ref) ∧ as.length = vss.length ∧
    ∀ (i : Nat) (r : List V), vss[i]? = some r → ∃ b, as[i]? = some b ∧ SqL K H b r

theorem TabV.same {K : PySem.W.Frag} {H H' : Hp} {a : Addr} {vss : List (List V)} (e : Same H H') (t : TabV K H a vss) : TabV K H' a vss := by
  obtain ⟨as, h1, h2, h3⟩ := t
  refine ⟨as, e.seq h1, h2, fun i r hr => ?_⟩
  obtain ⟨b, hb, hs⟩ := h3 i r hr
  exact ⟨b, hb, e.seq hs⟩

theorem Tab.v {K : PySem.W.Frag} {H : Hp} {a : Addr} {ws : List (List Int)} (t : Tab K H a ws) : TabV K H a (ws.map fun r => r.map V.int) := by
  obtain ⟨as, h1, h2, h3⟩ := t
  refine ⟨as, h1, by rw [List.length_map]; exact h2, fun i r hr => ?_⟩
  rw [List.getElem?_map] at hr
  cases e : ws[i]? with
  | none => rw [e] at hr; cases hr
  | some q =>
    rw [e] at hr
    cases hr
    exact h3 i q e

theorem TabV.t {K : PySem.W.Frag} {H : Hp} {a : Addr} {ws : List (List Int)} (t : TabV K H a (ws.map fun r => r.map V.int)) : Tab K H a ws := by
  obtain ⟨as, h1, h2, h3⟩ := t
  refine ⟨as, h1, by rw [h2, List.length_map], fun i r hr => ?_⟩
  exact h3 i _ (by rw [List.getElem?_map, hr]; rfl)

theorem dpAll_refs {K : PySem.W.Frag} {H : Hp} : ∀ (as : List Addr) (vss : List (List V)), as.length = vss.length →
    (∀ (i : Nat) (r : List V), vss[i]? = some r → ∃ b, as[i]? = some b ∧ SqL K H b r) → (∀ r ∈ vss, ∀ v ∈ r, plainV v = true) →
    DpAll K H (as.map V.ref) (vss.map dL)
  | [], [], _, _, _ => .nil
  | [], _ :: _, h, _, _ => by cases h
  | _ :: _, [], h, _, _ => by cases h
  | a :: as, r :: vss, h, g, p => by
    obtain ⟨b, hb, hs⟩ := g 0 r rfl
    cases hb
    refine .cons (.lst hs (dpAll_plain r (p r (List.mem_cons_self ..)))) (dpAll_refs as vss (Nat.succ.inj h) (fun i q hq => ?_) fun q hq => p q (List.mem_cons_of_mem _ hq))
    exact g (i + 1) q hq

theorem TabV.dp {K : PySem.W.Frag} {H : Hp} {a : Addr} {vss : List (List V)} (t : TabV K H a vss) (p : ∀ r ∈ vss, ∀ v ∈ r, plainV v = true) : Dp K H (.ref a) (dLL vss) := by
  obtain ⟨as, h1, h2, h3⟩ := t
  exact .lst h1 (dpAll_refs as vss h2 h3 p)

theorem plain_ints (ws : List (List Int)) : ∀ r ∈ (ws.map fun r => r.map V.int), ∀ v ∈ r, plainV v = true := by
  intro r hr v hv
  obtain ⟨q, _, rfl⟩ := List.mem_map.mp hr
  obtain ⟨i, _, rfl⟩ := List.mem_map.mp hv
  rfl

theorem Tab.dp {K : PySem.W.Frag} {H : Hp} {a : Addr} {ws : List (List Int)} (t : Tab K H a ws) : Dp K H (.ref a) (dLL (ws.map fun r => r.map V.int)) := t.v.dp (plain_ints ws)

/-- a list of new objects (f r for the items r) that is being built at D: all that stood in H stands -/
def BuiltF {α : Type} (f : α → HO) (H : Hp) (D : Addr) (vss : List α) (H' : Hp) : Prop :=
  Same H H' ∧ ∃ as : List Addr, H' D = some (.lst (as.map V.ref)) ∧ as.length = vss.length ∧
    ∀ (i : Nat) (r : α), vss[i]? = some r → ∃ b, as[i]? = some b ∧ H' b = some (f r) ∧ b ≠ D ∧ H b = none

abbrev Built (H : Hp) (D : Addr) (vss : List (List V)) (H' : Hp) : Prop := BuiltF HO.lst H D vss H'

theorem built_start {α : Type} {f : α → HO} {H : Hp} {D : Addr} (h : H D = none) : BuiltF f H D [] (upd H D (.lst [])) :=
  ⟨same_new h _, [], upd_same, rfl, fun i r hr => by cases hr⟩

theorem built_step {α : Type} {f : α → HO} {H H1 H2 : Hp} {D p : Addr} {vss : List α} {r : α} (hD : H D = none) (b : BuiltF f H D vss H1) (e : Same H1 H2) (hp : H1 p = none) (hp2 : H2 p = some (f r)) :
    ∃ acc, H2 D = some (.lst acc) ∧ acc.length = vss.length ∧ BuiltF f H D (vss ++ [r]) (upd H2 D (.lst (acc ++ [.ref p]))) := by
  obtain ⟨s, as, h1, h2, h3⟩ := b
  have npD : p ≠ D := (ne_of_none h1 hp).symm
  refine ⟨_, e _ _ h1, by rw [List.length_map]; exact h2, same_put (s.trans e) hD _, as ++ [p], ?_, ?_, fun i q hq => ?_⟩
  · rw [upd_same, List.map_append]
    rfl
  · rw [List.length_append, List.length_append, h2]
    rfl
  · rw [List.getElem?_append] at hq
    rw [List.getElem?_append]
    by_cases c : i < vss.length
    · rw [if_pos c] at hq
      rw [if_pos (by rw [h2]; exact c)]
      obtain ⟨b, b1, b2, b3, b4⟩ := h3 i q hq
      exact ⟨b, b1, by rw [upd_ne b3]; exact e _ _ b2, b3, b4⟩
    · rw [if_neg c] at hq
      rw [if_neg (by rw [h2]; exact c)]
      have i0 : i - vss.length = 0 := by
        have := (List.getElem?_eq_some_iff.mp hq).1
        simp at this
        omega
      rw [i0] at hq
      cases hq
      rw [h2, i0]
      exact ⟨p, rfl, by rw [upd_ne npD]; exact hp2, npD, s.free hp⟩

theorem BuiltF.on {α : Type} {f : α → HO} {H H1 H2 : Hp} {D : Addr} {vss : List α} (B : BuiltF f H D vss H1) (e : Same H1 H2) : BuiltF f H D vss H2 := by
  obtain ⟨s, as, h1, h2, h3⟩ := B
  refine ⟨s.trans e, as, e _ _ h1, h2, fun i r hr => ?_⟩
  obtain ⟨b, b1, b2, b3, b4⟩ := h3 i r hr
  exact ⟨b, b1, e _ _ b2, b3, b4⟩

theorem Built.tab {K : PySem.W.Frag} {H H' : Hp} {D : Addr} {vss : List (List V)} (b : Built H D vss H') : TabV K H' D vss := by
  obtain ⟨s, as, h1, h2, h3⟩ := b
  refine ⟨as, SqL.of h1, h2, fun i r hr => ?_⟩
  obtain ⟨b, b1, b2, _⟩ := h3 i r hr
  exact ⟨b, b1, SqL.of b2⟩

theorem map_int_get {r : List Int} {i : Nat} {x : V} (h : (r.map V.int)[i]? = some x) : ∃ y, r[i]? = some y ∧ x = .int y := by
  rw [List.getElem?_map] at h
  cases e : r[i]? with
  | none => rw [e] at h; cases h
  | some y =>
    rw [e] at h
    exact ⟨y, rfl, (Option.some.inj h).symm⟩

theorem map_ref_get {r : List Addr} {i : Nat} {x : V} (h : (r.map V.ref)[i]? = some x) : ∃ y, r[i]? = some y ∧ x = .ref y := by
  rw [List.getElem?_map] at h
  cases e : r[i]? with
  | none => rw [e] at h; cases h
  | some y =>
    rw [e] at h
    exact ⟨y, rfl, (Option.some.inj h).symm⟩

theorem take_one {α : Type} {xs : List α} {i : Nat} {x : α} (h : xs[i]? = some x) : xs.take (i + 1) = xs.take i ++ [x] := by
  rw [List.take_add_one, h]
  rfl

theorem seqIx {i : Int} {n : Nat} (h0 : 0 ≤ i) (h1 : i < (n : Int)) : seqIndex? i n = some i.toNat := by
  have e1 : ¬ (i < 0) := by omega
  unfold seqIndex?
  simp only [if_neg e1]
  rw [decide_eq_true h0, decide_eq_true h1]
  rfl

theorem map_erase {α β : Type} (f : α → β) : ∀ (l : List α) (k : Nat), (l.map f).eraseIdx k = (l.eraseIdx k).map f
  | [], _ => rfl
  | _ :: _, 0 => rfl
  | a :: l, k + 1 => by
    show f a :: (l.map f).eraseIdx k = f a :: (l.eraseIdx k).map f
    rw [map_erase f l k]

theorem le_line {n : Nat} (h : n ≤ 1000) : n ≤ sizeLine := Nat.le_of_lt (small1000 h)

theorem cut_take (r : List Int) (k : Int) : ∃ m, cutV (r.map V.int) none (some k) = (r.take m).map V.int := by
  refine ⟨HT.sIx (r.map V.int).length (r.map V.int).length (some k) - 0, ?_⟩
  unfold cutV
  have e0 : HT.sIx (r.map V.int).length 0 none = 0 := rfl
  rw [e0, List.drop_zero, List.map_take]
/-! ### Rules within a comprehension's block, whose K is the def's -/
def rLof (K : PySem.W.Frag) : List V → Hp → VK → Prop := fun xs H Q => ∃ p ys, xs = [.ref p] ∧ (SqL K H p ys ∨ SqT K H p ys) ∧ ∀ l, H l = none → Q (.ref l) (upd H l (.lst ys))
theorem call_lof {X : Cx} {K : PySem.W.Frag} (h : X.K = K) : CallR X (.type "list") (rLof K) := by
  subst h
  exact call_list_of

theorem ix_lst {X : Cx} {K : PySem.W.Frag} (h : X.K = K) : IxR X (rIxL K) := by
  subst h
  exact ix_list
theorem in_lst {X : Cx} {K : PySem.W.Frag} (h : X.K = K) : OpR X (compareOp .In) (rIn K false) := by
  subst h
  exact op_in_seq
def rLenOf (K : PySem.W.Frag) : List V → Hp → VK → Prop := fun xs H Q => ∃ p ys, xs = [.ref p] ∧ (SqL K H p ys ∨ SqT K H p ys) ∧ Q (.int ys.length) H
theorem len_lst {X : Cx} {K : PySem.W.Frag} (h : X.K = K) : CallR X (.builtin "len") (rLenOf K) := by
  subst h
  exact call_len_seq

theorem suitsB_self {ws : List (List Int)} (hG : Good ws) {g : Int} (h0 : 0 ≤ g) (h1 : g < (ws.length : Int)) : suitsB ws g g = false := by
  have : ¬ g ∈ rowOf ws g := fun h => ((rowOf_good hG h0 h1).rg g h).2.2 rfl
  unfold suitsB
  rw [decide_eq_false this]
  rfl

end B2

namespace B2
open PySem L2 PyProof.Rows

/-! ### len(set(xs)) of any numbers -/
def metN (us : List Int) : List Int := firstMet (fun i => us.getD i 0) us.length
theorem met_full (us : List Int) : ∀ i, i ≤ us.length → (firstMet (fun i => us.getD i 0) i).length = i → (us.take i).Nodup ∧ firstMet (fun i => us.getD i 0) i = us.take i
  | 0, _, _ => ⟨List.nodup_nil, rfl⟩
  | i + 1, hi, hl => by
    have hg : us[i]? = some (us.getD i 0) := by
      rw [List.getD_eq_getElem?_getD, List.getElem?_eq_getElem (show i < us.length from hi)]
      rfl
    have hle := firstMet_length_le (fun i => us.getD i 0) i
    rw [firstMet_succ] at hl ⊢
    unfold step_dedup at hl ⊢
    by_cases c : (firstMet (fun i => us.getD i 0) i).any (fun x => x == us.getD i 0) = true
    · rw [if_pos c] at hl
      omega
    · rw [if_neg c] at hl ⊢
      rw [List.length_append, List.length_singleton] at hl
      obtain ⟨h1, h2⟩ := met_full us i (by omega) (by omega)
      rw [h2] at c ⊢
      refine ⟨?_, (take_one hg).symm⟩
      rw [take_one hg, List.nodup_append]
      refine ⟨h1, by simp, fun x hx y hy e => ?_⟩
      rw [List.mem_singleton] at hy
      exact c (List.any_eq_true.mpr ⟨x, hx, by rw [e, hy]; exact beq_self_eq_true _⟩)
theorem met_less {us : List Int} (h : ¬ us.Nodup) : (metN us).length < us.length := by
  have h1 := firstMet_length_le (fun i => us.getD i 0) us.length
  refine Classical.byContradiction fun z => h ?_
  have h2 := (met_full us us.length (Nat.le_refl _) (by unfold metN at z; omega)).1
  rw [List.take_length] at h2
  exact h2
theorem met_same {us : List Int} (h : us.Nodup) : (metN us).length = us.length := by
  unfold metN
  rw [RZ.firstMet_nodup h _ (Nat.le_refl _), List.take_length]
def tSetLen (K : PySem.W.Frag) (ta : TE) : TE := fun σ H Q => ta σ H fun x H1 => ∃ (p : Addr) (us : List Int), x = .ref p ∧ SqL K H1 p (us.map V.int) ∧ us.length ≤ 4000 ∧ Q (.int ((metN us).length : Nat)) H1
theorem pe_setLen {X : Cx} {e : Expr} {te : TE} {p1 p2 p3 p4 : Pos} (gl : Gl X "len") (ml : X.mg "len" = none) (gs : Gl X "set") (ms : X.mg "set" = none) (he : PE X e te) (calm : X.calm = true := by rfl)
    (plain : starEach [e] X.env = (false, eval e X.env) :: starEach [] X.env := by rfl) : PE X (.Call (.Name "len" p1) [.Call (.Name "set" p2) [e] [] p3] [] p4) (tSetLen X.K te) := by
  constructor
  intro pins s σ H Q inv hyp
  refine Call_ (ld_blt inv gl ml boot_len (callWith_builtin1 (args_cons ?_ rfl) rfl rfl))
  refine Call_ (ld_blt inv gs ms boot_set (callWith_type1 (args_cons ?_ plain) plain rfl))
  refine thn (he.run pins s σ H _ inv hyp) fun v s1 ⟨x, H1, inv1, rx, hx⟩ => args_nil ?_
  obtain ⟨p, us, ex, hS, small, fin⟩ := hx
  subst ex
  cases rx
  obtain ⟨vs, rv, stands, _⟩ := inv1.list hS
  have size : vs.toArray.size = us.length := by rw [List.size_toArray, ← rv.length, List.length_map]
  refine call_set_list (inv1.ok.hd calm) stands.isList (by simpa using RZ.intsAre_vals rv) (by rw [size]; unfold scanBound; omega) fun h2 tk set2 keep => args_nil ?_
  rw [size] at set2
  obtain ⟨o, es, ep, t, get, exact', dat, _, _, _, fits, count⟩ := set2
  have inv2 : Inv X pins σ H1 { s1 with heap := h2, toks := tk } := inv1.kept fun b o e => keep b o (Heap.lt_size e) e
  have few := firstMet_length_le (fun i => us.getD i 0) us.length
  have count' : es.size = (metN us).length := count
  have few' : (metN us).length ≤ us.length := few
  refine call_len_set get exact' dat fits (by rw [count'] <;> omega) ⟨.int (metN us).length, H1, inv2.tok _, ⟨_, by rw [count']⟩, fin⟩

/-! ### Texts that are put together for an error: which text does not matter -/
def Sm (t : TE) (σ : L2.St) (H : Hp) : Prop := ∀ Q : VK, (∀ y : Str, y.length ≤ 1000 → Q (.str y) H) → t σ H Q
theorem sm_str {c : Str} {σ : L2.St} {H : Hp} (h : c.length ≤ 1000) : Sm (tC (.str c)) σ H := fun Q q => q c h
theorem small_text {g : Int} (h0 : 0 ≤ g) (h7 : g ≤ 7) : (Str.ofString (toString g)).length ≤ 1000 := by
  have : g = 0 ∨ g = 1 ∨ g = 2 ∨ g = 3 ∨ g = 4 ∨ g = 5 ∨ g = 6 ∨ g = 7 := by omega
  rcases this with h | h | h | h | h | h | h | h <;> (subst h; decide +kernel)
theorem small_log {g : Int} (h0 : 0 ≤ g) (h7 : g ≤ 7) : g.natAbs.log2 < 1920 := by
  have : g = 0 ∨ g = 1 ∨ g = 2 ∨ g = 3 ∨ g = 4 ∨ g = 5 ∨ g = 6 ∨ g = 7 := by omega
  rcases this with h | h | h | h | h | h | h | h <;> (subst h; decide +kernel)
theorem sm_fmt {te : TE} {σ : L2.St} {H : Hp} {g : Int} (h : ∀ Q : VK, Q (.int g) H → te σ H Q) (h0 : 0 ≤ g) (h7 : g ≤ 7) : Sm (tFmt te) σ H := fun Q q =>
  h _ (.inr ⟨g, rfl, small_log h0 h7, q _ (small_text h0 h7)⟩)
theorem js_small {σ : L2.St} {H : Hp} : ∀ (ts : List TE) (acc : Str) (Q : Str → Hp → Prop), (∀ t ∈ ts, Sm t σ H) → acc.length + 1000 * ts.length ≤ 1000000 → (∀ out, Q out H) → tJs ts acc σ H Q
  | [], acc, Q, _, _, q => q acc
  | t :: ts, acc, Q, h, hl, q => by
    rw [List.length_cons] at hl
    show t σ H fun x H1 => ∃ y : Str, x = .str y ∧ (acc ++ y).length ≤ sizeLine ∧ tJs ts (acc ++ y) σ H1 Q
    refine h t (List.mem_cons_self ..) _ fun y hy => ⟨y, rfl, ?_, js_small ts (acc ++ y) Q (fun u hu => h u (List.mem_cons_of_mem _ hu)) ?_ q⟩
    · rw [Str.length_append]
      exact Nat.le_of_lt (by unfold sizeLine; omega)
    · rw [Str.length_append]; omega

/-! ### Own errors -/
structure ErrC (K : PySem.W.Frag) (mg : Str → Option Value) (x : Str) (C : Addr) : Prop where
  g : mg x = some (.ref C)
  ex : PySem.W.excIn K C [.type "ValueError", .type "Exception", .type "BaseException", .type "object"] "ValueError.__new__" = true
  k : PySem.W.keepIn K (.ref C) = true
  b : PySem.W.subIn K (.ref C) (.type "BaseException") = some true
  t : PySem.W.typeIn K (.ref C) = some (.type "type")

/-- what a caller wants of a def that may raise -/
structure CalX (P : Program) (w : World) (K : PySem.W.Frag) (mg : Str → Option Value) (base : Heap) (k : Nat) (x : Str) (ps : List Str) (sp : Sp) : Prop where
  ex : ∃ (g : Addr) (gd : FuncData), FnOk P w K mg base (L2N.CX P w) k g gd ps sp ∧ mg x = some (.ref g) ∧ PySem.W.keepIn K (.ref g) = true ∧ Binds K gd ps []

/-- isinstance of the error that a suite holds -/
def rIsEG (K : PySem.W.Frag) (cls : Value) (d : Option Addr) (a : Addr) : List V → Hp → VK → Prop := fun xs H Q => ∃ D, cls = .ref D ∧ d = none ∧ ExcC K D ∧ rIsE K D a xs H Q
theorem call_isEG {X : Cx} {K : PySem.W.Frag} (hK : X.K = K) {a : Addr} {oe : Obj} {cls : Value} {d : Option Addr} {pn : List (Addr × Obj)} (hz : Zc cls d oe) (hf : ∃ vs, oe.data = .fields vs) :
    CallR (X.suite a ((a, oe) :: pn)) (.builtin "isinstance") (rIsEG K cls d a) := by
  subst hK
  rintro pins s σ H xs us Q I r ⟨D, e1, e2, C, h⟩
  subst e1 e2
  exact call_isE C hz hf pins s σ H xs us Q I r h
/-- .. against a tuple of classes that was just laid -/
def rIsET (K : PySem.W.Frag) (cls : Value) (d : Option Addr) (a : Addr) : List V → Hp → VK → Prop := fun xs H Q => ∃ D, cls = .ref D ∧ d = none ∧ ExcC K D ∧
  ∃ (tp : Addr) (cs : List V) (ws : List Value) (b : Bool), xs = [.ref a, .ref tp] ∧ H tp = some (.tup cs) ∧ Paired ClsV cs ws ∧ PySem.W.kitAny K (.ref D) ws = some b ∧ Q (.bl b) H
theorem call_isET {X : Cx} {K : PySem.W.Frag} (hK : X.K = K) {a : Addr} {oe : Obj} {cls : Value} {d : Option Addr} {pn : List (Addr × Obj)} (hz : Zc cls d oe) (hf : ∃ vs, oe.data = .fields vs) :
    CallR (X.suite a ((a, oe) :: pn)) (.builtin "isinstance") (rIsET K cls d a) := by
  subst hK
  rintro pins s σ H xs us Q I r ⟨D, e1, e2, C, tp, cs, ws, b, e3, hT, pr, hk, q⟩
  subst e1 e2 e3
  obtain ⟨u1, u2, e4, r1, r2⟩ := vals2 r
  subst e4
  cases r1
  cases (show u2 = Value.ref tp from r2)
  obtain ⟨here, _⟩ := I.pin (a, oe) (List.mem_append.mpr (.inl List.mem_cons_self))
  obtain ⟨vs, dat⟩ := hf
  have inst : PySem.W.InstAt s.heap a oe D none := by
    obtain ⟨oc, od, oda, osl⟩ := oe
    obtain ⟨z1, z2⟩ := hz
    dsimp only at z1 z2 dat
    subst z1 z2 dat
    exact ⟨here, rfl, rfl, trivial⟩
  obtain ⟨_, its, rv, o, g1, g2, n, g3⟩ := (show ObjOk X.prog X.w H s.heap tp (.tup cs) from I.hok tp _ hT)
  have e5 := ClsV.all pr rv
  subst e5
  obtain ⟨oc, od, dt, sl⟩ := o
  simp only at g2 g3
  subst g2 g3
  exact PySem.W.kia_tup (PySem.W.handS_kitx_exc C.hg C.hk C.hs C.hd C.ha C.hn C.ht C.hm) I.kIn inst g1 hk (fun z => nomatch z) fun tk => ⟨.bl b, H, I.kept (t' := tk) fun _ _ z => z, rfl, q⟩

/-- an own class: what isinstance and except say of it -/
structure ClsK (K : PySem.W.Frag) (C : Addr) : Prop where
  d : PySem.W.hasDictIn K C = true
  t : PySem.W.typeIn K (.ref C) = some (.type "type")
  b : PySem.W.subIn K (.ref C) (.type "BaseException") = some true
theorem kit_own {K : PySem.W.Frag} {C D : Addr} {b : Bool} (c : ClsK K C) (s : PySem.W.subIn K (.ref D) (.ref C) = some b) (self : PySem.W.subIn K (.ref D) (.ref D) = some true) : PySem.W.kitOne K (.ref D) (.ref C) = some b := by
  unfold PySem.W.kitOne
  by_cases e : ((Value.ref D : Value) == .ref C) = true
  · rw [if_pos e]
    have e2 : D = C := Value.ref.inj (beq_iff_eq.mp e)
    subst e2
    rw [self] at s
    exact s
  · rw [if_neg e]
    obtain ⟨cd, hc, _⟩ := PySem.W.any_some c.d
    have e2 : ((PySem.W.clsIn K C).isSome && PySem.W.typeIn K (.ref C) == some (.type "type")) = true := by rw [hc, c.t]; rfl
    show (if ((PySem.W.clsIn K C).isSome && PySem.W.typeIn K (.ref C) == some (.type "type")) = true then PySem.W.subIn K (.ref D) (.ref C) else none) = some b
    rw [if_pos e2]
    exact s
theorem kit_val {K : PySem.W.Frag} {D : Addr} (s : PySem.W.subIn K (.ref D) (.type "ValueError") = some true) : PySem.W.kitOne K (.ref D) (.type "ValueError") = some true := by
  unfold PySem.W.kitOne
  have e : ((Value.ref D : Value) == .type "ValueError") = false := by
    apply beq_eq_false_iff_ne.mpr
    intro z
    cases z
  rw [e, if_neg Bool.false_ne_true]
  show (if PySem.W.kitMeta "ValueError" = true then PySem.W.subIn K (.ref D) (.type "ValueError") else none) = some true
  rw [if_pos (by decide +kernel)]
  exact s
theorem exm_own {K : PySem.W.Frag} {C : Addr} {cls : Value} {b : Bool} (c : ClsK K C) (s : PySem.W.subIn K cls (.ref C) = some b) : PySem.W.exmOne K cls (.ref C) = some b := PySem.W.exm_ref c.b c.d c.t s
theorem any_no {K : PySem.W.Frag} {t c : Value} {r : List Value} {b : Bool} (h : PySem.W.kitOne K t c = some false) (h2 : PySem.W.kitAny K t r = some b) : PySem.W.kitAny K t (c :: r) = some b := by
  unfold PySem.W.kitAny
  rw [h]
  exact h2
end B2

namespace L2
open PySem PySem.Spec PyProof.Rows
/-- a def that may raise; of its errors it is known that they hang on no other -/
theorem Fun.okN {P : Program} {w : World} {K : PySem.W.Frag} {mg : Str → Option Value} {base : Heap} {nm full : Str} {stm : Stmt} {adr : Addr} {dat : FuncData} {names given : List Str} {lv : Nat} {pr : Sp}
    (D : Fun K nm full stm adr dat) (sc : FnScope names given (defScope stm)) (few : ∀ vs H Q E, pr vs H Q E → vs.length = given.length)
    (does : ∀ (cdv : Value) (A : Around) (outer : List Env) (s : Shared) (H : Hp) (vs : List V) (Q : VK) (E : XK), Room lv (A.deeper (envOfC full (defScope stm) s.heap.objs.size adr cdv)) → pr vs H Q E →
      ∃ tr, PSs (cxOf (L2N.CX P w) P w K mg base names full (defScope stm) adr cdv A outer s H E) (defBody stm) tr ∧ tr { nx := fun _ H2 => Q .non H2, rt := Q } (start names vs) H) : FnOk P w K mg base (L2N.CX P w) (lv + 1) adr dat given pr := by
  obtain ⟨_, _, _, _, _, _, code, _, _, e, stands, here⟩ := D.ex
  subst e
  exact fn_of stands here sc few fun A out s H vs Q E room ask => does code A out s H vs Q E room ask
end L2
namespace B2
open PySem PySem.Spec PyProof.Rows L2
theorem takesN0 {X : Cx} : L2N.Takes X (fun _ _ _ _ => False) := fun u t air => by
  obtain ⟨_, _, _, _, _, _, _, _, _, _, _, _, _, _, _, _, never⟩ := air
  exact never.elim
/-- a new error of an own class, with what it tells -/
theorem pmk_ownAN {X : Cx} {pos : Pos} {cls : Addr} {tail : List Value} {Bn newN initN : String} {nm : Str} {at_ : Pos} {e1 : Expr} {more : List Expr} {ta : TA} (facts : ExcBaseFacts Bn newN initN tail) (isx : PySem.W.excIn X.K cls tail newN = true)
    (stands : X.mg nm = some (.ref cls)) (kept : PySem.W.keepIn X.K (.ref cls) = true) (rs : Raises X (.ref cls)) (glob : Gl X nm) (args : PA X (e1 :: more) ta) (nodb : (nm == ("__debug__" : Str)) = false := by decide)
    (nostar : starEach (e1 :: more) X.env = (false, eval e1 X.env) :: starEach more X.env := by rfl) (nostar2 : (backTo pos (starEach more X.env)).any (·.1) = false := by rfl) :
    L2N.PMk X (.Call (.Name nm at_) (e1 :: more) [] pos) (fun σ H Q => ta σ H fun vs H2 => vs.length ≤ sizeLine ∧ Q (.ref cls) none H2) := by
  intro pins s σ H Q inv ask
  refine wpAny_Call_Name_kw (ld_glob inv glob stands ?_ nodb)
  have step := args.run pos pins s σ H _ inv ask
  refine PySem.W.callWith_K (h₀ := X.base) inv.ok.mod.kin kept (thn step fun us t got => ?_) nostar nostar2
  obtain ⟨vs, H2, inv2, rel, small, ask2⟩ := got
  refine ⟨inv2.kIn, ?_⟩
  show wpAny _ _ (call (.ref cls) us) _ _ _
  obtain ⟨_, _, _, _, _, _, _, _, _, _, _, _, _, _, _, _, _, hC, hN, hni, Tl⟩ := exc_obj inv2.kIn isx
  exact wpAny_call_exc_subT facts Tl hC hN hni (fun h2 e made => L2N.mk_of inv2 made rs ask2 (inv2.hok.gone made.new)) (by rw [← rel.length]; exact small)
/-- in an except suite: what is handled hangs on no other -/
theorem hot_suite {X : Cx} {a : Addr} {oe : Obj} {cls : Value} {d : Option Addr} {pn : List (Addr × Obj)} (z : L2N.Zn cls d oe) (f : ∃ vs, oe.data = .fields vs) : L2H.HotC (X.suite a ((a, oe) :: pn)) := by
  obtain ⟨vs, e⟩ := f
  exact ⟨(a, oe), ⟨rfl, vs, e, z.2.2 vs e⟩, List.mem_cons_self⟩

/-! ### A list comprehension in an except suite -/
/-- the block's context, the handled error p pinned -/
abbrev hotBlk (X : Cx) (s : Shared) (H : Hp) (scope : Scope) (ce : Env) (fp : List Addr) (p : Addr × Obj) : Cx := (X.blk s H scope ce fp).tr [p] (fun _ _ => False)
theorem pe_lcH {X : Cx} {elt tg iter : Expr} {ifs : List Expr} {scope : Scope} {own : List (Str × Nat)} {pos : Pos} {wi : TI} {g : TG} {tt : TT} {te : TE} (hot : L2H.HotC X) (nd : X.N.Nodup) (walked : L2H.PIH X tg iter wi) (ok : BlkOk X.N X.env.scope scope own)
    (rg : ∀ (s : Shared) (H : Hp) (C : Addr) (cl : List (Str × Addr)) (fp : List Addr) (p : Addr × Obj), PG (hotBlk X s H scope (compEnvC scope cl C X.env) fp p) tg g)
    (rt : ∀ (s : Shared) (H : Hp) (C : Addr) (cl : List (Str × Addr)) (fp : List Addr) (p : Addr × Obj), PTs (hotBlk X s H scope (compEnvC scope cl C X.env) fp p) ifs tt)
    (re : ∀ (s : Shared) (H : Hp) (C : Addr) (cl : List (Str × Addr)) (fp : List Addr) (p : Addr × Obj), PE (hotBlk X s H scope (compEnvC scope cl C X.env) fp p) elt te)
    (unfolded : ∀ x, foldedSetIterable iter X.env x = pure x := by intro _; rfl) : PE X (.ListComp elt [⟨tg, iter, ifs, 0⟩] scope pos) (tLc wi g tt te (own.map (·.2))) := by
  constructor
  intro pins s σ H Q inv ask
  obtain ⟨p, hot1, pin⟩ := hot
  rw [eval_ListComp]
  have free : ∀ y ∈ scope.names, y.2 = .free → ∃ c, X.env.cells.lookup y.1 = some c := by
    intro y hy e
    exact (ok.free y hy e).elim (fun k => inv.ok.has _ (.inl k)) fun k => inv.ok.has _ (.inr k)
  have names : ∀ y ∈ scope.names, y.2 = .local → scope.names.lookup y.1 = some .local := by
    intro y hy e
    rw [ok.uniq y hy, e]
  refine wpAny_comprehension_free (use := none) rfl unfolded (closure_ok free) ok.kind names ?_
  refine thn (walked.run pins s σ H _ inv ask) fun v s1 h1 => thn h1 fun w s2 h2 => ?_
  obtain ⟨it, fp, tn, J, H2, e, inv2, T, t0, fresh, wish⟩ := h2
  subst e
  refine wpAny_newObj_type (newEnv_comp ?_) (by show 0 ≤ sizeLine; decide)
  have newD : H2 s2.heap.objs.size = none := inv2.hok.fresh (Nat.le_refl _)
  obtain ⟨W, ⟨m0, w0⟩, turns⟩ := wish _ newD
  obtain ⟨D, eD⟩ : ∃ D, D = s2.heap.objs.size := ⟨_, rfl⟩
  rw [← eD] at newD w0 turns ⊢
  obtain ⟨H3, e6⟩ : ∃ H3 : Hp, H3 = upd H2 D (.lst []) := ⟨_, rfl⟩
  rw [← e6] at w0
  -- the state with the new list
  obtain ⟨s3, e3⟩ : ∃ s3 : Shared, s3 = { s2 with heap := s2.heap.push { cls := .type "list", data := .seq ([] : List Value).toArray } } := ⟨_, rfl⟩
  have grown : s3.heap = s2.heap.push { cls := .type "list", data := .seq ([] : List Value).toArray } := by rw [e3]
  have inv3 : Inv X pins σ H3 s3 := by
    subst e3 e6
    refine inv2.laid (t' := s2.toks) (fun b o e => Heap.get?_push_of_some _ e) (Nat.le_of_eq eD.symm) ⟨Nat.zero_le _, [], 0, .nil, ?_⟩
    subst eD
    exact Heap.get?_push_size _ rfl
  have below : ∀ b, b < s2.heap.objs.size → b < s3.heap.objs.size := fun b h => by rw [grown, Heap.size_push]; exact Nat.lt_succ_of_lt h
  have notD : ∀ b, b < s2.heap.objs.size → b ≠ D := fun b h z => by rw [z, eD] at h; exact Nat.lt_irrefl _ h
  have stay3 : ∀ b o, s2.heap.get? b = some o → s3.heap.get? b = some o := fun b o e => by rw [grown]; exact Heap.get?_push_of_some _ e
  have fpLt : ∀ b ∈ fp, b < s2.heap.objs.size := fun b hb => by
    obtain ⟨_, e, _⟩ := T.obj _ _ t0 b hb
    exact Heap.lt_size e
  have fp3 : ∀ b ∈ fp, FpOk X pins H3 b ∧ b < s3.heap.objs.size := fun b hb =>
    ⟨⟨(by rw [e6]; exact (upd_ne (notD b (fpLt b hb))).trans (fresh b hb).1), (fresh b hb).2⟩, below b (fpLt b hb)⟩
  have t3 : tn 0 s3.heap := T.keep _ _ _ t0 fun b _ o e => stay3 b o e
  have start4 := block_start inv3 ok nd fp3
  -- the handled error, as it stands there
  obtain ⟨pe1, pe2, pe3, pe4, pe5⟩ := inv2.pin p (List.mem_append_left _ pin)
  have pLt := Heap.lt_size pe1
  obtain ⟨cells, ec⟩ : ∃ cells, cells = cellsFrom (s3.heap.objs.size + 1) scope.names (cloFrom X.env.cells scope.names []) := ⟨_, rfl⟩
  obtain ⟨ce, ee⟩ : ∃ ce, ce = compEnvC scope cells s3.heap.objs.size X.env := ⟨_, rfl⟩
  have rgC := rg s3 H3 s3.heap.objs.size cells fp p
  have rtC := rt s3 H3 s3.heap.objs.size cells fp p
  have reC := re s3 H3 s3.heap.objs.size cells fp p
  rw [← ec, ← ee] at start4
  rw [← ee] at rgC rtC reC
  have locC : ce.locals = s3.heap.objs.size := by rw [ee]; rfl
  rw [← grown]
  show codeAny _ _ (.compStart (.ListComp elt [⟨tg, iter, ifs, 0⟩] scope pos) 0 (.ref it) (.ref D) (compEnvC scope (cellsFrom (s3.heap.objs.size + 1) scope.names (cloFrom X.env.cells scope.names [])) s3.heap.objs.size X.env))
    (compPost (model X.prog X.w) X.A X.xe none (EP X pins σ Q) (.ref D) s3.heap.objs.size) { s2 with heap := pushCells (s3.heap.push { cls := .type "dict", data := .dict #[] }) scope.names }
  have e34 : ({ s2 with heap := pushCells (s3.heap.push { cls := .type "dict", data := .dict #[] }) scope.names } : Shared) = { s3 with heap := pushCells (s3.heap.push { cls := .type "dict", data := .dict #[] }) scope.names } := by rw [e3]
  rw [e34, ← ec, ← ee]
  obtain ⟨s4, e4⟩ : ∃ s4 : Shared, s4 = { s3 with heap := pushCells (s3.heap.push { cls := .type "dict", data := .dict #[] }) scope.names } := ⟨_, rfl⟩
  rw [← e4] at start4 ⊢
  have stay4 : ∀ b o, s3.heap.get? b = some o → s4.heap.get? b = some o := fun b o e => by rw [e4]; exact pushCells_keeps _ _ _ _ (Heap.get?_push_of_some _ e)
  have t4 : tn 0 s4.heap := T.keep _ _ _ t3 fun b _ o e => stay4 b o e
  have pinned4 : Inv (X.blk s3 H3 scope ce fp) [p] (wipe σ (own.map (·.2))) H3 s4 := by
    refine ⟨start4.ok, start4.os, start4.bare, start4.base, start4.loc, start4.cell, start4.free, start4.freeC, fun q hq => ?_, start4.hok, start4.len⟩
    obtain rfl := List.mem_singleton.mp (show q ∈ [p] from hq)
    refine ⟨stay4 _ _ (stay3 _ _ pe1), (by rw [e6]; exact (upd_ne (notD _ pLt)).trans pe2), ?_, fun z => ?_, pe5⟩
    · show q.1 ≠ ce.locals
      rw [locC]
      exact Nat.ne_of_lt (below _ pLt)
    · exact (List.mem_cons.mp (inv3.stkSub q.1 z)).elim pe3 pe4
  have inv4 : Inv (hotBlk X s3 H3 scope ce fp p) [] (wipe σ (own.map (·.2))) H3 s4 := pinned4.toTry fun _ _ => False
  have hotB : L2H.HotC (hotBlk X s3 H3 scope ce fp p) := ⟨p, hot1, List.mem_cons_self⟩
  have free3 : ∀ b ∈ fp, H3 b = none := fun b hb => (fp3 b hb).1.1
  -- the iterator's objects may turn
  have may : ∀ {σ' : L2.St} {H' : Hp} {s' : Shared}, Inv (hotBlk X s3 H3 scope ce fp p) [] σ' H' s' → (∀ b ∈ fp, H' b = none) → ∀ b ∈ fp, FpOk (hotBlk X s3 H3 scope ce fp p) [] H' b := by
    intro σ' H' s' I' no b hb
    refine ⟨no b hb, (I'.ok.exf b hb).1, I'.ok.exfs b hb, .inl hb, fun x c e => (I'.ok.exf b hb).2 x c e, fun q hq z => ?_⟩
    obtain rfl := List.mem_singleton.mp (show q ∈ [p] from by simpa using hq)
    exact (fp3 b hb).1.2.2.2.2.2 q (List.mem_append_left _ pin) z
  refine codeAny_compStart_list ?_ (T.self X.A 0 _ _ _ t4 ?_) <;>
  · refine compLoop_any (fun n s' => ∃ i H', Inv (hotBlk X s3 H3 scope ce fp p) [] (wipe σ (own.map (·.2))) H' s' ∧ tn i s'.heap ∧ (∀ b ∈ fp, H' b = none) ∧ W i n H') ?_ m0 ⟨0, H3, inv4, t4, free3, w0⟩
    rintro n s5 ⟨i, H5, I5, t5, n5, w5⟩
    rcases turns i n H5 w5 with ⟨stop, fin⟩ | ⟨go, Nx, onward, step⟩
    · have last := T.done (hotBlk X s3 H3 scope ce fp p) rfl rfl rfl hotB i [] s5 _ H5 (fun _ _ => False) I5 (may I5 n5) t5 stop
      refine thnF last fun r s6 ⟨er, I6⟩ => ?_
      subst er
      -- again the def's own context
      have back : Inv X pins σ H5 s6 := inv3.call' (ch := fp) I6.os I6.base I6.hok I6.bare fun b hb => ⟨(fp3 b hb).1.2.2.2.1, (fp3 b hb).1.2.1, (fp3 b hb).1.2.2.2.2.1, (fp3 b hb).1.2.2.2.2.2⟩
      have noC : H5 s3.heap.objs.size = none := by rw [← locC]; exact I6.free
      obtain ⟨m, ns, _⟩ := I6.loc
      have ns : s6.heap.Ns ce.locals m := ns
      rw [locC] at ns
      refine ⟨m, ns, fun h6 only => ?_⟩
      obtain ⟨a0, a1, a2, a3, a4, a5⟩ := inv3.fpOk (H' := H5) (Nat.le_refl _) noC
      exact ⟨.ref D, H5, back.turned (t' := s6.toks) (fun b o hb e => (only.2 b hb).trans e) a0 a1 a3 a4 a5, rfl, fin⟩
    · have next := T.item (hotBlk X s3 H3 scope ce fp p) rfl rfl rfl hotB i [] s5 _ H5 (fun _ _ => False) I5 (may I5 n5) t5 go
      refine thnF next fun r s6 ⟨u, er, h6⟩ => ?_
      subst er
      refine thnF h6 fun _ s7 ⟨x, H7, I7, r7, y7, t7, n7⟩ => ?_
      have held := I7.pinned (may I7 n7) (T.obj _ _ t7)
      refine thnF (rgC.run _ s7 _ H7 x u _ held r7 (step x H7 y7)) fun _ s8 ⟨σ8, H8, I8, same8, q8⟩ => ?_
      refine thnF (rtC.run _ s8 σ8 H8 _ I8 q8) fun b s9 ⟨H9, I9, q9⟩ => ?_
      have again : ∀ {s' : Shared} {H' : Hp}, Inv (hotBlk X s3 H3 scope ce fp p) ([] ++ pinsAt fp s7.heap) σ8 H' s' → Nx H' → ∃ m, m < n ∧ ∃ i H', Inv (hotBlk X s3 H3 scope ce fp p) [] (wipe σ (own.map (·.2))) H' s' ∧ tn i s'.heap ∧ (∀ b ∈ fp, H' b = none) ∧ W i m H' := by
        intro s' H' I' nx
        obtain ⟨m', less, w'⟩ := onward H' nx
        have stands : ∀ b ∈ fp, ∀ o, s7.heap.get? b = some o → s'.heap.get? b = some o ∧ H' b = none := fun b hb o e =>
          have z := I'.pin (b, o) (List.mem_append_right _ (List.mem_append_right _ (mem_pinsAt hb e)))
          ⟨z.1, z.2.1⟩
        refine ⟨m', less, i + 1, H', (I'.unpinned (pins := [])).weak (by rw [← same8, wipe_length]) (fun j v e => ?_), T.keep _ _ _ t7 fun b hb o e => (stands b hb o e).1, fun b hb => ?_, w'⟩
        · rw [← same8] at e
          exact (wipe_some e).1
        · obtain ⟨o, e, _⟩ := T.obj _ _ t7 b hb
          exact (stands b hb o e).2
      cases b with
      | false => exact again I9 q9
      | true =>
        refine thnF (reC.run _ s9 σ8 H9 _ I9 q9) fun z s10 ⟨yv, H10, I10, r10, acc, at10, small, nx⟩ => ?_
        exact app_ok (X := hotBlk X s3 H3 scope ce fp p) I10 at10 small r10 fun s11 I11 => again I11 nx
end B2

namespace B2
open PySem PySem.W PySem.Spec PySem.Calls PyProof.Rows L2
/-- first, *rest = a list of one or more -/
def gStar (K : PySem.W.Frag) (t : TGs) : TG := fun v σ H Q => ∃ (a : Addr) (x : V) (xs : List V), v = V.ref a ∧ SqL K H a (x :: xs) ∧ xs.length ≤ 900 ∧ ∀ D, H D = none → t [x, V.ref D] σ (upd H D (.lst xs)) Q
theorem pg_star {X : Cx} {e1 e2 : Expr} {p pos : Pos} {k : Nat} {t : TGs} (calm : X.calm = true) (each : PGs X [e1, e2] t) (same : (assignEach [e1, .Starred e2 p] X.env).map (·.2) = (assignEach [e1, e2] X.env).map (·.2) := by rfl)
    (two : (assignEach [e1, .Starred e2 p] X.env).length = 2 := by rfl) (star : (assignEach [e1, .Starred e2 p] X.env).findIdx? (·.1) = some 1 := by rfl) : PG X (.Tuple [e1, .Starred e2 p] k pos) (gStar X.K t) := by
  constructor
  intro pins s σ H v u Q inv r ask
  obtain ⟨l, x, xs, rfl, hS, few, fin⟩ := ask
  cases r
  have none := inv.ok.hd calm
  obtain ⟨items, rv, stands, _⟩ := inv.list hS
  have isl := stands.isList
  have many : items.length = xs.length + 1 := by rw [← rv.length, List.length_cons]
  have lt : l < s.heap.objs.size := by obtain ⟨o, ho, _⟩ := id isl; exact Heap.lt_size ho
  have ne : l ≠ s.heap.objs.size := Nat.ne_of_lt lt
  rw [assign_Tuple]
  refine wpAny_bind (wpAny_standAt ?_)
  unfold unpack
  rw [two, star]
  refine wpAny_bind (wpAny_holding ?_)
  unfold unpackItems
  refine wpAny_bind ?_
  unfold notIterableAtAll
  refine wpAny_bind (wpAny_specialOf isl.typeIs slot_list_iter.lookup ?_)
  refine wpAny_pure ?_
  simp only [Bool.false_eq_true, if_false]
  refine wpAny_bind (wpAny_holding (wpAny_pyIter_list isl ?_))
  refine wpAny_bind (wpAny_holding (kun_draw ne 1 0 _ _ ⟨_, Heap.get?_push_size _ rfl, rfl, rfl⟩ (isl.push _) (by rw [List.size_toArray, many]; omega) fun h1 it1 only1 => ?_))
  have isl1 : h1.IsList l items.toArray := (isl.push _).extBut only1.extBut ne
  rw [Nat.zero_add] at it1
  obtain ⟨oi, goti, _⟩ := id it1
  obtain ⟨ol, gotl, _⟩ := id isl1
  have tol : items.toArray.toList = items := by simp
  rw [List.drop_zero, tol]
  match items, rv, many, stands, isl, isl1, it1, tol with
  | i1 :: is, rv, many, stands, isl, isl1, it1, tol =>
    have one : ((i1 :: is).take 1).length = 1 := rfl
    rw [if_neg (show ¬ (((i1 :: is).take 1).length < 1) by rw [one]; omega)]
    refine wpAny_bind (wpAny_holding (kun_collect (s := { s with heap := h1 }) (T := "list_iterator") (.inr (.inr (.inl rfl))) (Walks.list (A := X.A.in1) none s.heap.objs.size l ne (i1 :: is).toArray) (fun j u st => st.1.typeIs) (k := 1) (by simp) ⟨it1, isl1⟩ (Heap.lt_size goti) (Heap.lt_size gotl) (fun h2 tk only2 => ?_) (by rw [List.size_toArray, many]; exact le_line (by omega))))
    have rest : ((i1 :: is).toArray.toList.drop 1) = is := rfl
    rw [rest]
    have ml : is.length = xs.length := by simpa using many
    rw [if_neg (by omega)]
    have keep : ∀ b o, s.heap.get? b = some o → h2.get? b = some o := fun b o e =>
      have nb : b ≠ s.heap.objs.size := Nat.ne_of_lt (Heap.lt_size e)
      only2 b o nb (only1.extBut b o nb (Heap.get?_push_of_some _ e))
    have inv2 : Inv X pins σ H { s with heap := h2, toks := tk } := inv.kept keep
    cases rv with
    | cons r1 rr =>
      have cut1 : is.take (is.length - (2 - 1 - 1)) = is := by rw [show is.length - (2 - 1 - 1) = is.length by omega, List.take_length]
      have cut2 : is.drop (is.length - (2 - 1 - 1)) = [] := by rw [show is.length - (2 - 1 - 1) = is.length by omega, List.drop_length]
      rw [cut1, cut2]
      refine wpAny_bind (wpAny_newObj_type (wpAny_pure ?_) (by show is.toArray.size ≤ sizeLine; rw [List.size_toArray, ml]; exact le_line (by omega)))
      generalize eD : h2.objs.size = D
      have newD : H D = .none := inv2.hok.fresh (Nat.le_of_eq eD)
      have inv3 : Inv X pins σ (upd H D (.lst xs)) { s with heap := h2.push { cls := .type "list", data := .seq is.toArray }, toks := tk } := by
        refine inv2.laid (t' := tk) (fun b o e => Heap.get?_push_of_some _ e) (Nat.le_of_eq eD) ⟨le_line (by omega), is, 0, rr, ?_⟩
        rw [← eD]
        exact Heap.get?_push_size _ rfl
      rw [same]
      exact each.run pins _ σ _ [x, V.ref D] _ _ inv3 (.cons r1 (.cons (show L2.RelV (V.ref D) (Value.ref D) from rfl) .nil)) (fin D newD)
end B2

namespace B2
open PySem PySem.Spec PyProof.Rows L2
/-! ### A list comprehension whose element may raise -/
/-- behind the block: as the library has it, but an error passes on with the block's own environment ce -/
def blockEnd (M : Model) (A : Around) (E : Value → Shared → Prop) (use : Option (Value → Sem Unit)) (Q : Value → Shared → Prop) (acc : Value) (ce : Env) (r : Result) (s' : Shared) : Prop :=
  match r with
  | .ok f => compPost M A E use Q acc ce.locals (.ok f) s'
  | .error x => ∃ m, s'.heap.Ns ce.locals m ∧ ∀ h2, Heap.SameBut ce.locals s'.heap h2 → wpAny M A (passOn "comprehension.variables-let-go" x ce : Sem Value) (fun _ _ => False) E { s' with heap := h2 }
theorem comp_error {M : Model} {A : Around} {E : Value → Shared → Prop} {s : Shared} {env : Env} {ex : Expr} {scope : Scope} {pos : Pos} {newAcc first : Sem Value} {g : Comprehension} {gs : List Comprehension} {cl : List (Str × Addr)} {use : Option (Value → Sem Unit)} {Q : Value → Shared → Prop}
    (clauses : clausesOf ex = g :: gs) (unfolded : ∀ x, foldedSetIterable g.iter env x = pure x) (closed : closureFor scope env = pure cl) (kind : scope.kind = .function) (names : ∀ x ∈ scope.names, x.2 = .local → scope.names.lookup x.1 = some .local)
    (h : wpAny M A first (fun x s1 => wpAny M A (pyIter x) (fun it s2 => wpAny M A newAcc (fun acc s3 => wpAny M A (newFunctionEnv scope env.globals cl [] env.qual none .none (some env)) (fun ce s4 =>
      codeAny M A (.compStart ex 0 it acc { ce with scope := relabel scope env }) (blockEnd M A E use Q acc { ce with scope := relabel scope env }) s4) E s3) E s2) E s1) E s) :
    wpAny M A (comprehension ex scope env pos newAcc false first use) Q E s := by
  unfold comprehension
  rw [closed, clauses]
  refine wpAny_bind (wpAny_mono h (fun x s1 q1 => ?_) fun _ _ z => z)
  refine wpAny_bind (wpAny_standAt (wpAny_bind (wpAny_of_eq (unfolded x) ?_)))
  refine wpAny_bind (wpAny_holding (wpAny_mono q1 (fun it s2 q2 => ?_) fun _ _ z => z))
  refine wpAny_standIf (wpAny_bind (wpAny_mono q2 (fun acc s3 q3 => ?_) fun _ _ z => z))
  refine wpAny_bind (wpAny_pure (wpAny_bind (wpAny_mono q3 (fun ce s4 q4 => ?_) fun _ _ z => z)))
  dsimp only
  have vis : ∀ (vs : List (Str × NameKind)), (∀ x ∈ vs, x ∈ scope.names) → ∀ x ∈ vs, x.2 = .local → Env.kindOf { ce with scope := relabel scope env } x.1 = some .local := fun vs sub x hx e => lookup_relabel_local (names x (sub x hx) e)
  have sub1 : ∀ x ∈ (scope.names.filter fun x => (x.2 == .local || x.2 == .cell) && x.1 != (".0" : Str)).reverse, x ∈ scope.names := fun x hx => (List.mem_filter.mp (List.mem_reverse.mp hx)).1
  refine wpAny_holding (wpAny_bind (wpAny_attempt (wpAny_holding (wpAny_run (codeAny_mono q4 fun r s5 q5 => ?_)))))
  cases r with
  | ok f =>
    cases use with
    | none =>
      obtain ⟨m, ns, fin⟩ := q5
      exact wpAny_bind (wpAny_holding (wpAny_comp_letGo (cenv := { ce with scope := relabel scope env }) kind _ s5 m (vis _ sub1) ns fun h6 m6 _ only => wpAny_pure (fin h6 only)))
    | some u =>
      refine wpAny_bind (wpAny_rule (wpAny_bind (wpAny_holding (wpAny_mono (show wpAny M A (u acc) _ E s5 from q5) (fun _ s6 q6 => ?_) fun _ _ z => z))))
      obtain ⟨m, ns, fin⟩ := q6
      refine wpAny_bind (wpAny_comp_letGo (cenv := { ce with scope := relabel scope env }) kind _ s6 m (vis _ fun x hx => ?_) ns fun h7 m7 _ only => wpAny_pure (fin h7 only))
      rcases List.mem_append.mp hx with z | z
      · exact sub1 x (List.mem_of_mem_drop z)
      · exact sub1 x (List.mem_of_mem_take z)
  | error x =>
    obtain ⟨m, ns, fin⟩ := q5
    exact wpAny_bind (wpAny_holding (wpAny_comp_letGo (cenv := { ce with scope := relabel scope env }) kind _ s5 m (vis _ sub1) ns fun h6 m6 _ only => wpAny_mono (fin h6 only) (fun _ _ z => z.elim) fun _ _ z => z))
theorem note_frame {e : Value} {a b : Env} (h : a.frame = b.frame) : noteFrame e a = noteFrame e b := by
  unfold noteFrame PySem.frameOf
  rw [h]
/-- the block's context -/
abbrev errBlk (X : Cx) (s : Shared) (H : Hp) (scope : Scope) (ce : Env) (fp : List Addr) (xe : Value → Shared → Prop) : Cx := (X.blk s H scope ce fp).tr [] xe
theorem frames_but {base h h2 : Heap} : ∀ {l : List Env}, h.FunFrames base l → (∀ b ∈ frs l, h2.get? b = h.get? b) → h2.FunFrames base l
  | [], _, _ => trivial
  | env :: l, ⟨k, ⟨L, o, f, n, g, dd⟩, r⟩, same => ⟨k, ⟨L, o, f, n, (same L (List.mem_filterMap.mpr ⟨env, List.mem_cons_self, f⟩)).trans g, dd⟩, frames_but r fun b hb => same b (by
      obtain ⟨e, he, q⟩ := List.mem_filterMap.mp hb
      exact List.mem_filterMap.mpr ⟨e, List.mem_cons_of_mem _ he, q⟩)⟩
theorem block_raises {X : Cx} {E : XK} {pins pins' : List (Addr × Obj)} {σ σ' : L2.St} {H3 H5 : Hp} {s3 s5 s6 : Shared} {scope : Scope} {ce : Env} {fp : List Addr} {xe : Value → Shared → Prop} {e : Value} {use : Option (Value → Sem Unit)} {Qf : Value → Shared → Prop} {acc : Value}
    (hs : X.stack = X.env :: X.outer) (hf : X.env.frame = some X.env.locals) (tk : L2N.Takes X (fun cls d _ H => E cls d H)) (inv3 : Inv X pins σ H3 s3) (fp3 : ∀ b ∈ fp, FpOk X pins H3 b ∧ b < s3.heap.objs.size)
    (locC : ce.locals = s3.heap.objs.size) (frC : ce.frame = X.env.frame) (I : Inv (errBlk X s3 H3 scope ce fp xe) pins' σ' H5 s5) (c : L2N.CX X.prog X.w X.stack H5 s5 E e s6) :
    notedBy (model X.prog X.w) X.A ce (fun e s' => blockEnd (model X.prog X.w) X.A X.xe use Qf acc ce (.error e) s') e s6 := by
  obtain ⟨a, B, H6, cls, d, rfl, fl, hok, ub, na, os, ag, w⟩ := c
  rw [hs] at fl
  have hfr : X.A.frames = some (X.env :: X.outer) := by rw [inv3.ok.frames, hs]
  show wpAny (model X.prog X.w) X.A (noteFrame (.ref a) ce) _ _ s6
  rw [note_frame frC]
  refine PXN.looks_onZ L2N.Zn.steady hfr hf fl fun h1 held1 up1 => ?_
  obtain ⟨m, ns5, _⟩ := I.loc
  obtain ⟨oC, esC, epC, getC, dC, restC⟩ := (show s5.heap.Ns ce.locals m from ns5)
  have noC : H5 ce.locals = none := I.free
  have CnF : ce.locals ∉ frs X.stack := fun z => (List.mem_cons.mp (inv3.stkSub _ z)).elim (fun e => by
    have lt := inv3.lt
    rw [← e, locC] at lt
    exact Nat.lt_irrefl _ lt) (inv3.nofs (Nat.le_of_eq locC.symm))
  have BC : B.get? ce.locals = some oC := ub.keep _ _ getC noC CnF
  have h1C := held1.1 _ _ BC
  have H6C : H6 ce.locals = none := ub.free _ _ getC noC
  refine ⟨m, ⟨oC, esC, epC, h1C, dC, restC⟩, fun h2 only => ?_⟩
  obtain ⟨B2, eB2⟩ : ∃ B2, B2 = PySem.W.hideAll B [ce.locals] := ⟨_, rfl⟩
  have inB : ∀ b o, B2.get? b = some o → B.get? b = some o := fun b o e => by rw [eB2] at e; exact PySem.W.of_hideAll _ e
  have toB2 : ∀ b o, B.get? b = some o → b ≠ ce.locals → B2.get? b = some o := fun b o e n => by rw [eB2]; exact PySem.W.hideAll_get _ e (fun z => n (List.mem_singleton.mp z))
  have noB2 : B2.get? ce.locals = none := by rw [eB2]; exact PySem.W.hideAll_none _ (List.mem_singleton.mpr rfl)
  have B2C : ∀ b o, B2.get? b = some o → b ≠ ce.locals := fun b o e z => by rw [z, noB2] at e; cases e
  obtain ⟨k1, k2, k3, oe, vs, T, oT, ts, q1, q2, q3, q4, q5, q6, q7, q8, q9⟩ := id held1
  have aC : a ≠ ce.locals := fun z => by
    rw [z, h1C] at q1
    cases q1
    rw [dC] at q3
    cases q3
  have TC : T ≠ ce.locals := fun z => by
    rw [z, h1C] at q7
    cases q7
    rw [dC] at q8
    cases q8
  have noneB2 : ∀ b, B.get? b = none → B2.get? b = none := fun b e => by
    cases z : B2.get? b with
    | none => rfl
    | some o => rw [inB b o z] at e; cases e
  have FnC : ∀ b ∈ frs (X.env :: X.outer), b ≠ ce.locals := fun b hb z => CnF (by rw [hs, ← z]; exact hb)
  have held2 : HandSPX.HeldZ B2 (X.env :: X.outer) a (L2N.Zn cls d) X.env.locals h2 := by
    refine ⟨fun b o e => (only.2 b (B2C b o e)).trans (k1 b o (inB b o e)), noneB2 a k2, ?_, oe, vs, T, oT, ts, (only.2 a aC).trans q1, q2, q3, q4, noneB2 T q5, q6, (only.2 T TC).trans q7, q8, q9⟩
    refine funFrames_none (frames_but k3 fun b hb => only.2 b (FnC b hb)) fun b hb => noneB2 b ?_
    obtain ⟨z, _⟩ := k3.mem hb
    exact z
  unfold PySem.passOn
  refine wpAny_bind (wpAny_field ((only.2 a aC).trans q1) q3 q4 ?_)
  rw [if_neg (show ¬ ((Value.ref T == Value.none) = true) from by simp)]
  have last : wpAny (model X.prog X.w) X.A (setFlight (.ref a) ce.frame) (fun _ s' => wpAny (model X.prog X.w) X.A (throw (.ref a) : Sem Value) (fun _ _ => False) X.xe s') X.xe { s6 with heap := h2 } := by
    rw [frC, hf]
    refine HandSPX.setFlight_onZ held2 fun h3 held3 up3 => wpAny_throw (tk _ _ ?_)
    obtain ⟨G, g1, g2⟩ := L2.restrict s6.heap fun b => (B2.get? b).isSome || decide (b ∈ frs X.stack)
    have st : B.StaysIn s6.heap := fl.1
    have gB : ∀ b o, B2.get? b = some o → G.get? b = some o := fun b o e => by
      rw [g1 b (by rw [e]; rfl)]
      exact st b o (inB b o e)
    have gF : ∀ b, b ∈ frs X.stack → G.get? b = s6.heap.get? b := fun b hb => g1 b (by rw [decide_eq_true hb, Bool.or_true])
    have og : ∀ b o, G.get? b = some o → s6.heap.get? b = some o ∧ ((B2.get? b).isSome = true ∨ b ∈ frs X.stack) := fun b o e => by
      cases z : ((B2.get? b).isSome || decide (b ∈ frs X.stack)) with
      | false => rw [g2 b z] at e; cases e
      | true =>
        rw [g1 b z] at e
        exact ⟨e, (Bool.or_eq_true _ _ ▸ z).imp id fun y => of_decide_eq_true y⟩
    have oldC : ∀ b o, s3.heap.get? b = some o → b ≠ ce.locals := fun b o e z => by
      have lt := Heap.lt_size e
      rw [z, locC] at lt
      exact Nat.lt_irrefl _ lt
    have un : Un (frs X.stack) fp H3 H6 s3.heap G := by
      refine ⟨fun b o e n nf nx => ?_, fun b o e n hb nx => ?_, fun b o e n nx => ?_, fun b o e nx => ?_, fun b xs e => ub.tups b xs (I.base.tups b xs e), fun b o u e => ub.frzs b o u (I.base.frzs b o u e), fun b ps e => ?_⟩
      · exact gB b o (toB2 b o (ub.keep b o (I.base.keep b o e n nf nx) (I.base.free b o e n nx) nf) (oldC b o e))
      · obtain ⟨sl, e1⟩ := I.base.slot b o e n hb nx
        obtain ⟨sl2, e2⟩ := ub.slot b _ e1 hb
        exact ⟨sl2, by rw [gF b hb]; exact e2⟩
      · obtain ⟨o2, e1⟩ := I.base.there b o e nx
        exact ub.free b o2 e1 (I.base.free b o e n nx)
      · obtain ⟨o2, e1⟩ := I.base.there b o e nx
        by_cases hb : b ∈ frs X.stack
        · obtain ⟨sl2, e2⟩ := ub.slot b _ e1 hb
          exact ⟨_, by rw [gF b hb]; exact e2⟩
        · obtain ⟨o3, e2⟩ := ub.there b o2 e1 hb
          exact ⟨o3, gB b o3 (toB2 b o3 e2 (oldC b o e))⟩
      · obtain ⟨m1, e1⟩ := I.base.tbls b ps e
        obtain ⟨m2, e2⟩ := ub.tbls b _ e1
        exact ⟨m1 ++ m2, by rw [e2, Array.append_assoc]⟩
    have hokG : HOk X.prog X.w H6 G := fun b o q => (hok b o q).stay (fun c u hc r => gB c u (toB2 c u r fun z => by
      rcases hc with hc | hc
      · rw [← hc, z, H6C] at q; cases q
      · rw [z, H6C] at hc; cases hc)) (fun _ r => r) fun _ _ r => r
    have back : Inv X pins σ H6 { s3 with heap := G, gens := s6.gens, drawn := s6.drawn, toks := s6.toks } :=
      inv3.call' (ch := fp) rfl un hokG ag fun b hb => ⟨(fp3 b hb).1.2.2.2.1, (fp3 b hb).1.2.1, (fp3 b hb).1.2.2.2.2.1, (fp3 b hb).1.2.2.2.2.2⟩
    refine ⟨a, B2, _, pins, σ, H6, cls, d, rfl, back, fun b o e nf => ?_, fun b o e nd => ?_, .inr (.inr (by rw [hs]; exact held3)), na, ?_, ag, w⟩
    · obtain ⟨e1, z⟩ := og b o e
      rcases z with z | z
      · obtain ⟨o2, e2⟩ := Option.isSome_iff_exists.mp z
        have := st b o2 (inB b o2 e2)
        rw [e1] at this
        cases this
        exact e2
      · exact absurd z nf
    · obtain ⟨e1, z⟩ := og b o e
      have nC : b ≠ ce.locals := fun y => by
        rcases z with z | z
        · rw [y, noB2] at z; cases z
        · exact CnF (y ▸ z)
      obtain ⟨sl1, f1⟩ := up1 b o e1 nd
      have f2 := (only.2 b nC).trans f1
      obtain ⟨sl3, f3⟩ := up3 b { o with slots := sl1 } f2 nd
      exact ⟨sl3, f3⟩
    · show s6.os = s3.os
      rw [os]
      exact I.os
  first
    | exact wpAny_bind (wpAny_pure (wpAny_bind last))
    | exact wpAny_bind last
theorem lcE_core {X : Cx} {E : XK} {pins : List (Addr × Obj)} {s : Shared} {σ : L2.St} {H : Hp} {Q : VK} {elt tg iter : Expr} {ifs : List Expr} {scope : Scope} {own : List (Str × Nat)} {pos pos' : Pos} {wi : TI} {g : TG} {tt : TT} {te : TE} {use : Option (Value → Sem Unit)} {Qf : Value → Shared → Prop}
    (calm : X.calm = true) (hs : X.stack = X.env :: X.outer) (hf : X.env.frame = some X.env.locals) (tk : L2N.Takes X (fun cls d _ H => E cls d H)) (nd : X.N.Nodup) (inv : Inv X pins σ H s) (walked : PI X tg iter wi) (ok : BlkOk X.N X.env.scope scope own)
    (rg : ∀ (s : Shared) (H : Hp) (C : Addr) (cl : List (Str × Addr)) (fp : List Addr) (xe : Value → Shared → Prop), PG (errBlk X s H scope (compEnvC scope cl C X.env) fp xe) tg g)
    (rt : ∀ (s : Shared) (H : Hp) (C : Addr) (cl : List (Str × Addr)) (fp : List Addr) (xe : Value → Shared → Prop), PTs (errBlk X s H scope (compEnvC scope cl C X.env) fp xe) ifs tt)
    (re : ∀ (s : Shared) (H : Hp) (C : Addr) (cl : List (Str × Addr)) (fp : List Addr) (xe : Value → Shared → Prop), Passes (L2N.CX X.prog X.w) (errBlk X s H scope (compEnvC scope cl C X.env) fp xe) E → PE (errBlk X s H scope (compEnvC scope cl C X.env) fp xe) elt te)
    (unfolded : ∀ x, foldedSetIterable iter X.env x = pure x) (ask : tLc wi g tt te (own.map (·.2)) σ H Q)
    (done : ∀ D C s' m H', Inv X pins σ H' s' → Q (.ref D) H' → s'.heap.Ns C m → FpOk X pins H' C → compPost (model X.prog X.w) X.A X.xe use Qf (.ref D) C (.ok .next) s') :
    wpAny (model X.prog X.w) X.A (comprehension (.ListComp elt [⟨tg, iter, ifs, 0⟩] scope pos) scope X.env pos' (newList []) false (eval iter X.env) use) Qf X.xe s := by
  have free : ∀ y ∈ scope.names, y.2 = .free → ∃ c, X.env.cells.lookup y.1 = some c := by
    intro y hy e
    exact (ok.free y hy e).elim (fun k => inv.ok.has _ (.inl k)) fun k => inv.ok.has _ (.inr k)
  have names : ∀ y ∈ scope.names, y.2 = .local → scope.names.lookup y.1 = some .local := by
    intro y hy e
    rw [ok.uniq y hy, e]
  refine comp_error rfl unfolded (closure_ok free) ok.kind names ?_
  refine thn (walked.run pins s σ H _ inv ask) fun v s1 h1 => thn h1 fun w s2 h2 => ?_
  obtain ⟨it, fp, tn, J, H2, e, inv2, T, t0, fresh, wish⟩ := h2
  subst e
  refine wpAny_newObj_type (newEnv_comp ?_) (by show 0 ≤ sizeLine; decide)
  have newD : H2 s2.heap.objs.size = none := inv2.hok.fresh (Nat.le_refl _)
  obtain ⟨W, ⟨m0, w0⟩, turns⟩ := wish _ newD
  obtain ⟨D, eD⟩ : ∃ D, D = s2.heap.objs.size := ⟨_, rfl⟩
  rw [← eD] at newD w0 turns ⊢
  obtain ⟨H3, e6⟩ : ∃ H3 : Hp, H3 = upd H2 D (.lst []) := ⟨_, rfl⟩
  rw [← e6] at w0
  -- the state with the new list
  obtain ⟨s3, e3⟩ : ∃ s3 : Shared, s3 = { s2 with heap := s2.heap.push { cls := .type "list", data := .seq ([] : List Value).toArray } } := ⟨_, rfl⟩
  have grown : s3.heap = s2.heap.push { cls := .type "list", data := .seq ([] : List Value).toArray } := by rw [e3]
  have inv3 : Inv X pins σ H3 s3 := by
    subst e3 e6
    refine inv2.laid (t' := s2.toks) (fun b o e => Heap.get?_push_of_some _ e) (Nat.le_of_eq eD.symm) ⟨Nat.zero_le _, [], 0, .nil, ?_⟩
    subst eD
    exact Heap.get?_push_size _ rfl
  have below : ∀ b, b < s2.heap.objs.size → b < s3.heap.objs.size := fun b h => by rw [grown, Heap.size_push]; exact Nat.lt_succ_of_lt h
  have notD : ∀ b, b < s2.heap.objs.size → b ≠ D := fun b h z => by rw [z, eD] at h; exact Nat.lt_irrefl _ h
  have stay3 : ∀ b o, s2.heap.get? b = some o → s3.heap.get? b = some o := fun b o e => by rw [grown]; exact Heap.get?_push_of_some _ e
  have fpLt : ∀ b ∈ fp, b < s2.heap.objs.size := fun b hb => by
    obtain ⟨_, e, _⟩ := T.obj _ _ t0 b hb
    exact Heap.lt_size e
  have fp3 : ∀ b ∈ fp, FpOk X pins H3 b ∧ b < s3.heap.objs.size := fun b hb =>
    ⟨⟨(by rw [e6]; exact (upd_ne (notD b (fpLt b hb))).trans (fresh b hb).1), (fresh b hb).2⟩, below b (fpLt b hb)⟩
  have t3 : tn 0 s3.heap := T.keep _ _ _ t0 fun b _ o e => stay3 b o e
  have start4 := block_start inv3 ok nd fp3
  obtain ⟨cells, ec⟩ : ∃ cells, cells = cellsFrom (s3.heap.objs.size + 1) scope.names (cloFrom X.env.cells scope.names []) := ⟨_, rfl⟩
  obtain ⟨ce, ee⟩ : ∃ ce, ce = compEnvC scope cells s3.heap.objs.size X.env := ⟨_, rfl⟩
  have rgC := fun xe => rg s3 H3 s3.heap.objs.size cells fp xe
  have rtC := fun xe => rt s3 H3 s3.heap.objs.size cells fp xe
  have reC := fun xe => re s3 H3 s3.heap.objs.size cells fp xe
  rw [← ec, ← ee] at start4
  rw [← ee] at rgC rtC reC
  have locC : ce.locals = s3.heap.objs.size := by rw [ee]; rfl
  have frC : ce.frame = X.env.frame := by rw [ee]; rfl
  rw [← grown]
  show codeAny _ _ (.compStart (.ListComp elt [⟨tg, iter, ifs, 0⟩] scope pos) 0 (.ref it) (.ref D) (compEnvC scope (cellsFrom (s3.heap.objs.size + 1) scope.names (cloFrom X.env.cells scope.names [])) s3.heap.objs.size X.env))
    (blockEnd (model X.prog X.w) X.A X.xe use Qf (.ref D) (compEnvC scope (cellsFrom (s3.heap.objs.size + 1) scope.names (cloFrom X.env.cells scope.names [])) s3.heap.objs.size X.env)) { s2 with heap := pushCells (s3.heap.push { cls := .type "dict", data := .dict #[] }) scope.names }
  have e34 : ({ s2 with heap := pushCells (s3.heap.push { cls := .type "dict", data := .dict #[] }) scope.names } : Shared) = { s3 with heap := pushCells (s3.heap.push { cls := .type "dict", data := .dict #[] }) scope.names } := by rw [e3]
  rw [e34, ← ec, ← ee]
  obtain ⟨s4, e4⟩ : ∃ s4 : Shared, s4 = { s3 with heap := pushCells (s3.heap.push { cls := .type "dict", data := .dict #[] }) scope.names } := ⟨_, rfl⟩
  rw [← e4] at start4 ⊢
  have stay4 : ∀ b o, s3.heap.get? b = some o → s4.heap.get? b = some o := fun b o e => by rw [e4]; exact pushCells_keeps _ _ _ _ (Heap.get?_push_of_some _ e)
  have t4 : tn 0 s4.heap := T.keep _ _ _ t3 fun b _ o e => stay4 b o e
  obtain ⟨xe, exe⟩ : ∃ xe : Value → Shared → Prop, xe = notedBy (model X.prog X.w) X.A ce (fun e s' => blockEnd (model X.prog X.w) X.A X.xe use Qf (.ref D) ce (.error e) s') := ⟨_, rfl⟩
  have inv4 : Inv (errBlk X s3 H3 scope ce fp xe) [] (wipe σ (own.map (·.2))) H3 s4 := start4.toTry xe
  have passes : Passes (L2N.CX X.prog X.w) (errBlk X s3 H3 scope ce fp xe) E := by
    intro pins1 σ1 H1 s1 e s2 I1 c1
    show xe e s2
    rw [exe]
    exact block_raises hs hf tk inv3 fp3 locC frC I1 c1
  have free3 : ∀ b ∈ fp, H3 b = none := fun b hb => (fp3 b hb).1.1
  have may : ∀ {σ' : L2.St} {H' : Hp} {s' : Shared}, Inv (errBlk X s3 H3 scope ce fp xe) [] σ' H' s' → (∀ b ∈ fp, H' b = none) → ∀ b ∈ fp, FpOk (errBlk X s3 H3 scope ce fp xe) [] H' b := fun {σ' H' s'} I' no b hb =>
    ⟨no b hb, (I'.ok.exf b hb).1, I'.ok.exfs b hb, .inl hb, fun x c e => (I'.ok.exf b hb).2 x c e, fun p hp => absurd (show p ∈ ([] : List (Addr × Obj)) ++ [] from hp) (by simp)⟩
  have loop : codeAny (model X.prog X.w) X.A (.compLoop (.ListComp elt [⟨tg, iter, ifs, 0⟩] scope pos) 0 (.ref it) (.ref D) ce) (blockEnd (model X.prog X.w) X.A X.xe use Qf (.ref D) ce) s4 := by
    refine compLoop_any (fun n s' => ∃ i H', Inv (errBlk X s3 H3 scope ce fp xe) [] (wipe σ (own.map (·.2))) H' s' ∧ tn i s'.heap ∧ (∀ b ∈ fp, H' b = none) ∧ W i n H') ?_ m0 ⟨0, H3, inv4, t4, free3, w0⟩
    rw [← exe]
    rintro n s5 ⟨i, H5, I5, t5, n5, w5⟩
    rcases turns i n H5 w5 with ⟨stop, fin⟩ | ⟨go, Nx, onward, step⟩
    · have last := T.done (errBlk X s3 H3 scope ce fp xe) rfl rfl rfl calm i [] s5 _ H5 (fun _ _ => False) I5 (may I5 n5) t5 stop
      refine thnF last fun r s6 ⟨er, I6⟩ => ?_
      subst er
      have back : Inv X pins σ H5 s6 := inv3.call' (ch := fp) I6.os I6.base I6.hok I6.bare fun b hb => ⟨(fp3 b hb).1.2.2.2.1, (fp3 b hb).1.2.1, (fp3 b hb).1.2.2.2.2.1, (fp3 b hb).1.2.2.2.2.2⟩
      have noC : H5 s3.heap.objs.size = none := by rw [← locC]; exact I6.free
      obtain ⟨m, ns, _⟩ := I6.loc
      have ns : s6.heap.Ns ce.locals m := ns
      show compPost (model X.prog X.w) X.A X.xe use Qf (.ref D) ce.locals (.ok .next) s6
      rw [locC] at ns ⊢
      exact done D s3.heap.objs.size s6 m H5 back fin ns (inv3.fpOk (Nat.le_refl _) noC)
    · have next := T.item (errBlk X s3 H3 scope ce fp xe) rfl rfl rfl calm i [] s5 _ H5 (fun _ _ => False) I5 (may I5 n5) t5 go
      refine thnF next fun r s6 ⟨u, er, h6⟩ => ?_
      subst er
      refine thnF h6 fun _ s7 ⟨x, H7, I7, r7, y7, t7, n7⟩ => ?_
      have held := I7.pinned (may I7 n7) (T.obj _ _ t7)
      refine thn ((rgC xe).run _ s7 _ H7 x u _ held r7 (step x H7 y7)) fun _ s8 ⟨σ8, H8, I8, same8, q8⟩ => ?_
      refine thn ((rtC xe).run _ s8 σ8 H8 _ I8 q8) fun b s9 ⟨H9, I9, q9⟩ => ?_
      have again : ∀ {s' : Shared} {H' : Hp}, Inv (errBlk X s3 H3 scope ce fp xe) ([] ++ pinsAt fp s7.heap) σ8 H' s' → Nx H' → ∃ m, m < n ∧ ∃ i H', Inv (errBlk X s3 H3 scope ce fp xe) [] (wipe σ (own.map (·.2))) H' s' ∧ tn i s'.heap ∧ (∀ b ∈ fp, H' b = none) ∧ W i m H' := by
        intro s' H' I' nx
        obtain ⟨m', less, w'⟩ := onward H' nx
        have stands : ∀ b ∈ fp, ∀ o, s7.heap.get? b = some o → s'.heap.get? b = some o ∧ H' b = none := fun b hb o e =>
          have z := I'.pin (b, o) (List.mem_append_right _ (List.mem_append_right _ (mem_pinsAt hb e)))
          ⟨z.1, z.2.1⟩
        refine ⟨m', less, i + 1, H', (I'.unpinned (pins := [])).weak (by rw [← same8, wipe_length]) (fun j v e => ?_), T.keep _ _ _ t7 fun b hb o e => (stands b hb o e).1, fun b hb => ?_, w'⟩
        · rw [← same8] at e
          exact (wipe_some e).1
        · obtain ⟨o, e, _⟩ := T.obj _ _ t7 b hb
          exact (stands b hb o e).2
      cases b with
      | false => exact again I9 q9
      | true =>
        refine thn ((reC xe passes).run _ s9 σ8 H9 _ I9 q9) fun z s10 ⟨yv, H10, I10, r10, acc, at10, small, nx⟩ => ?_
        exact app_ok (X := errBlk X s3 H3 scope ce fp xe) I10 at10 small r10 fun s11 I11 => again I11 nx
  exact codeAny_compStart_list loop (T.self X.A 0 _ _ _ t4 loop)
/-- name = [elt for ..], elt may raise; the name a local -/
theorem ps_setLcE {X : Cx} {E : XK} {i : Nat} {y : Str} {py : Pos} {elt tg iter : Expr} {ifs : List Expr} {scope : Scope} {own : List (Str × Nat)} {pos spos : Pos} {wi : TI} {g : TG} {tt : TT} {te : TE}
    (calm : X.calm = true) (hs : X.stack = X.env :: X.outer) (hf : X.env.frame = some X.env.locals) (tk : L2N.Takes X (fun cls d _ H => E cls d H)) (nd : X.N.Nodup) (hy : X.N[i]? = some y) (hyl : X.env.scope.names.lookup y = some .local)
    (hsw : swapsWith (.ListComp elt [⟨tg, iter, ifs, 0⟩] scope pos) (some (.Name y py)) spos.line X.env = pure true) (walked : PI X tg iter wi) (ok : BlkOk X.N X.env.scope scope own)
    (rg : ∀ (s : Shared) (H : Hp) (C : Addr) (cl : List (Str × Addr)) (fp : List Addr) (xe : Value → Shared → Prop), PG (errBlk X s H scope (compEnvC scope cl C X.env) fp xe) tg g)
    (rt : ∀ (s : Shared) (H : Hp) (C : Addr) (cl : List (Str × Addr)) (fp : List Addr) (xe : Value → Shared → Prop), PTs (errBlk X s H scope (compEnvC scope cl C X.env) fp xe) ifs tt)
    (re : ∀ (s : Shared) (H : Hp) (C : Addr) (cl : List (Str × Addr)) (fp : List Addr) (xe : Value → Shared → Prop), Passes (L2N.CX X.prog X.w) (errBlk X s H scope (compEnvC scope cl C X.env) fp xe) E → PE (errBlk X s H scope (compEnvC scope cl C X.env) fp xe) elt te)
    (unfolded : ∀ x, foldedSetIterable iter X.env x = pure x := by intro _; rfl) :
    PS X (.Assign [.Name y py] (.ListComp elt [⟨tg, iter, ifs, 0⟩] scope pos) spos) (tAsg (tLc wi g tt te (own.map (·.2))) (gName i)) := by
  refine ⟨fun pins s σ H D I h => ?_⟩
  rw [exec_Assign_Name_used _ _ _ _ hsw]
  refine wpAny_bind (wpAny_standAt (wpAny_bind ?_))
  show wpAny _ X.A (do let _ ← comprehension (.ListComp elt [⟨tg, iter, ifs, 0⟩] scope pos) scope X.env (firstIterPos [⟨tg, iter, ifs, 0⟩] pos) (newList []) false (eval iter X.env) (some (assign (.Name y py) X.env))) _ _ s
  have h : tLc wi g tt te (own.map (·.2)) σ H (fun x H1 => gName i x σ H1 D.nx) := h
  refine wpAny_bind (thn (lcE_core (Qf := fun _ s' => SP X pins D .next s') calm hs hf tk nd I walked ok rg rt re unfolded h fun L C s' m H' I' q hn f => ?_) fun _ s' hq => wpAny_pure (wpAny_pure hq))
  show wpAny _ _ (assign (.Name y py) X.env (.ref L)) _ _ _
  refine wpAny_assign_Name (store_ok2 (v := V.ref L) I' nd hy (.inl hyl) rfl (fun s2 I2 ⟨a, sb, ha⟩ => ?_) (.inr hyl))
  obtain ⟨f0, f1, f2, f3, f4, f5⟩ := f
  have haC : C ≠ a := by
    rcases ha with z | z
    · rw [z]; exact f1
    · exact fun e => f4 y a z e.symm
  refine ⟨m, hn.sameBut sb haC, fun h3 sb3 => ?_⟩
  exact ⟨_, H', I2.turned (t' := s2.toks) (fun b o hb e => (sb3.2 b hb).trans e) f0 f1 f3 f4 f5, q⟩
end B2

namespace B2
open PySem PySem.Spec PyProof.Rows L2
/-! ### sep.join(elt for x in a list of numbers) -/
/-- the element: of a number n with Ok n the text txt n -/
def EltNum (prog : Program) (w : World) (blk : Scope) (nm : Str) (elt : Expr) (Ok : Int → Prop) (txt : Int → Str) : Prop :=
  ∀ (ge : Env) (B : Around) (F : Value → Shared → Prop) (n : Int) (u : Tok) (st : Shared) (m : Str → Option Value), ge.scope = blk → Ok n → st.heap.Ns ge.locals m → m nm = some (.int n u) →
    wpAny (model prog w) B (eval elt ge) (fun y st' => (∃ t, y = .str (txt n) t) ∧ Keeps st st') F st
/-- f"..{x}" -/
theorem elt_num {prog : Program} {w : World} {blk : Scope} {nm k : Str} {j : Nat} {p1 p2 p3 p4 : Pos} {Ok : Int → Prop} (fn : blk.kind = .function) (lk : blk.names.lookup nm = some .local) (few : ∀ n, Ok n → n.natAbs.log2 < 1920 ∧ (Str.ofString (toString n)).length ≤ 900) (kl : k.length ≤ 90)
    (nodb : (nm == ("__debug__" : Str)) = false := by decide) : EltNum prog w blk nm (.JoinedStr [.Constant (.str k) j p1, .FormattedValue (.Name nm p2) (-1) none p3] p4) Ok (fun n => k ++ Str.ofString (toString n)) := by
  intro ge B F n u st m es ok ns at_
  obtain ⟨f1, f2⟩ := few n ok
  have ek : Str.empty ++ k = k := by
    have z := SX.S_cat [] k.cps.toList
    rw [SX.S_tl] at z
    exact z
  refine wpAny_JoinedStr ?_
  have parts : evalEach [.Constant (.str k) j p1, .FormattedValue (.Name nm p2) (-1) none p3] ge = [eval (.Constant (.str k) j p1) ge, eval (.FormattedValue (.Name nm p2) (-1) none p3) ge] := by simp [evalEach]
  rw [parts]
  refine Calls.Constant_str ⟨_, _, rfl, by rw [ek]; exact le_line (by omega), ?_⟩
  refine wpAny_FormattedValue_plain (wpAny_Name (wpAny_loadName_local (by rw [es]; exact fn) (show ge.scope.names.lookup nm = some .local by rw [es]; exact lk) ns at_ ?_) nodb)
  have all : Str.empty ++ k ++ (toString n : Str) = k ++ Str.ofString (toString n) := by rw [ek]
  refine wpAny_formatField_int f1 ⟨_, _, rfl, ?_, ?_, ⟨_, congrArg (fun z => Value.str z _) all⟩, ⟨_, _, rfl, fun b o e => e⟩⟩ <;>
  · rw [all, Str.length_append]
    exact le_line (by omega)
/-- the generator over the numbers of a list, ready for join -/
theorem gen_nums {X : Cx} {pins : List (Addr × Obj)} {σ : L2.St} {H : Hp} {s : Shared} {c P : Addr} {elt iter : Expr} {nm : Str} {np gp : Pos} {blk : Scope} {Ok : Int → Prop} {txt : Int → Str} {te : TE} {k : Nat} {Done : Value → Shared → Prop} {R : List Int → Hp → Prop}
    (room : Room k X.A) (tab : GxR.TabB X.base X.mg c P) (code : X.env.code = .ref c) (own : GxR.GenS X.env blk nm) (over : PE X iter te) (el : EltNum X.prog X.w blk nm elt Ok txt) (nofold : ∀ v, genFold iter X.env v = pure v) (inv : Inv X pins σ H s)
    (ask : te σ H fun v H1 => ∃ (l : Addr) (ns : List Int), v = .ref l ∧ SqL X.K H1 l (ns.map V.int) ∧ (∀ n ∈ ns, Ok n) ∧ GxR.TabG H1 P ∧ R ns H1)
    (done : ∀ ns H1 g s5, R ns H1 → J1.ReadyS X pins σ H1 P (ns.map txt) _root_.id g s5 → Done (.ref g) s5) :
    wpAny (model X.prog X.w) X.A (eval (.GeneratorExp elt [⟨.Name nm np, iter, [], 0⟩] blk gp) X.env) Done X.xe s := by
  refine wpAny_GeneratorExp_walksQ room.hd own.co (closure_ok own.free) own.cell own.dot own.loc own.kind (by have := room.dp; omega) (thn (over.run pins s σ H _ inv ask) fun v0 s1 got => ?_) nofold
  obtain ⟨v, H1, inv1, rel, l, ns, rfl, atL, oks, ⟨ps, atP, trip⟩, rest⟩ := got
  cases rel
  obtain ⟨items, rv, plain, _⟩ := inv1.list atL
  have isl := plain.isList
  have many : items.length = ns.length := by rw [← rv.length, List.length_map]
  have each : ∀ (i : Nat) (v : Value), items.toArray[i]? = some v → ∃ (n : Int) (u : Tok), ns[i]? = some n ∧ v = .int n u := by
    intro i v hv
    have hv : items[i]? = some v := by simpa using hv
    obtain ⟨lt, _⟩ := List.getElem?_eq_some_iff.mp hv
    have at_ : ns[i]? = some (ns[i]'(by omega)) := List.getElem?_eq_getElem _
    obtain ⟨w0, e0, r0⟩ := rv.get (show (ns.map V.int)[i]? = some (V.int (ns[i]'(by omega))) by rw [List.getElem?_map, at_]; rfl)
    obtain ⟨u, e1⟩ := (show ∃ u, w0 = Value.int (ns[i]'(by omega)) u from r0)
    rw [hv] at e0
    exact ⟨_, u, at_, (Option.some.inj e0).trans e1⟩
  refine wpAny_pyIter_list isl ?_
  obtain ⟨o, eo⟩ : ∃ o : Obj, o = { cls := .type "list_iterator", data := .fields #[.ref l, .int 0 0] } := ⟨_, rfl⟩
  rw [← eo]
  -- the iterator is new at I
  obtain ⟨I, eI⟩ : ∃ I, I = s1.heap.objs.size := ⟨_, rfl⟩
  rw [← eI]
  have itr : (s1.heap.push o).IsListIter I l 0 := by
    subst eo eI
    exact ⟨_, Heap.get?_push_size _ rfl, rfl, rfl⟩
  have grow : ∀ b u, s1.heap.get? b = some u → (s1.heap.push o).get? b = some u := fun b u e => Heap.get?_push_of_some _ e
  have ltL : l < I := by
    obtain ⟨_, e, _⟩ := _root_.id isl
    rw [eI]
    exact Heap.lt_size e
  have inP : s1.heap.get? P = some { cls := .none, data := .fields ps } := inv1.hok P _ atP
  have ltP : P < I := by rw [eI]; exact Heap.lt_size inP
  have hd : PySem.W.CodeHd (s1.heap.push o) c P := tab.code.keeps fun b u e => grow b u (inv1.bk b u e)
  have lim : (s1.heap.push o).NoLimit := inv1.nolimit.push o
  have size1 : (s1.heap.push o).objs.size = I + 1 := by rw [Heap.size_push, eI]
  have staticsP : cStatics ≠ P := by
    intro z
    obtain ⟨_, ⟨o2, _, _, e2, d2, _⟩, _⟩ := inv1.nolimit
    rw [z, inP] at e2
    cases e2
    cases d2
  have ltStatics : cStatics < I := by
    obtain ⟨_, hns, _⟩ := inv1.nolimit
    rw [eI]
    exact hns.lt
  have noListP : l ≠ P := by
    intro z
    obtain ⟨_, e, _, _, d⟩ := _root_.id isl
    rw [z, inP] at e
    cases e
    cases d
  -- the code object, found or made
  have atP2 : (s1.heap.push o).get? P = some { cls := .none, data := .fields ps } := grow _ _ inP
  have coded : wpAny (model X.prog X.w) X.A (genexprCode X.env gp (X.env.qual ++ "<genexpr>") blk) (fun _ s3 => ∃ (h3 : Heap) (tk : Nat) (qs : Array Value), s3 = { s1 with heap := h3, toks := tk } ∧ Heap.ExtBut P (s1.heap.push o) h3 ∧ I + 1 ≤ h3.objs.size ∧
      h3.get? P = some { cls := .none, data := .fields qs } ∧ (∃ more, qs = ps ++ more) ∧ TriplesOk qs.toList) X.xe { s1 with heap := s1.heap.push o } := by
    cases found : codeAmong gp ps.toList with
    | some cv => exact wpAny_genexprCode_hit code (hd.code atP2 trip) found ⟨_, s1.toks, ps, rfl, Heap.ExtBut.refl _ _, by rw [size1]; exact Nat.le_refl _, atP2, ⟨#[], by simp⟩, trip⟩
    | none =>
      refine wpAny_genexprCodeX code (hd.code atP2 trip) (hd.tab atP2) found fun c' h' tk ext le1 lt1 made _ tab' _ => ?_
      obtain ⟨_, _, _, _, _, _, _, _, _, _, _, _, _, _, _, _, _, _, _, trip', _⟩ := made
      exact ⟨h', tk, _, rfl, ext, by rw [← size1]; exact Nat.le_trans le1 (Nat.le_of_lt lt1), tab'.2, ⟨_, rfl⟩, trip'⟩
  refine ⟨lim, thn coded fun cv s3 ⟨h3, tk, qs, e3, ext, le3, atP3, ⟨more, eq⟩, trip3⟩ => ?_⟩
  subst e3
  have stay : ∀ b u, b ≠ P → s1.heap.get? b = some u → h3.get? b = some u := fun b u nb e => ext b u nb (grow b u e)
  obtain ⟨bm, ob, b1, b2, b3, b4, b5, b6, b7, b8⟩ := tab.bm
  refine wpAny_builtinsFor (m := X.mg) (by rw [inv1.ok.glob]; exact ((inv1.mod.glob.keeps inv1.bk).push o).extBut ext tab.gP) b1 b2 (stay _ _ b4 (inv1.bk _ _ b5)) b6 b7 b8 ?_
  have isl3 : h3.IsList l items.toArray := by
    obtain ⟨ob, e, more⟩ := _root_.id isl
    exact ⟨ob, stay _ _ noListP e, more⟩
  have itr3 : h3.IsListIter I l 0 := itr.at fun u e => ext _ u (Nat.ne_of_gt ltP) e
  refine ⟨I, [I, l], [I], items.toArray.size, fun i v => items.toArray[i]? = some v, fun i h => h.IsListIter I l i ∧ h.IsList l items.toArray, fun _ => true, fun i y => ∃ (n : Int) (t : Tok), ns[i]? = some n ∧ y = .str (txt n) t,
    rfl, fun B free => Walks.list free _ _ (Nat.ne_of_lt ltL) _, ⟨itr3, isl3⟩, fun b hb => ?_, lim.extBut ext staticsP, fun z => ?_, fun ref old => ⟨fun B F i v st m free here at_ nmv kept => ?_, fun B F i v st m free here pass at_ nmv kept => ?_⟩, fun g h5 tk5 gs bare after sz5 keep5 W5 start => ?_⟩
  · have here : b = I ∨ b = l := by simpa using hb
    rcases here with e | e <;> rw [e]
    · exact Nat.lt_of_lt_of_le (Nat.lt_succ_self I) le3
    · exact Nat.lt_of_lt_of_le (Nat.lt_succ_of_lt ltL) le3
  · exact Nat.ne_of_lt ltStatics (by simpa using z)
  · simp only [List.forIn_nil]
    exact wpAny_pure ⟨rfl, GxR.keeps_refl _⟩
  · obtain ⟨n, u, hn, rfl⟩ := each i v here
    refine thnF (el _ B (fun _ _ => False) n u st m rfl (oks n (List.mem_of_getElem? hn)) at_ nmv) fun y st' ⟨⟨t, ey⟩, kp⟩ => ?_
    exact ⟨⟨n, t, hn, ey⟩, kp⟩
  · simp only [GxR.passing_true, List.length_range] at W5
    have sizeI : items.toArray.size = (ns.map txt).length := by rw [List.size_toArray, many, List.length_map]
    rw [sizeI] at W5 start
    refine done ns H1 g _ rest ⟨_, _, _, _, _, W5.in4_2, start, fun b hb => ?_, List.mem_cons_self, fun i s9 at9 => at9.1.typeIs, fun j v hv => ?_, fun s' moved => ?_⟩
    · have sz5 : h5.objs.size = g + 1 := sz5
      have after : h3.objs.size < g := after
      show b < h5.objs.size
      rw [sz5]
      rcases List.mem_cons.mp hb with e | hb
      · rw [e]
        exact Nat.lt_succ_self g
      rcases List.mem_cons.mp hb with e | hb
      · rw [e]
        exact Nat.lt_succ_of_lt after
      · exact Nat.lt_succ_of_lt (Nat.lt_trans (List.mem_range.mp hb) after)
    · obtain ⟨i, at_i, n, t, hn, ev⟩ := hv
      obtain ⟨hj, ej⟩ := List.getElem?_eq_some_iff.mp at_i
      rw [List.getElem_range] at ej
      subst ej
      exact ⟨txt n, t, by rw [List.getElem?_map, hn]; rfl, ev⟩
    · have off : ∀ b u, s1.heap.get? b = some u → b ∉ h3.objs.size :: [I] := by
        intro b u e z
        have lt := Heap.lt_size e
        have here : b = h3.objs.size ∨ b = I := by simpa using z
        have le4 : s1.heap.objs.size + 1 ≤ h3.objs.size := eI ▸ le3
        rcases here with e | e <;> rw [e] at lt
        · exact Nat.lt_irrefl _ (Nat.lt_of_lt_of_le lt (Nat.le_of_succ_le le4))
        · rw [eI] at lt
          exact Nat.lt_irrefl _ lt
      have grown := GxR.inv_tab (more := more) (h' := s'.heap) (g' := s'.gens) (d' := s'.drawn) (t' := s'.toks) inv1 atP (fun b u nb e => moved.heap b u (off b u e) (keep5 b u (stay b u nb e)))
        (by rw [← eq]; exact moved.heap P _ (off P _ inP) (keep5 P _ atP3)) (AllBare.movedS (inv1.bare.push bare) moved)
      rw [GxR.sh_eta s1 s' moved.os] at grown
      exact ⟨upd H1 P (.tbl (ps ++ more)), ⟨⟨ps ++ more, upd_same, by rw [← eq]; exact trip3⟩, fun b nb => upd_ne nb⟩, grown⟩
/-- sep.join(elt for x in a list of numbers) -/
def tJoinN (K : PySem.W.Frag) (P : Addr) (Ok : Int → Prop) (txt : Int → Str) (to te : TE) : TE := fun σ H Q => to σ H fun v H1 => ∃ sep : Str, v = .str sep ∧ te σ H1 fun u H2 => ∃ (l : Addr) (ns : List Int), u = .ref l ∧ SqL K H2 l (ns.map V.int) ∧ (∀ n ∈ ns, Ok n) ∧ GxR.TabG H2 P ∧
  JoinOk sep (ns.map txt) = true ∧ ns.length ≤ 1000 ∧ ∀ H3, GxR.Tabbed P H2 H3 → Q (.str (Txt.join sep (ns.map txt))) H3
theorem pe_joinN {X : Cx} {c P : Addr} {o elt iter : Expr} {nm : Str} {np ap cp gp : Pos} {blk : Scope} {Ok : Int → Prop} {txt : Int → Str} {to te : TE} {k : Nat}
    (room : Room k X.A) (tab : GxR.TabB X.base X.mg c P) (code : X.env.code = .ref c) (own : GxR.GenS X.env blk nm) (ho : PE X o to) (over : PE X iter te) (el : EltNum X.prog X.w blk nm elt Ok txt) (nofold : ∀ v, genFold iter X.env v = pure v)
    (base : attributeBase o "join" X.env (eval o X.env) = eval o X.env := by rfl)
    (few : ((backTo cp (starEach [.GeneratorExp elt [⟨.Name nm np, iter, [], 0⟩] blk gp] X.env)).all (fun x => !x.1) && (backToKw cp (keywordEach [] X.env)).all (fun x => x.1.isSome)
      && decide (([.GeneratorExp elt [⟨.Name nm np, iter, [], 0⟩] blk gp] : List Expr).length + ([] : List Keyword).length + (if ([] : List Keyword).isEmpty then 0 else 1) < 30)) = true := by rfl)
    (line : (ap.endLine == cp.line) = true := by rfl)
    (star : starEach [.GeneratorExp elt [⟨.Name nm np, iter, [], 0⟩] blk gp] X.env = (false, eval (.GeneratorExp elt [⟨.Name nm np, iter, [], 0⟩] blk gp) X.env) :: starEach [] X.env := by rfl)
    (plain : (backTo cp (starEach [] X.env)).any (·.1) = false := by rfl) :
    PE X (.Call (.Attribute o "join" ap) [.GeneratorExp elt [⟨.Name nm np, iter, [], 0⟩] blk gp] [] cp) (tJoinN X.K P Ok txt to te) := by
  constructor
  intro pins s σ H Q inv ask
  refine wpAny_Call_method_late base few line rfl (thn (ho.run pins s σ H _ inv ask) fun v s1 got => ?_)
  obtain ⟨x, H1, inv1, rel, sep, rfl, ask1⟩ := got
  obtain ⟨tk, rfl⟩ := _root_.id rel
  refine ⟨"str", _, PySem.F.plainAttrs_str, PySem.F.slot_str_join, PySem.F.type_str_join, typeIs_str _ _ _, fun _ e => (nomatch e), ?_⟩
  rw [star]
  refine Calls.callWith_builtin plain (Calls.evalArgs_plain (Calls.spliced_cons ?_))
  refine gen_nums (R := fun ns H2 => JoinOk sep (ns.map txt) = true ∧ ns.length ≤ 1000 ∧ ∀ H3, GxR.Tabbed P H2 H3 → Q (.str (Txt.join sep (ns.map txt))) H3) room tab code own over el nofold inv1 ask1 fun ns H2 g s5 hR ready => Calls.spliced_nil ?_
  obtain ⟨fits, small, fin⟩ := hR
  obtain ⟨fp, wr, G, F, St, walks, start, below, isin, type, texts, back⟩ := ready
  have small' : (ns.map txt).length ≤ sizeLine := by rw [List.length_map]; exact le_line small
  refine PySem.SC.joinGen walks type start below isin (fun i v hv => ?_) (fun s' l moved items => ?_) small'
  · obtain ⟨a, t, _, e⟩ := texts i v hv
    exact ⟨_, _, e⟩
  · have size : l.length = (ns.map txt).length := by
      have z := items.1
      rw [List.size_toArray] at z
      unfold strValues at z
      rw [List.length_map] at z
      exact z
    have same : l.map (·.1) = ns.map txt := by
      refine List.ext_getElem (by rw [List.length_map]; exact size) fun j h1 h2 => ?_
      rw [List.length_map] at h1
      have at_ : (strValues l).toArray[j]? = some (.str l[j].1 l[j].2) := by
        rw [List.getElem?_toArray]
        unfold strValues
        rw [List.getElem?_map, List.getElem?_eq_getElem h1]
        rfl
      obtain ⟨a, t, ha, ev⟩ := texts j _ (items.2 j _ at_)
      rw [List.getElem?_eq_getElem h2] at ha
      rw [List.getElem_map, Option.some.inj ha]
      injection ev
    obtain ⟨H3, tabbed, inv3⟩ := back s' moved
    rw [same]
    exact ⟨fits, fun t' k' => ⟨.str _, H3, inv3.tok k', ⟨t', rfl⟩, fin H3 tabbed⟩⟩
end B2

namespace B2
open PySem L2
def top (i : Nat) : Stmt := PySem.Challenge.pw_bedtwos_k11_shown.main.body.getD i (.Pass ⟨0, 0, 0, 0⟩)
abbrev s_is_guest : Stmt := top 6
abbrev s_need_row : Stmt := top 7
abbrev s_need_wishes : Stmt := top 8
abbrev s_read_row : Stmt := top 12
abbrev s_read : Stmt := top 14
abbrev s_shown_row : Stmt := top 11
abbrev s_shown : Stmt := top 13
abbrev s_cell_at : Stmt := top 16
abbrev s_row_by : Stmt := top 17
abbrev s_wishes_by : Stmt := top 18
abbrev s_whole : Stmt := top 19
abbrev s_law : Stmt := top 20
/-- the names of the machine's own -/
structure Own (mg : Str → Option Value) : Prop where
  len : mg "len" = none
  rng : mg "range" = none
  isI : mg "isinstance" = none
  int : mg "int" = none
  bool : mg "bool" = none
  list : mg "list" = none
  set : mg "set" = none
  enm : mg "enumerate" = none
  str : mg "str" = none
  max : mg "max" = none
end B2

namespace B2
open PySem L2

/-- what a caller wants of a def: it stands under its name, it keeps its promise -/
structure Cal (P : Program) (w : World) (K : PySem.W.Frag) (mg : Str → Option Value) (base : Heap) (k : Nat) (x : Str) (ps : List Str) (sp : Sp) : Prop where
  ex : ∃ (g : Addr) (gd : FuncData), FnOk P w K mg base CX0 k g gd ps sp ∧ mg x = some (.ref g) ∧ PySem.W.keepIn K (.ref g) = true ∧ Binds K gd ps []

theorem kit_ii {K : PySem.W.Frag} : PySem.W.kitOne K (.type "int") (.type "int") = some true := kit_ty (by decide +kernel)
theorem kit_ib {K : PySem.W.Frag} : PySem.W.kitOne K (.type "int") (.type "bool") = some false := kit_ty (by decide +kernel)
theorem kit_bb {K : PySem.W.Frag} : PySem.W.kitOne K (.type "bool") (.type "bool") = some true := kit_ty (by decide +kernel)
theorem kit_ll {K : PySem.W.Frag} : PySem.W.kitOne K (.type "list") (.type "list") = some true := kit_ty (by decide +kernel)
theorem ty_list {K : PySem.W.Frag} {H : Hp} {a : Addr} {xs : List V} (h : SqL K H a xs) : TyX K H (.ref a) (.type "list") := by
  rcases h with h | ⟨o, its, n, h, hc, _⟩
  · rcases h with h | ⟨o, h⟩
    · exact .base (.lst h)
    · exact .base (.frz h)
  · exact .kList h hc
end B2

namespace B2
open PySem L2 SX
/-! ### Small numbers' texts -/
theorem num_len {n : Nat} (h : n ≤ 999) : (TL.numL n).length ≤ 3 := TL.numL_len (by decide) (Nat.lt_of_le_of_lt h (by decide))
theorem log_small {g : Int} (h0 : 0 ≤ g) (h9 : g ≤ 999) : g.natAbs.log2 < 1920 := by
  have h : g.natAbs ≤ 999 := by omega
  by_cases z : g.natAbs = 0
  · rw [z]; decide
  · have := (Nat.log2_lt (k := 1920) z).mpr (Nat.lt_of_le_of_lt h (Nat.lt_of_lt_of_le (show 999 < 2 ^ 10 by decide) (Nat.pow_le_pow_right (by decide) (by decide))))
    exact this
theorem text9 {g : Int} (h0 : 0 ≤ g) (h9 : g ≤ 999) : (Str.ofString (toString g)).length ≤ 1000 := by
  have e : g = ((g.toNat : Nat) : Int) := by omega
  rw [e, num_S, S_len]
  have := num_len (n := g.toNat) (by omega)
  omega
theorem sm_fmt9 {te : TE} {σ : L2.St} {H : Hp} {g : Int} (h : ∀ Q : VK, Q (.int g) H → te σ H Q) (h0 : 0 ≤ g) (h9 : g ≤ 999) : Sm (tFmt te) σ H := fun Q q =>
  h _ (.inr ⟨g, rfl, log_small h0 h9, q _ (text9 h0 h9)⟩)

end B2

namespace B2
open PySem L2

/-- no whole number: another kind, or a truth -/
def NotInt (K : PySem.W.Frag) (H : Hp) (x : V) : Prop := ∃ t, TyX K H x t ∧ (PySem.W.kitOne K t (.type "int") = some false ∨ (PySem.W.kitOne K t (.type "int") = some true ∧ PySem.W.kitOne K t (.type "bool") = some true))
def NotList (K : PySem.W.Frag) (H : Hp) (x : V) : Prop := ∃ t, TyX K H x t ∧ PySem.W.kitOne K t (.type "list") = some false
/-- no wish of guest g, one of n -/
def BadWish (K : PySem.W.Frag) (H : Hp) (n : Nat) (g : Int) (x : V) : Prop := NotInt K H x ∨ ∃ y : Int, x = V.int y ∧ ¬ (0 ≤ y ∧ y < (n : Int) ∧ y ≠ g)
/-- what can't be the list of guest g, one of n -/
def RowBad (K : PySem.W.Frag) (H : Hp) (n : Nat) (g : Int) (v : V) : Prop :=
  NotList K H v ∨
  (∃ (b : Addr) (xs : List V) (j : Nat) (x : V), v = V.ref b ∧ SqL K H b xs ∧ xs[j]? = some x ∧ (∀ i, i < j → ∃ y : Int, xs[i]? = some (V.int y) ∧ 0 ≤ y ∧ y < (n : Int) ∧ y ≠ g) ∧ BadWish K H n g x) ∨
  (∃ (b : Addr) (ns : List Int), v = V.ref b ∧ SqL K H b (ns.map V.int) ∧ (∀ y ∈ ns, 0 ≤ y ∧ y < (n : Int) ∧ y ≠ g) ∧ ¬ ns.Nodup ∧ ns.length ≤ 4000)
/-- what is no table of wishes -/
def TabBad (K : PySem.W.Frag) (H : Hp) (v : V) : Prop :=
  NotList K H v ∨
  (∃ (a : Addr) (xs : List V), v = V.ref a ∧ SqL K H a xs ∧ (xs.length = 0 ∨ (7 ≤ xs.length ∧ xs.length ≤ 999))) ∨
  (∃ (a : Addr) (xs : List V) (g : Nat) (x : V), v = V.ref a ∧ SqL K H a xs ∧ 1 ≤ xs.length ∧ xs.length ≤ 6 ∧ xs[g]? = some x ∧
    (∀ i, i < g → ∃ (b : Addr) (r : List Int), xs[i]? = some (V.ref b) ∧ SqL K H b (r.map V.int) ∧ GoodRow xs.length (i : Int) r) ∧ RowBad K H xs.length (g : Int) x)

theorem tyOf_same {K : PySem.W.Frag} {H H' : Hp} {x : V} {t : Value} (e : Same H H') (h : TyOf K H x t) : TyOf K H' x t := by
  cases h with
  | non => exact .non
  | bl b => exact .bl b
  | int i => exact .int i
  | str s => exact .str s
  | flt f => exact .flt f
  | lst h => exact .lst (e _ _ h)
  | frz h => exact .frz (e _ _ h)
  | tup h => exact .tup (e _ _ h)
  | dK h => exact .dK (e _ _ h)
  | dT h => exact .dT (e _ _ h)
  | ins h a b c d f => exact .ins (e _ _ h) a b c d f
theorem tyX_same {K : PySem.W.Frag} {H H' : Hp} {x : V} {t : Value} (e : Same H H') (h : TyX K H x t) : TyX K H' x t := by
  cases h with
  | base h => exact .base (tyOf_same e h)
  | byt b => exact .byt b
  | set h => exact .set (e _ _ h)
  | kList h c => exact .kList h c
  | kTuple h c => exact .kTuple h c
  | kDict h c => exact .kDict h c
  | fTuple h => exact .fTuple (e _ _ h)
  | fDict h => exact .fDict (e _ _ h)
theorem NotInt.same {K : PySem.W.Frag} {H H' : Hp} {x : V} (h : NotInt K H x) (e : Same H H') : NotInt K H' x := by
  obtain ⟨t, ty, r⟩ := h
  exact ⟨t, tyX_same e ty, r⟩
theorem NotList.same {K : PySem.W.Frag} {H H' : Hp} {x : V} (h : NotList K H x) (e : Same H H') : NotList K H' x := by
  obtain ⟨t, ty, r⟩ := h
  exact ⟨t, tyX_same e ty, r⟩
theorem RowBad.same {K : PySem.W.Frag} {H H' : Hp} {n : Nat} {g : Int} {v : V} (h : RowBad K H n g v) (e : Same H H') : RowBad K H' n g v := by
  rcases h with h | ⟨b, xs, j, x, e1, hS, hj, hb, hbad⟩ | ⟨b, ns, e1, hS, r⟩
  · exact .inl (h.same e)
  · refine .inr (.inl ⟨b, xs, j, x, e1, e.seq hS, hj, hb, ?_⟩)
    rcases hbad with z | z
    · exact .inl (z.same e)
    · exact .inr z
  · exact .inr (.inr ⟨b, ns, e1, e.seq hS, r⟩)

section
variable {P : Program} {w : World} {K : PySem.W.Frag} {mg : Str → Option Value} {base : Heap}

/-! ### is_guest -/
theorem sc_is_guest : FnScope ["number", "many"] ["number", "many"] (defScope s_is_guest) := ⟨rfl, rfl, rfl, by decide +kernel, rfl, by decide +kernel, by decide +kernel⟩
def sp_is_guestX (K : PySem.W.Frag) : Sp := fun vs H Q _ => ∃ (x : V) (n : Int), vs = [x, .int n] ∧ ((∃ i : Int, x = V.int i ∧ Q (.bl (decide (0 ≤ i ∧ i < n))) H) ∨ (NotInt K H x ∧ Q (.bl false) H))
theorem ok_is_guestX {f : Addr} {fd : FuncData} (F : Fun K "is_guest" "is_guest" s_is_guest f fd) (T : Own mg) : FnOk P w K mg base CX0 1 f fd ["number", "many"] (sp_is_guestX K) := by
  refine F.ok sc_is_guest (fun vs H Q E h => ?_) (fun cdv A outer s H vs Q E hr h => ?_)
  · obtain ⟨i, n, rfl, _⟩ := h
    rfl
  obtain ⟨x, n, rfl, q⟩ := h
  refine ⟨_, pss_cons (ps_if (PW.pt (pw_or (pt_not (pt_val (pe_callB call_isi (by rfl) T.isI (by decide +kernel) (pa_cons (pv 0) (pa_cons (pe_bltn (v := .ty "int") (by rfl) T.int (by decide +kernel) rfl) pa_nil)))))
      (pw_or1 (pt_val (pe_callB call_isi (by rfl) T.isI (by decide +kernel) (pa_cons (pv 0) (pa_cons (pe_bltn (v := .ty "bool") (by rfl) T.bool (by decide +kernel) rfl) pa_nil))))))) (pss_one (ps_ret pe_bl)) pss_nil)
    (pss_one (ps_ret (pe_chain op_le op_lt pe_int (pv 0) (pv 1)))), ?_⟩
  rcases q with ⟨i, rfl, q⟩ | ⟨⟨t, ty, h | ⟨h1, h2⟩⟩, q⟩
  · refine ⟨_, rfl, _, _, _, _, _, rfl, .ty _, .base (.int i), kit_ii, _, rfl, iteF ⟨_, rfl, _, _, _, _, _, rfl, .ty _, .base (.int i), kit_ib, _, rfl, iteF ⟨_, rfl, _, _, rfl, rfl, _, rfl, ?_⟩⟩⟩
    refine ite2 (fun c => ?_) (fun c => ?_)
    · have c' : (0 : Int) ≤ i := of_decide_eq_true c
      refine ⟨_, rfl, _, _, rfl, rfl, ?_⟩
      have e : decide (i < n) = decide (0 ≤ i ∧ i < n) := by
        by_cases h : i < n
        · rw [decide_eq_true h, decide_eq_true ⟨c', h⟩]
        · rw [decide_eq_false h, decide_eq_false (fun z => h z.2)]
      show Q (.bl (decide (i < n))) H
      rw [e]; exact q
    · have c' : ¬ (0 : Int) ≤ i := of_decide_eq_false (Bool.eq_false_iff.mpr c)
      have e : decide (0 ≤ i ∧ i < n) = false := decide_eq_false (fun z => c' z.1)
      rw [e] at q; exact q
  · exact ⟨_, rfl, _, _, _, _, _, rfl, .ty _, ty, h, _, rfl, iteT q⟩
  · exact ⟨_, rfl, _, _, _, _, _, rfl, .ty _, ty, h1, _, rfl, iteF ⟨_, rfl, _, _, _, _, _, rfl, .ty _, ty, h2, _, rfl, iteT q⟩⟩

/-! ### need_row -/
theorem sc_need_row : FnScope ["row", "guest", "many", "wish"] ["row", "guest", "many"] (defScope s_need_row) := ⟨rfl, rfl, rfl, by decide +kernel, rfl, by decide +kernel, by decide +kernel⟩
def sp_need_rowX (K : PySem.W.Frag) (C : Addr) : Sp := fun vs H Q E => ∃ (v : V) (g : Int) (n : Nat), vs = [v, .int g, .int n] ∧ 0 ≤ g ∧ g ≤ 7 ∧
  ((∃ (b : Addr) (r : List Int), v = V.ref b ∧ SqL K H b (r.map V.int) ∧ GoodRow n g r ∧ Q .non H) ∨ (RowBad K H n g v ∧ E (.ref C) none H))
theorem ok_need_rowX {C : Addr} {f : Addr} {fd : FuncData} (F : Fun K "need_row" "need_row" s_need_row f fd) (T : Own mg) (W : ErrC K mg "BadWishes" C) (C1 : Cal P w K mg base 1 "is_guest" ["number", "many"] (sp_is_guestX K)) :
    FnOk P w K mg base (L2N.CX P w) 2 f fd ["row", "guest", "many"] (sp_need_rowX K C) := by
  obtain ⟨g1, gd1, G1, m1, k1, b1⟩ := C1
  refine F.okN sc_need_row (fun vs H Q E h => ?_) (fun cdv A outer s H vs Q E hr h => ?_)
  · obtain ⟨v, g, n, rfl, _⟩ := h
    rfl
  obtain ⟨v, g, n, rfl, g0, g7, q⟩ := h
  refine ⟨_, pss_cons (ps_if (pt_not (pt_val (pe_callB call_isi (by rfl) T.isI (by decide +kernel) (pa_cons (pv 0) (pa_cons (pe_bltn (v := .ty "list") (by rfl) T.list (by decide +kernel) rfl) pa_nil)))))
      (pss_one (L2N.ps_raise rfl (L2N.takes_of rfl rfl rfl rfl) (pmk_ownAN PySem.F.excBase_ValueError W.ex W.g W.k (raises_own W.b W.t) (by rfl) (pa_cons (pe_joined (.cons pe_str (.cons (pe_fmt (pv 1)) (.cons pe_str .nil)))) pa_nil)))) pss_nil)
    (pss_cons (ps_for (passes_of rfl) rfl (pi_list (pv 0)) (pg_name (i := 3) sc_need_row.nd rfl (Or.inl rfl))
      (pss_one (ps_if (PW.pt (pw_or (pt_not (pt_val (pe_call G1 hr (by rfl) m1 k1 b1 .nil pass0 (pa_cons (pv 3) (pa_cons (pv 2) pa_nil)))))
        (pw_or1 (pt_cmpR op_eq (pv 3) (pv 1) (nomark _)))))
        (pss_one (L2N.ps_raise rfl (L2N.takes_of rfl rfl rfl rfl) (pmk_ownAN PySem.F.excBase_ValueError W.ex W.g W.k (raises_own W.b W.t) (by rfl) (pa_cons (pe_joined (.cons pe_str (.cons (pe_fmt (pv 1)) (.cons pe_str .nil)))) pa_nil)))) pss_nil)))
    (pss_one (ps_if (pt_cmpR op_lt (pe_setLen (by rfl) T.len (by rfl) T.set (pv 0)) (pe_callB call_len_seq (by rfl) T.len PySem.boot_len (pa_cons (pv 0) pa_nil)) (nomark _))
      (pss_one (L2N.ps_raise rfl (L2N.takes_of rfl rfl rfl rfl) (pmk_ownAN PySem.F.excBase_ValueError W.ex W.g W.k (raises_own W.b W.t) (by rfl) (pa_cons (pe_joined (.cons pe_str (.cons (pe_fmt (pv 1)) (.cons pe_str .nil)))) pa_nil)))) pss_nil))), ?_⟩
  -- an error's text
  have txt : ∀ (σ : St) (c1 c2 : Str) (Q2 : Str → Hp → Prop), σ[1]? = some (some (.int g)) → c1.length ≤ 1000 → c2.length ≤ 1000 → (∀ out, Q2 out H) → tJs [tC (.str c1), tFmt (tVar 1), tC (.str c2)] Str.empty σ H Q2 := fun σ c1 c2 Q2 h1 l1 l2 q2 =>
    js_small _ _ _ (fun t ht => by
      rcases List.mem_cons.mp ht with e | ht
      · rw [e]; exact sm_str l1
      rcases List.mem_cons.mp ht with e | ht
      · rw [e]; exact sm_fmt (g := g) (fun Q q => ⟨_, h1, q⟩) g0 g7
      rw [List.mem_singleton] at ht
      rw [ht]; exact sm_str l2) (by rw [show Str.empty.length = 0 from rfl]; show 0 + 1000 * 3 ≤ 1000000; decide) q2
  rcases q with ⟨b, r, rfl, hS, hG, q⟩ | ⟨hB, q⟩
  · refine ⟨_, rfl, _, _, _, _, _, rfl, .ty _, ty_list hS, kit_ll, _, rfl, iteF ?_⟩
    refine ⟨_, rfl, b, rfl, ⟨_, hS⟩, for_list (K := K) (a := b) (xs := r.map V.int) (fun i σ H' => H' = H ∧ ∃ z, σ = [some (.ref b), some (.int g), some (.int n), z])
      ⟨rfl, none, rfl⟩ (fun i σ H' _ h => by rw [h.1]; exact hS) ?_ ?_⟩
    · rintro i x σ H' hx ⟨rfl, z, rfl⟩
      obtain ⟨y, hy, rfl⟩ := map_int_get hx
      obtain ⟨y0, y1, y2⟩ := hG.rg y (List.mem_of_getElem? hy)
      refine ⟨_, rfl, _, rfl, _, n, rfl, .inl ⟨y, rfl, _, rfl, ?_⟩⟩
      rw [decide_eq_true (And.intro y0 y1)]
      refine iteF ⟨_, rfl, _, rfl, rfl, _, rfl, ?_⟩
      rw [decide_eq_false (fun z => y2 (by cases z; rfl))]
      exact iteF ⟨rfl, _, rfl⟩
    · rintro σ H' ⟨rfl, z, rfl⟩
      have hl := hG.sm
      refine ⟨_, rfl, b, r, rfl, hS, by omega, _, rfl, b, _, rfl, .inl hS, _, _, rfl, rfl, _, rfl, ?_⟩
      rw [met_same hG.nd, List.length_map, decide_eq_false (show ¬ ((r.length : Nat) : Int) < ((r.length : Nat) : Int) by omega)]
      exact iteF q
  · rcases hB with ⟨t, ty, hk⟩ | ⟨b, xs, j, x, rfl, hS, hj, hbef, hbad⟩ | ⟨b, ns, rfl, hS, hv, hnd, hl⟩
    · refine ⟨_, rfl, _, _, _, _, _, rfl, .ty _, ty, hk, _, rfl, iteT ?_⟩
      exact txt _ _ _ _ rfl (by decide +kernel) (by decide +kernel) fun out => ⟨(by show 1 ≤ sizeLine; decide), q⟩
    · refine ⟨_, rfl, _, _, _, _, _, rfl, .ty _, ty_list hS, kit_ll, _, rfl, iteF ?_⟩
      refine ⟨_, rfl, b, rfl, ⟨_, hS⟩, for_list (K := K) (a := b) (xs := xs) (fun i σ H' => H' = H ∧ i ≤ j ∧ ∃ z, σ = [some (.ref b), some (.int g), some (.int n), z])
        ⟨rfl, Nat.zero_le _, none, rfl⟩ (fun i σ H' _ h => by rw [h.1]; exact hS) ?_ ?_⟩
      · rintro i u σ H' hu ⟨rfl, hij, z, rfl⟩
        by_cases c : i = j
        · subst c
          rw [hj] at hu
          cases hu
          rcases hbad with hN | ⟨y, rfl, hy⟩
          · refine ⟨_, rfl, _, rfl, _, n, rfl, .inr ⟨hN, _, rfl, iteT ?_⟩⟩
            exact txt _ _ _ _ rfl (by decide +kernel) (by decide +kernel) fun out => ⟨(by show 1 ≤ sizeLine; decide), q⟩
          · refine ⟨_, rfl, _, rfl, _, n, rfl, .inl ⟨y, rfl, _, rfl, ?_⟩⟩
            by_cases c2 : 0 ≤ y ∧ y < (n : Int)
            · rw [decide_eq_true c2]
              refine iteF ⟨_, rfl, _, rfl, rfl, _, rfl, ?_⟩
              have e : y = g := Classical.byContradiction fun z => hy ⟨c2.1, c2.2, z⟩
              rw [decide_eq_true (show V.int y = V.int g by rw [e])]
              exact iteT (txt _ _ _ _ rfl (by decide +kernel) (by decide +kernel) fun out => ⟨(by show 1 ≤ sizeLine; decide), q⟩)
            · rw [decide_eq_false c2]
              exact iteT (txt _ _ _ _ rfl (by decide +kernel) (by decide +kernel) fun out => ⟨(by show 1 ≤ sizeLine; decide), q⟩)
        · obtain ⟨y, hy, y0, y1, y2⟩ := hbef i (by omega)
          rw [hu] at hy
          cases hy
          refine ⟨_, rfl, _, rfl, _, n, rfl, .inl ⟨y, rfl, _, rfl, ?_⟩⟩
          rw [decide_eq_true (And.intro y0 y1)]
          refine iteF ⟨_, rfl, _, rfl, rfl, _, rfl, ?_⟩
          rw [decide_eq_false (fun z => y2 (by cases z; rfl))]
          exact iteF ⟨rfl, by omega, _, rfl⟩
      · rintro σ H' ⟨_, hij, _⟩
        have := (List.getElem?_eq_some_iff.mp hj).1
        omega
    · refine ⟨_, rfl, _, _, _, _, _, rfl, .ty _, ty_list hS, kit_ll, _, rfl, iteF ?_⟩
      refine ⟨_, rfl, b, rfl, ⟨_, hS⟩, for_list (K := K) (a := b) (xs := ns.map V.int) (fun i σ H' => H' = H ∧ ∃ z, σ = [some (.ref b), some (.int g), some (.int n), z])
        ⟨rfl, none, rfl⟩ (fun i σ H' _ h => by rw [h.1]; exact hS) ?_ ?_⟩
      · rintro i x σ H' hx ⟨rfl, z, rfl⟩
        obtain ⟨y, hy, rfl⟩ := map_int_get hx
        obtain ⟨y0, y1, y2⟩ := hv y (List.mem_of_getElem? hy)
        refine ⟨_, rfl, _, rfl, _, n, rfl, .inl ⟨y, rfl, _, rfl, ?_⟩⟩
        rw [decide_eq_true (And.intro y0 y1)]
        refine iteF ⟨_, rfl, _, rfl, rfl, _, rfl, ?_⟩
        rw [decide_eq_false (fun z => y2 (by cases z; rfl))]
        exact iteF ⟨rfl, _, rfl⟩
      · rintro σ H' ⟨rfl, z, rfl⟩
        refine ⟨_, rfl, b, ns, rfl, hS, by omega, _, rfl, b, _, rfl, .inl hS, _, _, rfl, rfl, _, rfl, ?_⟩
        have hlt := met_less hnd
        rw [List.length_map, decide_eq_true (show (((metN ns).length : Nat) : Int) < ((ns.length : Nat) : Int) by omega)]
        refine iteT ?_
        exact txt _ _ _ _ rfl (by decide +kernel) (by decide +kernel) fun out => ⟨(by show 1 ≤ sizeLine; decide), q⟩

/-! ### need_wishes -/
theorem sc_need_wishes : FnScope ["wishes", "many", "guest", "row"] ["wishes"] (defScope s_need_wishes) := ⟨rfl, rfl, rfl, by decide +kernel, rfl, by decide +kernel, by decide +kernel⟩
def sp_need_wishesX (K : PySem.W.Frag) (C : Addr) : Sp := fun vs H Q E => ∃ (v : V), vs = [v] ∧
  ((∃ a ws, v = V.ref a ∧ Tab K H a ws ∧ Good ws ∧ ∀ H', Same H H' → Q .non H') ∨ (TabBad K H v ∧ ∀ H', Same H H' → E (.ref C) none H'))
theorem ok_need_wishesX {C : Addr} {f : Addr} {fd : FuncData} (F : Fun K "need_wishes" "need_wishes" s_need_wishes f fd) (T : Own mg) (M : ∃ t, mg "MOST_GUESTS" = some (.int 6 t)) (W : ErrC K mg "BadWishes" C) (C1 : CalX P w K mg base 2 "need_row" ["row", "guest", "many"] (sp_need_rowX K C)) :
    FnOk P w K mg base (L2N.CX P w) 3 f fd ["wishes"] (sp_need_wishesX K C) := by
  obtain ⟨g1, gd1, G1, m1, k1, b1⟩ := C1
  obtain ⟨t, mM⟩ := M
  refine F.okN sc_need_wishes (fun vs H Q E h => ?_) (fun cdv A outer s H vs Q E hr h => ?_)
  · obtain ⟨v, rfl, _⟩ := h
    rfl
  obtain ⟨v, rfl, q⟩ := h
  refine ⟨_, pss_cons (ps_if (pt_not (pt_val (pe_callB call_isi (by rfl) T.isI (by decide +kernel) (pa_cons (pv 0) (pa_cons (pe_bltn (v := .ty "list") (by rfl) T.list (by decide +kernel) rfl) pa_nil)))))
      (pss_one (L2N.ps_raise rfl (L2N.takes_of rfl rfl rfl rfl) (L2N.pmk_own PySem.F.excBase_ValueError W.ex W.g W.k (raises_own W.b W.t) (by rfl)))) pss_nil)
    (pss_cons (ps_set (i := 1) sc_need_wishes.nd rfl (Or.inl rfl) (pe_callB call_len_seq (by rfl) T.len PySem.boot_len (pa_cons (pv 0) pa_nil)))
    (pss_cons (ps_if (pt_not (pt_chain op_le op_le pe_int (pv 1) (pe_glob (v := .int 6) rfl mM ⟨_, rfl⟩)))
      (pss_one (L2N.ps_raise rfl (L2N.takes_of rfl rfl rfl rfl) (pmk_ownAN PySem.F.excBase_ValueError W.ex W.g W.k (raises_own W.b W.t) (by rfl)
        (pa_cons (pe_joined (.cons pe_str (.cons (pe_fmt (pe_glob (v := .int 6) rfl mM ⟨_, rfl⟩)) (.cons pe_str (.cons (pe_fmt (pv 1)) .nil))))) pa_nil)))) pss_nil)
    (pss_one (ps_for (passes_of rfl) rfl (pi_enum (by rfl) T.enm (pa_cons (pv 0) pa_nil))
      (pg_tup (by rfl) (pgs_cons (pg_name (i := 2) sc_need_wishes.nd rfl (Or.inl rfl)) (pgs_cons (pg_name (i := 3) sc_need_wishes.nd rfl (Or.inl rfl)) pgs_nil)))
      (pss_one (ps_expr (pe_call G1 hr (by rfl) m1 k1 b1 .nil (L2N.passes_call (L2N.takes_of rfl rfl rfl rfl) fun _ _ _ _ h => h) (pa_cons (pv 3) (pa_cons (pv 2) (pa_cons (pv 1) pa_nil)))))))))), ?_⟩
  -- the rows one by one, until one is bad
  rcases q with ⟨a, ws, rfl, hT, hG, q⟩ | ⟨⟨t, ty, hk⟩ | ⟨a, xs, rfl, hS, hl⟩ | ⟨a, xs, g, x, rfl, hS, l1, l6, hg, hbef, hbad⟩, q⟩
  · obtain ⟨as, h1, h2, h3⟩ := id hT
    have hl : (as.map V.ref).length = ws.length := by rw [List.length_map]; exact h2
    have lo := hG.lo
    have hi := hG.hi
    refine ⟨_, rfl, _, _, _, _, _, rfl, .ty _, ty_list h1, kit_ll, _, rfl, iteF ?_⟩
    refine ⟨_, rfl, a, _, rfl, .inl h1, ?_⟩
    rw [hl]
    refine ⟨_, rfl, _, _, rfl, rfl, _, rfl, ?_⟩
    rw [decide_eq_true (show (1 : Int) ≤ ((ws.length : Nat) : Int) by omega)]
    refine iteT ⟨_, _, rfl, rfl, _, rfl, ?_⟩
    rw [decide_eq_true (show ((ws.length : Nat) : Int) ≤ 6 by omega)]
    refine iteF ?_
    refine ⟨_, rfl, a, _, rfl, h1, for_it walk_enum (fun i σ H' => Same H H' ∧ ∃ y z, σ = [some (.ref a), some (.int ws.length), y, z])
      ⟨Same.refl H, none, none, rfl⟩ (fun i σ H' _ h => h.1.seq h1) ?_ ?_⟩
    · rintro i x σ H' H2 hi' ⟨hs, y, z, rfl⟩ ⟨t, x1, x2, rfl, ht, rfl, ex1, ex2⟩
      rw [hl] at hi'
      cases ex1
      obtain ⟨b, hb, hsb⟩ := h3 i ws[i] (List.getElem?_eq_getElem hi')
      change (as.map V.ref)[i]? = some x2 at ex2
      rw [List.getElem?_map, hb] at ex2
      cases ex2
      have hs2 := hs.trans (same_new ht (.tup [V.int (i : Nat), V.ref b]))
      refine ⟨t, _, rfl, SqT.of upd_same, rfl, _, _, rfl, _, _, rfl, rfl, ?_⟩
      exact ⟨_, rfl, _, rfl, _, rfl, _, (i : Int), ws.length, rfl, by omega, by omega, .inl ⟨b, ws[i], rfl, hs2.seq hsb, hG.row i _ (List.getElem?_eq_getElem hi'), hs2, _, _, rfl⟩⟩
    · rintro σ H' ⟨hs, y, z, rfl⟩
      exact q H' hs
  · exact ⟨_, rfl, _, _, _, _, _, rfl, .ty _, ty, hk, _, rfl, iteT (q H (Same.refl H))⟩
  · refine ⟨_, rfl, _, _, _, _, _, rfl, .ty _, ty_list hS, kit_ll, _, rfl, iteF ?_⟩
    refine ⟨_, rfl, a, _, rfl, .inl hS, ?_⟩
    have txt : tJs [tC (.str ("there are from one to " : Str)), tFmt (tC (.int 6)), tC (.str (" guests, not " : Str)), tFmt (tVar 1)] Str.empty [some (V.ref a), some (.int (xs.length : Nat)), none, none] H (fun out H1 => ([V.str out] : List V).length ≤ sizeLine ∧ E (.ref C) none H1) :=
      js_small _ _ _ (fun t ht => by
        rcases List.mem_cons.mp ht with e | ht
        · rw [e]; exact sm_str (by decide +kernel)
        rcases List.mem_cons.mp ht with e | ht
        · rw [e]; exact sm_fmt (g := 6) (fun Q q => q) (by decide) (by decide)
        rcases List.mem_cons.mp ht with e | ht
        · rw [e]; exact sm_str (by decide +kernel)
        rw [List.mem_singleton] at ht
        rw [ht]
        exact sm_fmt9 (g := ((xs.length : Nat) : Int)) (fun Q q => ⟨_, rfl, q⟩) (by omega) (by omega)) (by rw [show Str.empty.length = 0 from rfl]; show 0 + 1000 * 4 ≤ 1000000; decide) fun out => ⟨(by show 1 ≤ sizeLine; decide), q H (Same.refl H)⟩
    refine ⟨_, rfl, _, _, rfl, rfl, _, rfl, ?_⟩
    rcases hl with hl | hl
    · rw [decide_eq_false (show ¬ (1 : Int) ≤ ((xs.length : Nat) : Int) by omega)]
      exact ⟨_, rfl, txt⟩
    · rw [decide_eq_true (show (1 : Int) ≤ ((xs.length : Nat) : Int) by omega)]
      refine iteT ⟨_, _, rfl, rfl, _, rfl, ?_⟩
      rw [decide_eq_false (show ¬ ((xs.length : Nat) : Int) ≤ 6 by omega)]
      exact txt
  · refine ⟨_, rfl, _, _, _, _, _, rfl, .ty _, ty_list hS, kit_ll, _, rfl, iteF ?_⟩
    refine ⟨_, rfl, a, _, rfl, .inl hS, ?_⟩
    refine ⟨_, rfl, _, _, rfl, rfl, _, rfl, ?_⟩
    rw [decide_eq_true (show (1 : Int) ≤ ((xs.length : Nat) : Int) by omega)]
    refine iteT ⟨_, _, rfl, rfl, _, rfl, ?_⟩
    rw [decide_eq_true (show ((xs.length : Nat) : Int) ≤ 6 by omega)]
    refine iteF ?_
    refine ⟨_, rfl, a, _, rfl, hS, for_it walk_enum (fun i σ H' => Same H H' ∧ i ≤ g ∧ ∃ y z, σ = [some (.ref a), some (.int xs.length), y, z])
      ⟨Same.refl H, Nat.zero_le _, none, none, rfl⟩ (fun i σ H' _ h => h.1.seq hS) ?_ ?_⟩
    · rintro i u σ H' H2 hi' ⟨hs, hig, y, z, rfl⟩ ⟨t, x1, x2, rfl, ht, rfl, ex1, ex2⟩
      cases ex1
      change xs[i]? = some x2 at ex2
      have hs2 := hs.trans (same_new ht (.tup [V.int (i : Nat), x2]))
      refine ⟨t, _, rfl, SqT.of upd_same, rfl, _, _, rfl, _, _, rfl, rfl, ?_⟩
      by_cases c : i = g
      · subst c
        rw [hg] at ex2
        cases ex2
        exact ⟨_, rfl, _, rfl, _, rfl, _, (i : Int), xs.length, rfl, by omega, by omega, .inr ⟨hbad.same hs2, q _ hs2⟩⟩
      · obtain ⟨b, r, hb, hsb, hgr⟩ := hbef i (by omega)
        rw [hb] at ex2
        cases ex2
        exact ⟨_, rfl, _, rfl, _, rfl, _, (i : Int), xs.length, rfl, by omega, by omega, .inl ⟨b, r, rfl, hs2.seq hsb, hgr, hs2, by omega, _, _, rfl⟩⟩
    · rintro σ H' ⟨hs, hig, _⟩
      have := (List.getElem?_eq_some_iff.mp hg).1
      omega

/-! ### Whoever asks need_wishes first refuses as it does -/
theorem pe_no {X : Cx} {e : Expr} : PE X e (fun _ _ _ => False) := ⟨fun _ _ _ _ _ _ h => h.elim⟩
theorem pt_no {X : Cx} {e : Expr} : PT X e (fun _ _ _ => False) := ⟨fun _ _ _ _ _ _ h => h.elim⟩
def sp_bad (K : PySem.W.Frag) (C : Addr) (n : Nat) : Sp := fun vs H _ E => vs.length = n ∧ ∃ v r, vs = v :: r ∧ TabBad K H v ∧ ∀ H', Same H H' → E (.ref C) none H'

theorem pss_no {X : Cx} {st : List Stmt} : PSs X st (fun _ _ _ => False) := ⟨fun _ _ _ _ _ _ h => h.elim⟩
end
end B2

namespace B2
open PySem L2 SX

/-! ### Texts of wishes -/
/-- the signs behind a row's head -/
def flatD (ds : List Nat) : List Nat := ds.flatMap fun d => [32, 48 + d]
theorem flatD_cons (d : Nat) (ds : List Nat) : flatD (d :: ds) = 32 :: (48 + d) :: flatD ds := by
  unfold flatD
  rw [List.flatMap_cons]
  rfl
theorem flatD_app (a b : List Nat) : flatD (a ++ b) = flatD a ++ flatD b := by
  unfold flatD
  rw [List.flatMap_append]
/-- the row l of guest g: its list is ds -/
def RowOk (g : Nat) (l : List Nat) (ds : List Nat) : Prop := TL.spl [32] 0 [] l = (TL.numL g ++ [58]) :: ds.map (fun d => [48 + d]) ∧ ∀ d ∈ ds, d ≤ 5
theorem RowOk.inj {g : Nat} {l a b : List Nat} (x : RowOk g l a) (y : RowOk g l b) : a = b := by
  have e := x.1.symm.trans y.1
  rw [List.cons.injEq] at e
  have e := e.2
  have f : ∀ (p q : List Nat), p.map (fun d => [48 + d]) = q.map (fun d => [48 + d]) → p = q := by
    intro p
    induction p with
    | nil =>
      intro q h
      cases q with
      | nil => rfl
      | cons c q => cases h
    | cons d p ih =>
      intro q h
      cases q with
      | nil => cases h
      | cons c q =>
        rw [List.map_cons, List.map_cons, List.cons.injEq] at h
        have h1 : 48 + d = 48 + c := by
          have := h.1
          rw [List.cons.injEq] at this
          exact this.1
        rw [ih q h.2, show d = c by omega]
  exact f a b e
theorem joinL_cons {S p : List Nat} : ∀ {q : List (List Nat)}, q ≠ [] → TL.joinL S (p :: q) = p ++ (S ++ TL.joinL S q)
  | [], h => absurd rfl h
  | _ :: _, _ => rfl
theorem spl_ne (S : List Nat) : ∀ (l : List Nat) (k : Nat) (acc : List Nat), TL.spl S k acc l ≠ []
  | [], k, acc => by rw [TL.spl_nil]; exact List.cons_ne_nil _ _
  | c :: r, 0, acc => by
    cases h : TL.pre S (c :: r) with
    | true => rw [TL.spl_hit h]; exact List.cons_ne_nil _ _
    | false => rw [TL.spl_miss h]; exact spl_ne S r 0 _
  | c :: r, k + 1, acc => spl_ne S r k acc
theorem pre_one {c d : Nat} {r : List Nat} : TL.pre [c] (d :: r) = true ↔ d = c := by
  unfold TL.pre
  constructor
  · intro h
    have h := eq_of_beq h
    exact (List.cons.inj h).1
  · intro h
    subst h
    exact beq_self_eq_true _
theorem spl_back (c : Nat) : ∀ (l acc : List Nat), TL.joinL [c] (TL.spl [c] 0 acc l) = acc ++ l
  | [], acc => by rw [TL.spl_nil, List.append_nil]; rfl
  | d :: r, acc => by
    cases h : TL.pre [c] (d :: r) with
    | true =>
      rw [TL.spl_hit h, joinL_cons (spl_ne _ _ _ _)]
      have e : d = c := pre_one.mp h
      subst e
      rw [show [d].length - 1 = 0 from rfl, spl_back d r []]
      rfl
    | false =>
      rw [TL.spl_miss h, spl_back c r (acc ++ [d]), List.append_assoc]
      rfl
theorem spl_free' (c : Nat) : ∀ (l acc : List Nat), c ∉ acc → ∀ p ∈ TL.spl [c] 0 acc l, c ∉ p
  | [], acc, h => fun p hp => by
    rw [TL.spl_nil, List.mem_singleton] at hp
    rw [hp]; exact h
  | d :: r, acc, h => fun p hp => by
    cases e : TL.pre [c] (d :: r) with
    | true =>
      rw [TL.spl_hit e] at hp
      rcases List.mem_cons.mp hp with hp | hp
      · rw [hp]; exact h
      · exact spl_free' c r [] (by simp) p hp
    | false =>
      rw [TL.spl_miss e] at hp
      refine spl_free' c r (acc ++ [d]) (fun z => ?_) p hp
      rcases List.mem_append.mp z with z | z
      · exact h z
      · rw [List.mem_singleton] at z
        rw [pre_one.mpr z.symm] at e
        cases e
theorem join_single (p : List Nat) : ∀ ds : List Nat, TL.joinL [32] (p :: ds.map fun d => [48 + d]) = p ++ flatD ds
  | [] => by
    show p = p ++ []
    rw [List.append_nil]
  | d :: ds => by
    rw [List.map_cons, joinL_cons (List.cons_ne_nil _ _), join_single [48 + d] ds, flatD_cons]
    rfl
theorem row_iff {g : Nat} {l ds : List Nat} : RowOk g l ds ↔ (l = (TL.numL g ++ [58]) ++ flatD ds ∧ ∀ d ∈ ds, d ≤ 5) := by
  constructor
  · rintro ⟨h1, h2⟩
    refine ⟨?_, h2⟩
    have e := spl_back 32 l []
    rw [h1, join_single, List.nil_append] at e
    exact e.symm
  · rintro ⟨h1, h2⟩
    refine ⟨?_, h2⟩
    rw [h1, ← join_single]
    refine TL.spl_join (List.cons_ne_nil _ _) fun p hp => ?_
    rcases List.mem_cons.mp hp with hp | hp
    · rw [hp]
      intro z
      rcases List.mem_append.mp z with z | z
      · exact TL.numL_free (Or.inl (by decide)) z
      · rw [List.mem_singleton] at z
        cases z
    · obtain ⟨d, _, rfl⟩ := List.mem_map.mp hp
      intro z
      rw [List.mem_singleton] at z
      omega
/-- of a guest below ten -/
theorem row_iff1 {g : Nat} {l ds : List Nat} (h : g < 10) : RowOk g l ds ↔ (l = [48 + g, 58] ++ flatD ds ∧ ∀ d ∈ ds, d ≤ 5) := by
  rw [row_iff, TL.numL_lt h]
  rfl
def toI (ds : List Nat) : List Int := ds.map fun (d : Nat) => ((d : Nat) : Int)
/-- the rows of a text: the lists are dss -/
def RowsOk (rows dss : List (List Nat)) : Prop := dss.length = rows.length ∧ ∀ (i : Nat) (l ds : List Nat), rows[i]? = some l → dss[i]? = some ds → RowOk i l ds
def Noted (rows dss : List (List Nat)) : Prop := RowsOk rows dss ∧ Good (dss.map toI)
theorem RowsOk.at {rows dss : List (List Nat)} (h : RowsOk rows dss) {i : Nat} {l : List Nat} (e : rows[i]? = some l) : ∃ ds, dss[i]? = some ds ∧ RowOk i l ds := by
  have hl := (List.getElem?_eq_some_iff.mp e).1
  have hd : i < dss.length := by rw [h.1]; exact hl
  exact ⟨dss[i], List.getElem?_eq_getElem hd, h.2 i l _ e (List.getElem?_eq_getElem hd)⟩
theorem RowsOk.inj {rows a b : List (List Nat)} (x : RowsOk rows a) (y : RowsOk rows b) : a = b := by
  refine List.ext_getElem? fun i => ?_
  by_cases hi : i < rows.length
  · have e := List.getElem?_eq_getElem hi
    obtain ⟨p, hp, kp⟩ := x.at e
    obtain ⟨q, hq, kq⟩ := y.at e
    rw [hp, hq, kp.inj kq]
  · rw [List.getElem?_eq_none (by rw [x.1]; omega), List.getElem?_eq_none (by rw [y.1]; omega)]
/-- the lists read so far -/
def RowsTo (rows dss : List (List Nat)) (i : Nat) : Prop := dss.length = i ∧ ∀ (j : Nat) (l ds : List Nat), rows[j]? = some l → dss[j]? = some ds → RowOk j l ds
theorem RowsTo.nil {rows : List (List Nat)} : RowsTo rows [] 0 := ⟨rfl, fun j l ds _ h => by rw [List.getElem?_nil] at h; cases h⟩
theorem RowsTo.snoc {rows dss : List (List Nat)} {i : Nat} {l ds : List Nat} (h : RowsTo rows dss i) (e : rows[i]? = some l) (k : RowOk i l ds) : RowsTo rows (dss ++ [ds]) (i + 1) := by
  refine ⟨by rw [List.length_append, h.1]; rfl, fun j m es hm he => ?_⟩
  by_cases c : j < dss.length
  · rw [List.getElem?_append_left c] at he
    exact h.2 j m es hm he
  · have hj : j < (dss ++ [ds]).length := (List.getElem?_eq_some_iff.mp he).1
    rw [List.length_append, List.length_singleton] at hj
    have ej : j = i := by have := h.1; omega
    subst ej
    rw [List.getElem?_append_right (by omega), h.1, Nat.sub_self] at he
    cases he
    rw [e] at hm
    cases hm
    exact k
theorem RowsTo.all {rows dss : List (List Nat)} (h : RowsTo rows dss rows.length) : RowsOk rows dss := h
theorem RowsTo.ahead {rows dss dz : List (List Nat)} {i : Nat} (h : RowsTo rows dss i) (z : RowsOk rows dz) (hi : i ≤ rows.length) : dss = dz.take i := by
  refine List.ext_getElem? fun j => ?_
  by_cases c : j < i
  · have e := List.getElem?_eq_getElem (show j < rows.length by omega)
    obtain ⟨q, hq, kq⟩ := z.at e
    have hd : j < dss.length := by rw [h.1]; exact c
    have k := h.2 j _ _ e (List.getElem?_eq_getElem hd)
    rw [List.getElem?_eq_getElem hd, List.getElem?_take_of_lt c, hq, k.inj kq]
  · rw [List.getElem?_eq_none (by rw [h.1]; omega), List.getElem?_eq_none (by rw [List.length_take]; omega)]

/-! ### No good wishes: which is wrong -/
theorem least {p : Nat → Prop} {n : Nat} (h : p n) : ∃ m, m ≤ n ∧ p m ∧ ∀ k, k < m → ¬ p k := by
  induction n using Nat.strongRecOn with
  | _ n ih =>
    by_cases c : ∃ k, k < n ∧ p k
    · obtain ⟨k, hk, pk⟩ := c
      obtain ⟨m, h1, h2, h3⟩ := ih k hk pk
      exact ⟨m, by omega, h2, h3⟩
    · exact ⟨n, Nat.le_refl _, h, fun k hk pk => c ⟨k, hk, pk⟩⟩
theorem rowBad_of {K : PySem.W.Frag} {H : Hp} {n : Nat} {g : Int} {b : Addr} {ns : List Int} (hS : SqL K H b (ns.map V.int)) (hl : ns.length ≤ 4000) (h6 : n ≤ 6) (bad : ¬ GoodRow n g ns) : RowBad K H n g (V.ref b) := by
  by_cases all : ∀ y ∈ ns, 0 ≤ y ∧ y < (n : Int) ∧ y ≠ g
  · refine .inr (.inr ⟨b, ns, rfl, hS, all, fun nd => bad ⟨nd, all, ?_⟩, hl⟩)
    -- as many as there are numbers
    have hsub : (ns.map Int.toNat).length ≤ n := by
      have h1 : (ns.map Int.toNat).Nodup := by
        refine List.pairwise_map.mpr (List.Pairwise.imp_of_mem (fun {x y} hx hy ne e => ne ?_) nd)
        have := all x hx
        have := all y hy
        omega
      have h2 : ∀ x ∈ ns.map Int.toNat, x ∈ List.range n := fun x hx => by
        obtain ⟨y, hy, rfl⟩ := List.mem_map.mp hx
        have := all y hy
        rw [List.mem_range]; omega
      have h3 := h1.length_le_of_subset h2
      rw [List.length_range] at h3
      exact h3
    rw [List.length_map] at hsub
    omega
  · have ex : ∃ j : Nat, ∃ y : Int, ns[j]? = some y ∧ ¬ (0 ≤ y ∧ y < (n : Int) ∧ y ≠ g) := by
      refine Classical.byContradiction fun z => all fun y hy => Classical.byContradiction fun w => z ?_
      obtain ⟨j, hj⟩ := List.getElem?_of_mem hy
      exact ⟨j, y, hj, w⟩
    obtain ⟨j0, hj0⟩ := ex
    obtain ⟨j, _, ⟨y, hy, w⟩, hb⟩ := least (p := fun j => ∃ y, ns[j]? = some y ∧ ¬ (0 ≤ y ∧ y < (n : Int) ∧ y ≠ g)) hj0
    refine .inr (.inl ⟨b, ns.map V.int, j, V.int y, rfl, hS, by rw [List.getElem?_map, hy]; rfl, fun i hi => ?_, .inr ⟨y, rfl, w⟩⟩)
    have hlt : i < ns.length := by
      have := (List.getElem?_eq_some_iff.mp hy).1
      omega
    refine ⟨ns[i], by rw [List.getElem?_map, List.getElem?_eq_getElem hlt]; rfl, ?_⟩
    exact Classical.byContradiction fun z => hb i hi ⟨ns[i], List.getElem?_eq_getElem hlt, z⟩
theorem tabBad_of {K : PySem.W.Frag} {H : Hp} {a : Addr} {ws : List (List Int)} (t : Tab K H a ws) (hw : ws.length ≤ 999) (hr : ∀ r ∈ ws, r.length ≤ 4000) (bad : ¬ Good ws) : TabBad K H (V.ref a) := by
  obtain ⟨as, h1, h2, h3⟩ := t
  have hl : (as.map V.ref).length = ws.length := by rw [List.length_map]; exact h2
  by_cases c0 : ws.length = 0
  · exact .inr (.inl ⟨a, _, rfl, h1, .inl (by rw [hl]; exact c0)⟩)
  by_cases c6 : ws.length ≤ 6
  · have ex : ∃ g : Nat, ∃ r, ws[g]? = some r ∧ ¬ GoodRow ws.length (g : Int) r := by
      refine Classical.byContradiction fun z => bad ⟨by omega, c6, fun g r hg => Classical.byContradiction fun w => z ⟨g, r, hg, w⟩⟩
    obtain ⟨g0, hg0⟩ := ex
    obtain ⟨g, _, ⟨r, hg, w⟩, hb⟩ := least (p := fun g => ∃ r, ws[g]? = some r ∧ ¬ GoodRow ws.length (g : Int) r) hg0
    obtain ⟨b, hab, hsb⟩ := h3 g r hg
    refine .inr (.inr ⟨a, _, g, V.ref b, rfl, h1, by rw [hl]; omega, by rw [hl]; exact c6, by rw [List.getElem?_map, hab]; rfl, fun i hi => ?_, ?_⟩)
    · have hlt : i < ws.length := by
        have := (List.getElem?_eq_some_iff.mp hg).1
        omega
      have e := List.getElem?_eq_getElem hlt
      obtain ⟨c, hc, hsc⟩ := h3 i _ e
      refine ⟨c, ws[i], by rw [List.getElem?_map, hc]; rfl, hsc, ?_⟩
      rw [hl]
      exact Classical.byContradiction fun z => hb i hi ⟨_, e, z⟩
    · rw [hl]
      exact rowBad_of hsb (hr r (List.mem_of_getElem? hg)) c6 w
  · exact .inr (.inl ⟨a, _, rfl, h1, .inr (by rw [hl]; omega)⟩)
end B2

namespace B2
open PySem L2 SX
section
variable {P : Program} {w : World} {K : PySem.W.Frag} {mg : Str → Option Value} {base : Heap}
def numVs : List V := [0, 1, 2, 3, 4, 5].map fun d => V.str (S [48 + d])
/-- the tuple of the numbers' signs, as the top left it -/
def TupN (K : PySem.W.Frag) (mg : Str → Option Value) : Prop := ∃ tp : Addr, mg "NUMBERS" = some (.ref tp) ∧ ∃ (o : Obj) (its : Array Value) (n : Nat), K.lookup tp = some o ∧ o.cls = .type "tuple" ∧ o.data = .seq its n ∧ its.size ≤ sizeLine ∧ Vals numVs its.toList
theorem le_line' {n : Nat} (h : n ≤ 1000) : n < sizeLine := Nat.lt_of_le_of_lt h (by decide)
theorem tupN_of {t0 t1 t2 t3 t4 t5 : Tok} {mg : Str → Option Value} {K : PySem.W.Frag} {tp : Addr} {od : Option Addr} {n : Nat} {sl : Array (Option Value)} (g : mg "NUMBERS" = some (.ref tp))
    (l : K.lookup tp = some ⟨.type "tuple", od, .seq #[.str "0" t0, .str "1" t1, .str "2" t2, .str "3" t3, .str "4" t4, .str "5" t5] n, sl⟩) : TupN K mg :=
  ⟨tp, g, _, _, _, l, rfl, rfl, by show 6 ≤ sizeLine; decide, .cons ⟨t0, rfl⟩ (.cons ⟨t1, rfl⟩ (.cons ⟨t2, rfl⟩ (.cons ⟨t3, rfl⟩ (.cons ⟨t4, rfl⟩ (.cons ⟨t5, rfl⟩ .nil)))))⟩
theorem eqV_S (a b : List Nat) : eqV (.str (S a)) (.str (S b)) = decide (a = b) := S_beq_eq
theorem in_nums (u : List Nat) : inV (.str (S u)) numVs = decide (∃ d, d ≤ 5 ∧ u = [48 + d]) := by
  unfold inV numVs
  simp only [List.map_cons, List.map_nil, List.any_cons, List.any_nil, eqV_S, Bool.or_false]
  rw [Bool.eq_iff_iff]
  simp only [Bool.or_eq_true, decide_eq_true_eq]
  constructor
  · rintro (h | h | h | h | h | h)
    · exact ⟨0, by decide, h.symm⟩
    · exact ⟨1, by decide, h.symm⟩
    · exact ⟨2, by decide, h.symm⟩
    · exact ⟨3, by decide, h.symm⟩
    · exact ⟨4, by decide, h.symm⟩
    · exact ⟨5, by decide, h.symm⟩
  · rintro ⟨d, hd, rfl⟩
    rcases (show d = 0 ∨ d = 1 ∨ d = 2 ∨ d = 3 ∨ d = 4 ∨ d = 5 by omega) with rfl | rfl | rfl | rfl | rfl | rfl <;> simp
theorem flat_strs (l : List (List Nat)) : (l.map fun u => V.str (S u)).all flatV = true := by
  rw [List.all_eq_true]
  intro x hx
  obtain ⟨u, _, rfl⟩ := List.mem_map.mp hx
  rfl
theorem int_one {d : Nat} (h : d ≤ 5) : intText? (S [48 + d]) = some ((d : Nat) : Int) := by
  have e := int_S (a := [48 + d]) (by
    rw [List.all_cons, List.all_nil, Bool.and_true, decide_eq_true (show 48 ≤ 48 + d by omega), decide_eq_true (show 48 + d ≤ 57 by omega)]
    rfl) (by simp) (by simp)
  rw [e]
  have : NumText.digitsVal [48 + d] = d := by
    unfold NumText.digitsVal
    show 0 * 10 + (48 + d - 48) = d
    omega
  rw [this]
theorem spl_len (c : Nat) : ∀ (l acc : List Nat), (TL.spl [c] 0 acc l).length ≤ l.length + 1
  | [], acc => by rw [TL.spl_nil]; exact Nat.le_refl _
  | d :: r, acc => by
    cases h : TL.pre [c] (d :: r) with
    | true =>
      rw [TL.spl_hit h, List.length_cons, List.length_cons]
      have := spl_len c r []
      show (TL.spl [c] 0 [] r).length + 1 ≤ r.length + 1 + 1
      omega
    | false =>
      rw [TL.spl_miss h, List.length_cons]
      have := spl_len c r (acc ++ [d])
      omega
theorem split_one (l : List Nat) {c : Nat} (hc : c < 256) : Txt.split (S l) (S [c]) = (TL.spl [c] 0 [] l).map S := split_S (by simp) (by simp [hc])
/-- f"{g}:" -/
theorem head_text {te : TE} {σ : L2.St} {H : Hp} {g : Nat} (hg : g ≤ 999) (h : ∀ Q : VK, Q (.int (g : Nat)) H → te σ H Q) {Q : Str → Hp → Prop} (q : Q (S (TL.numL g ++ [58])) H) : tJs [tFmt te, tC (.str (":" : Str))] Str.empty σ H Q := by
  have e : Str.ofString (toString ((g : Nat) : Int)) = S (TL.numL g) := num_S g
  have n3 := num_len hg
  have e0 : Str.empty ++ Str.ofString (toString ((g : Nat) : Int)) = S (TL.numL g) := by
    rw [e]
    exact S_cat [] _
  have e1 : Str.empty ++ Str.ofString (toString ((g : Nat) : Int)) ++ (":" : Str) = S (TL.numL g ++ [58]) := by
    rw [e0]
    exact S_cat _ [58]
  refine h _ (.inr ⟨_, rfl, log_small (by omega) (by omega), ?_⟩)
  refine ⟨_, rfl, ?_, ?_⟩
  · rw [show ((toString ((g : Nat) : Int) : Str)) = Str.ofString (toString ((g : Nat) : Int)) from rfl, e0, S_len]
    exact le_line (by omega)
  refine ⟨_, rfl, ?_, ?_⟩
  · rw [show ((toString ((g : Nat) : Int) : Str)) = Str.ofString (toString ((g : Nat) : Int)) from rfl, e1, S_len, List.length_append]
    exact le_line (by show (TL.numL g).length + 1 ≤ _; omega)
  show Q (Str.empty ++ Str.ofString (toString ((g : Nat) : Int)) ++ (":" : Str)) H
  rw [e1]
  exact q

/-! ### read_row -/
theorem words_ds : ∀ ws : List (List Nat), (∀ j : Nat, j < ws.length → ∃ d, d ≤ 5 ∧ ws[j]? = some [48 + d]) → ∃ ds : List Nat, ws = ds.map (fun d => [48 + d]) ∧ (∀ d ∈ ds, d ≤ 5) ∧ ds.length = ws.length
  | [], _ => ⟨[], rfl, (fun d h => by cases h), rfl⟩
  | u :: ws, h => by
    obtain ⟨d, hd, e⟩ := h 0 (by simp)
    cases e
    obtain ⟨ds, e1, e2, e3⟩ := words_ds ws fun j hj => by
      have := h (j + 1) (by rw [List.length_cons]; omega)
      rw [List.getElem?_cons_succ] at this
      exact this
    refine ⟨d :: ds, by rw [e1]; rfl, fun x hx => ?_, by rw [List.length_cons, List.length_cons, e3]⟩
    rcases List.mem_cons.mp hx with hx | hx
    · rw [hx]; exact hd
    · exact e2 x hx
abbrev readN : List Str := ["guest", "line", "head", "words", "word"]
theorem sc_read_row : FnScope ["guest", "line", "head", "words", "word"] ["guest", "line"] (defScope s_read_row) := ⟨rfl, rfl, rfl, by decide +kernel, rfl, by decide +kernel, by decide +kernel⟩
def sp_read_row (C : Addr) : Sp := fun vs H Q E => ∃ (g : Nat) (l : List Nat), vs = [.int g, .str (S l)] ∧ g ≤ 998 ∧ l.length ≤ 800 ∧
  ((∃ ds, RowOk g l ds ∧ ∀ D H', Same H H' → H D = none → H' D = some (.lst ((toI ds).map V.int)) → Q (.ref D) H') ∨ ((¬ ∃ ds, RowOk g l ds) ∧ ∀ H', Same H H' → E (.ref C) none H'))
theorem ok_read_row {C : Addr} {f : Addr} {fd : FuncData} (F : Fun K "read_row" "read_row" s_read_row f fd) (T : Own mg) (N : TupN K mg) (W : ErrC K mg "NoNote" C) : FnOk P w K mg base (L2N.CX P w) 1 f fd ["guest", "line"] (sp_read_row C) := by
  obtain ⟨tp, mN, oN, itsN, nN, kN, cN, dN, zN, vN⟩ := N
  have tN : ∀ H : Hp, SqT K H tp numVs := fun H => .inr ⟨oN, itsN, nN, kN, cN, dN, zN, vN⟩
  refine F.okN sc_read_row (fun vs H Q E h => ?_) (fun cdv A outer s H vs Q E hr h => ?_)
  · obtain ⟨g, l, rfl, _⟩ := h
    rfl
  obtain ⟨g, l, rfl, hg, hl, q⟩ := h
  refine ⟨_, pss_cons (ps_asg (pe_split (pv 1) pe_str) (pg_star rfl (pgs_cons (pg_name (i := 2) sc_read_row.nd rfl (Or.inl rfl)) (pgs_cons (pg_name (i := 3) sc_read_row.nd rfl (Or.inl rfl)) pgs_nil))))
    (pss_cons (ps_if (pt_cmpR op_ne (pv 2) (pe_joined (.cons (pe_fmt (pv 0)) (.cons pe_str .nil))) (nomark _))
      (pss_one (L2N.ps_raise rfl (L2N.takes_of rfl rfl rfl rfl) (pmk_ownAN PySem.F.excBase_ValueError W.ex W.g W.k (raises_own W.b W.t) (by rfl) (pa_cons (pe_joined (.cons pe_str (.cons (pe_fmt (pv 0)) (.cons pe_str .nil)))) pa_nil)))) pss_nil)
    (pss_cons (ps_for (passes_of rfl) rfl (pi_list (pv 3)) (pg_name (i := 4) sc_read_row.nd rfl (Or.inl rfl))
      (pss_one (ps_if (pt_cmpR op_notIn_seq (pv 4) (pe_glob (v := .ref tp) rfl mN rfl) (by with_unfolding_all rfl))
        (pss_one (L2N.ps_raise rfl (L2N.takes_of rfl rfl rfl rfl) (pmk_ownAN PySem.F.excBase_ValueError W.ex W.g W.k (raises_own W.b W.t) (by rfl) (pa_cons (pe_joined (.cons pe_str (.cons (pe_fmt (pv 0)) (.cons pe_str .nil)))) pa_nil)))) pss_nil)))
    (pss_one (ps_ret (pe_lc (own := [("word", 4)]) (g := gName 4) (tt := tYes) rfl sc_read_row.nd (pi_list (pv 3))
      (blkOk_by (N := readN) (sc := defScope s_read_row) (by decide +kernel))
      (fun _ _ _ _ _ => pg_name (i := 4) sc_read_row.nd rfl (Or.inl rfl)) (fun _ _ _ _ _ => pts_nil) (fun _ _ _ _ _ => pe_callTy call_int_str (by rfl) T.int (by decide +kernel) (pa_cons (pv 4) pa_nil))))))), ?_⟩
  -- an error's text
  have txt : ∀ (σ : St) (c1 c2 : Str) (H2 : Hp) (Q2 : Str → Hp → Prop), σ[0]? = some (some (.int (g : Nat))) → c1.length ≤ 1000 → c2.length ≤ 1000 → (∀ out, Q2 out H2) → tJs [tC (.str c1), tFmt (tVar 0), tC (.str c2)] Str.empty σ H2 Q2 := fun σ c1 c2 H2 Q2 h1 l1 l2 q2 =>
    js_small _ _ _ (fun t ht => by
      rcases List.mem_cons.mp ht with e | ht
      · rw [e]; exact sm_str l1
      rcases List.mem_cons.mp ht with e | ht
      · rw [e]; exact sm_fmt9 (g := ((g : Nat) : Int)) (fun Q q => ⟨_, h1, q⟩) (by omega) (by omega)
      rw [List.mem_singleton] at ht
      rw [ht]; exact sm_str l2) (by rw [show Str.empty.length = 0 from rfl]; show 0 + 1000 * 3 ≤ 1000000; decide) q2
  have sp := spl_len 32 l []
  cases ew : TL.spl [32] 0 [] l with
  | nil => exact absurd ew (spl_ne _ _ _ _)
  | cons hd ws =>
  rw [ew, List.length_cons] at sp
  refine ⟨_, rfl, ⟨_, rfl⟩, _, _, rfl, rfl, rfl, ?_, fun p hp => ?_⟩
  · rw [S_len]; exact le_line (by omega)
  have es : (Txt.split (S l) (" " : Str)).map V.str = V.str (S hd) :: ws.map fun u => V.str (S u) := by
    have e : Txt.split (S l) (" " : Str) = (hd :: ws).map S := by
      rw [← ew]
      exact split_one l (by decide)
    rw [e, List.map_map]
    rfl
  rw [es]
  refine ⟨p, _, _, rfl, SqL.of upd_same, by rw [List.length_map]; omega, fun D hD => ?_⟩
  have s1 := same_new hp (.lst (V.str (S hd) :: ws.map fun u => V.str (S u)))
  have s2 := s1.trans (same_new hD (.lst (ws.map fun u => V.str (S u))))
  have atD : upd (upd H p (.lst (V.str (S hd) :: ws.map fun u => V.str (S u)))) D (.lst (ws.map fun u => V.str (S u))) D = some (.lst (ws.map fun u => V.str (S u))) := upd_same
  generalize upd (upd H p (.lst (V.str (S hd) :: ws.map fun u => V.str (S u)))) D (.lst (ws.map fun u => V.str (S u))) = H2 at s2 atD ⊢
  refine ⟨_, _, rfl, ?_⟩
  refine ⟨_, _, rfl, rfl, ?_⟩
  refine ⟨_, rfl, ?_⟩
  refine head_text (by omega) (fun Q q => ⟨_, rfl, q⟩) ?_
  refine ⟨rfl, _, rfl, ?_⟩
  by_cases ch : hd = TL.numL g ++ [58]
  case neg =>
    rw [decide_eq_false (show ¬ V.str (S hd) = V.str (S (TL.numL g ++ [58])) from fun z => ch (S_inj (V.str.inj z)))]
    refine iteT (txt _ _ _ _ _ rfl (by decide +kernel) (by decide +kernel) fun out => ⟨(by show 1 ≤ sizeLine; decide), ?_⟩)
    rcases q with ⟨ds, hk, _⟩ | ⟨_, q⟩
    · have e := ew.symm.trans hk.1
      exact absurd (List.cons.inj e).1 ch
    · exact q _ s2
  rw [decide_eq_true (show V.str (S hd) = V.str (S (TL.numL g ++ [58])) by rw [ch])]
  refine iteF ?_
  refine ⟨_, rfl, D, rfl, ⟨_, SqL.of atD⟩, for_list (K := K) (a := D) (xs := ws.map fun u => V.str (S u)) (fun i σ H' => H' = H2 ∧ (∀ j : Nat, j < i → ∃ d, d ≤ 5 ∧ ws[j]? = some [48 + d]) ∧ ∃ z, σ = [some (.int (g : Nat)), some (.str (S l)), some (.str (S hd)), some (.ref D), z])
    ⟨rfl, fun j hj => absurd hj (Nat.not_lt_zero _), none, rfl⟩ (fun i σ H' _ h => by rw [h.1]; exact SqL.of atD) ?_ ?_⟩
  · rintro i x σ H' hx ⟨rfl, hb, z, rfl⟩
    rw [List.getElem?_map] at hx
    obtain ⟨u, hu, rfl⟩ := Option.map_eq_some_iff.mp hx
    refine ⟨_, rfl, tp, _, rfl, .inr (tN _), rfl, by decide +kernel, _, rfl, ?_⟩
    show if (!inV (.str (S u)) numVs) = true then _ else _
    rw [in_nums]
    by_cases cw : ∃ d, d ≤ 5 ∧ u = [48 + d]
    · rw [decide_eq_true cw]
      refine iteF ⟨rfl, fun j hj => ?_, _, rfl⟩
      by_cases cj : j = i
      · subst cj
        obtain ⟨d, hd5, rfl⟩ := cw
        exact ⟨d, hd5, hu⟩
      · exact hb j (by omega)
    · rw [decide_eq_false cw]
      refine iteT (txt _ _ _ _ _ rfl (by decide +kernel) (by decide +kernel) fun out => ⟨(by show 1 ≤ sizeLine; decide), ?_⟩)
      rcases q with ⟨ds, hk, _⟩ | ⟨_, q⟩
      · have e := (List.cons.inj (ew.symm.trans hk.1)).2
        rw [e, List.getElem?_map] at hu
        obtain ⟨d, hd, rfl⟩ := Option.map_eq_some_iff.mp hu
        exact absurd ⟨d, hk.2 d (List.mem_of_getElem? hd), rfl⟩ cw
      · exact q _ s2
  · rintro σ H' ⟨rfl, hb, z, rfl⟩
    rw [List.length_map] at hb
    obtain ⟨ds, e1, e2, e3⟩ := words_ds ws hb
    have hk : RowOk g l ds := ⟨by rw [ew, ch, e1], e2⟩
    rcases q with ⟨ds', hk', q⟩ | ⟨no, _⟩
    case inr => exact absurd ⟨ds, hk⟩ no
    have e := hk'.inj hk
    subst e
    refine ⟨_, rfl, D, rfl, ⟨_, SqL.of atD⟩, fun L hL => ?_⟩
    refine lc_list (K := K) (a := D) (xs := ws.map fun u => V.str (S u)) (fun i H'' => Same H' H'' ∧ H'' L = some (.lst ((toI (ds'.take i)).map V.int))) ⟨same_new hL _, upd_same⟩ (fun i H' _ h => h.1.seq (SqL.of atD)) ?_ ?_
    · rintro i x H' hx ⟨sm, atL⟩
      rw [List.getElem?_map, e1, List.getElem?_map] at hx
      obtain ⟨u, hu, rfl⟩ := Option.map_eq_some_iff.mp hx
      obtain ⟨d, hd, rfl⟩ := Option.map_eq_some_iff.mp hu
      have hil := (List.getElem?_eq_some_iff.mp hd).1
      refine ⟨rfl, _, rfl, _, _, rfl, int_one (e2 d (List.mem_of_getElem? hd)), by show 1 ≤ 640; decide, _, atL, ?_, same_put sm hL _, ?_⟩
      · rw [List.length_map]
        unfold toI
        rw [List.length_map, List.length_take]
        exact le_line' (by omega)
      · rw [upd_same, List.take_add_one, hd]
        unfold toI
        rw [List.map_append, List.map_append]
        rfl
    · rintro H' ⟨sm, atL⟩
      rw [List.length_map, ← e3, List.take_length] at atL
      exact q L H' (s2.trans sm) (s2.free hL) atL
end
end B2

namespace B2
open PySem PySem.Spec PyProof.Rows L2 SX
/-- what takes any error takes one that hangs on no other -/
theorem takesZN {X : Cx} {W : WX} (t : L2.Takes X W) : L2N.Takes X W := by
  rintro u s' ⟨a, B, sI, pins, σ, H, cls, d, e, I, nb, up, sky, na, os, ag, w⟩
  refine t u s' ⟨a, B, sI, pins, σ, H, cls, d, e, I, nb, up, ?_, na, os, ag, w⟩
  rcases sky with ⟨k1, k2, k3, oe, vs, q1, q2, q3, q4⟩ | z | z
  · exact .inl ⟨k1, k2, k3, oe, vs, q1, q2.zc, q3, q4⟩
  · exact .inr (.inl (L2H.flyingZ_imp (fun o z => z.zc) z))
  · exact .inr (.inr ⟨z.1, z.2.1, z.2.2.1, L2H.tracedZ_imp (fun o z => z.zc) z.2.2.2⟩)
/-- a new error of an own class, for raise .. from None -/
theorem pmk_ownA5 {X : Cx} {pos : Pos} {cls : Addr} {tail : List Value} {Bn newN initN : String} {nm : Str} {at_ : Pos} {e1 : Expr} {more : List Expr} {ta : TA} (facts : ExcBaseFacts Bn newN initN tail) (isx : PySem.W.excIn X.K cls tail newN = true)
    (stands : X.mg nm = some (.ref cls)) (kept : PySem.W.keepIn X.K (.ref cls) = true) (rs : Raises X (.ref cls)) (glob : Gl X nm) (args : PA X (e1 :: more) ta) (nodb : (nm == ("__debug__" : Str)) = false := by decide)
    (nostar : starEach (e1 :: more) X.env = (false, eval e1 X.env) :: starEach more X.env := by rfl) (nostar2 : (backTo pos (starEach more X.env)).any (·.1) = false := by rfl) :
    L2H.PMk5 X (.Call (.Name nm at_) (e1 :: more) [] pos) (fun σ H Q => ta σ H fun vs H2 => vs.length ≤ sizeLine ∧ Q (.ref cls) none H2) := by
  intro pins s σ H Q inv ask
  refine wpAny_Call_Name_kw (ld_glob inv glob stands ?_ nodb)
  have step := args.run pos pins s σ H _ inv ask
  refine PySem.W.callWith_K (h₀ := X.base) inv.ok.mod.kin kept (thn step fun us t got => ?_) nostar nostar2
  obtain ⟨vs, H2, inv2, rel, small, ask2⟩ := got
  refine ⟨inv2.kIn, ?_⟩
  show wpAny _ _ (call (.ref cls) us) _ _ _
  obtain ⟨_, _, _, _, _, _, _, _, _, _, _, _, _, _, _, _, _, hC, hN, hni, Tl⟩ := exc_obj inv2.kIn isx
  exact wpAny_call_exc_subT facts Tl hC hN hni (fun h2 e made => L2H.mk_of5 inv2 made rs ask2 (inv2.hok.gone made.new)) (by rw [← rel.length]; exact small)
theorem pg_tupK {X : Cx} {K : PySem.W.Frag} {es : List Expr} {k : Nat} {t : TGs} {n : Nat} {pos : Pos} (hK : X.K = K) (hc : X.calm = true) (h : PGs X es t) (hn : (assignEach es X.env).length = n := by rfl)
    (hst : (assignEach es X.env).findIdx? (·.1) = none := by rfl) : PG X (.Tuple es k pos) (gTup K n t) := by
  subst hK
  exact pg_tup hc h hn hst
theorem spl_mem_len (c : Nat) : ∀ (l acc p : List Nat), p ∈ TL.spl [c] 0 acc l → p.length ≤ acc.length + l.length
  | [], acc, p, hp => by
    rw [TL.spl_nil, List.mem_singleton] at hp
    rw [hp]; exact Nat.le_add_right _ _
  | d :: r, acc, p, hp => by
    cases h : TL.pre [c] (d :: r) with
    | true =>
      rw [TL.spl_hit h] at hp
      rcases List.mem_cons.mp hp with hp | hp
      · rw [hp]; exact Nat.le_add_right _ _
      · have := spl_mem_len c r [] p hp
        rw [List.length_nil] at this
        rw [List.length_cons]; omega
    | false =>
      rw [TL.spl_miss h] at hp
      have := spl_mem_len c r (acc ++ [d]) p hp
      rw [List.length_append, List.length_singleton] at this
      rw [List.length_cons]; omega
def NotStr (K : PySem.W.Frag) (H : Hp) (x : V) : Prop := ∃ t, TyX K H x t ∧ PySem.W.kitOne K t (.type "str") = some false
theorem kit_ss {K : PySem.W.Frag} : PySem.W.kitOne K (.type "str") (.type "str") = some true := kit_ty (by decide +kernel)
/-- the error's kind that read lets out -/
abbrev CXz (P : Program) (w : World) : CXT := L2.CX (P) (w)
structure CalZ (P : Program) (w : World) (K : PySem.W.Frag) (mg : Str → Option Value) (base : Heap) (k : Nat) (x : Str) (ps : List Str) (sp : Sp) : Prop where
  ex : ∃ (g : Addr) (gd : FuncData), FnOk P w K mg base (CXz P w) k g gd ps sp ∧ mg x = some (.ref g) ∧ PySem.W.keepIn K (.ref g) = true ∧ Binds K gd ps []
section
variable {P : Program} {w : World} {K : PySem.W.Frag} {mg : Str → Option Value} {base : Heap}

/-! ### read -/
abbrev readWN : List Str := ["text", "wishes", "guest", "line"]
theorem sc_read : FnScope ["text", "wishes", "guest", "line"] ["text"] (defScope s_read) := ⟨rfl, rfl, rfl, by decide +kernel, rfl, by decide +kernel, by decide +kernel⟩
/-- what read refuses -/
def ReadBad (K : PySem.W.Frag) (H : Hp) (v : V) : Prop := (∃ t : List Nat, v = .str (S t) ∧ t.length ≤ 600 ∧ ¬ ∃ dss, Noted (TL.spl [10] 0 [] t) dss) ∨ NotStr K H v
def sp_read (K : PySem.W.Frag) (C : Addr) : Sp := fun vs H Q E => ∃ v : V, vs = [v] ∧
  ((∃ t : List Nat, v = .str (S t) ∧ t.length ≤ 600 ∧ ∃ dss, Noted (TL.spl [10] 0 [] t) dss ∧ ∀ D H', Same H H' → H D = none → Tab K H' D (dss.map toI) → Q (.ref D) H') ∨
   (ReadBad K H v ∧ ∀ H', Same H H' → E (.ref C) none H'))
theorem ok_read {C CW : Addr} {f : Addr} {fd : FuncData} (F : Fun K "read" "read" s_read f fd) (T : Own mg) (W : ErrC K mg "NoNote" C) (mW : mg "BadWishes" = some (.ref CW)) (eW : PySem.W.exmOne K (.ref CW) (.ref CW) = some true)
    (C1 : CalX P w K mg base 1 "read_row" ["guest", "line"] (sp_read_row C)) (C2 : CalX P w K mg base 3 "need_wishes" ["wishes"] (sp_need_wishesX K CW)) :
    FnOk P w K mg base (CXz P w) 4 f fd ["text"] (sp_read K C) := by
  obtain ⟨g1, gd1, G1, m1, k1, b1⟩ := C1
  obtain ⟨g2, gd2, G2, m2, k2, b2⟩ := C2
  refine Fun.okX F sc_read (fun vs H Q E h => ?_) (fun cdv A outer s H vs Q E hr h => ?_)
  · obtain ⟨v, rfl, _⟩ := h
    rfl
  obtain ⟨v, rfl, q0⟩ := h
  have q : (∃ t : List Nat, v = .str (S t) ∧ t.length ≤ 600 ∧ ((∃ dss, Noted (TL.spl [10] 0 [] t) dss ∧ ∀ D H', Same H H' → H D = none → Tab K H' D (dss.map toI) → Q (.ref D) H') ∨
     ((¬ ∃ dss, Noted (TL.spl [10] 0 [] t) dss) ∧ ∀ H', Same H H' → E (.ref C) none H'))) ∨
   (NotStr K H v ∧ ∀ H', Same H H' → E (.ref C) none H') := by
    rcases q0 with ⟨t, e, ht, z⟩ | ⟨⟨t, e, ht, no⟩ | ns, z⟩
    · exact .inl ⟨t, e, ht, .inl z⟩
    · exact .inl ⟨t, e, ht, .inr ⟨no, z⟩⟩
    · exact .inr ⟨ns, z⟩
  have tkZ := L2.takes_of (X := cxOf (CXz P w) P w K mg base readWN "read" (defScope s_read) f cdv A outer s H E) (rfl) rfl rfl rfl
  have tkN := takesZN tkZ
  refine ⟨_, pss_cons (ps_if (pt_not (pt_val (pe_callB call_isi (by rfl) T.isI (by decide +kernel) (pa_cons (pv 0) (pa_cons (pe_bltn (v := .ty "str") (by rfl) T.str (by decide +kernel) rfl) pa_nil)))))
      (pss_one (L2N.ps_raise rfl tkN (pmk_ownAN PySem.F.excBase_ValueError W.ex W.g W.k (raises_own W.b W.t) (by rfl) (pa_cons pe_str pa_nil)))) pss_nil)
    (pss_cons (ps_setLcE (i := 1) (own := [("guest", 2), ("line", 3)]) (g := gTup K 2 (gCons (gName 2) (gCons (gName 3) gNil))) (tt := tYes) rfl rfl rfl tkN sc_read.nd rfl rfl (sw_true rfl rfl rfl rfl)
        (pi_enum (by rfl) T.enm (pa_cons (pe_split (pv 0) pe_str) pa_nil)) (blkOk_by (N := readWN) (sc := defScope s_read) (by decide +kernel))
        (fun _ _ _ _ _ _ => pg_tupK rfl rfl (pgs_cons (pg_name (i := 2) sc_read.nd rfl (Or.inl rfl)) (pgs_cons (pg_name (i := 3) sc_read.nd rfl (Or.inl rfl)) pgs_nil)))
        (fun _ _ _ _ _ _ => pts_nil) (fun _ _ _ _ _ _ ps => pe_call G1 (hr.mono (by decide)) (by rfl) m1 k1 b1 .nil ps (pa_cons (pv 2) (pa_cons (pv 3) pa_nil))))
    (pss_cons (L2H.ps_try_onlyX rfl rfl ⟨rfl, by decide, .inl mW⟩ (L2H.passesAt_of rfl) tkZ
        (fun W pn xe tk _ _ => pss_one (ps_expr (pe_callS G2 hr (by rfl) m2 k2 b2 (fun σ => L2N.passAt tk σ) (pa_cons (pv 1) pa_nil))))
        (fun a oe cls d pn hz hf tkS hot => pss_one (L2H.ps_raiseHN hot tkS (pmk_ownA5 PySem.F.excBase_ValueError W.ex W.g W.k (raises_own W.b W.t) (by rfl) (pa_cons pe_str pa_nil)))))
    (pss_one (ps_ret (pv 1))))), ?_⟩
  rcases q with ⟨t, rfl, ht, q⟩ | ⟨⟨t, ty, hk⟩, q⟩
  case inr => exact ⟨_, rfl, _, _, _, _, _, rfl, .ty _, ty, hk, _, rfl, iteT ⟨(by show 1 ≤ sizeLine; decide), q H (Same.refl H)⟩⟩
  refine ⟨_, rfl, _, _, _, _, _, rfl, .ty _, .base (.str _), kit_ss, _, rfl, iteF ?_⟩
  refine ⟨_, rfl, ⟨_, rfl⟩, _, _, rfl, rfl, rfl, ?_, fun p hp => ?_⟩
  · rw [S_len]; exact le_line (by omega)
  obtain ⟨rows, er⟩ : ∃ rows, rows = TL.spl [10] 0 [] t := ⟨_, rfl⟩
  have hmany : rows.length ≤ 601 := by
    have := spl_len 10 t []
    rw [er]; omega
  have hlong : ∀ (i : Nat) (u : List Nat), rows[i]? = some u → u.length ≤ 600 := fun i u hu => by
    have := spl_mem_len 10 t [] u (by rw [← er]; exact List.mem_of_getElem? hu)
    rw [List.length_nil] at this
    omega
  have es : (Txt.split (S t) ("\n" : Str)).map V.str = rows.map fun u => V.str (S u) := by
    have e : Txt.split (S t) ("\n" : Str) = rows.map S := by
      rw [er]
      exact split_one t (by decide)
    rw [e, List.map_map]
    rfl
  rw [es]
  rw [← er] at q
  have s1 := same_new hp (.lst (rows.map fun u => V.str (S u)))
  have atP : upd H p (.lst (rows.map fun u => V.str (S u))) p = some (.lst (rows.map fun u => V.str (S u))) := upd_same
  generalize upd H p (.lst (rows.map fun u => V.str (S u))) = H1 at s1 atP ⊢
  refine ⟨p, _, rfl, SqL.of atP, fun D hD => ?_⟩
  refine lc_it walk_enum (fun i H' => ∃ dss, RowsTo rows dss i ∧ Built H1 D (dss.map fun ds => (toI ds).map V.int) H') ⟨[], RowsTo.nil, built_start hD⟩ (fun i H' _ h => by
    obtain ⟨dss, _, hB⟩ := h
    exact hB.1.seq (SqL.of atP)) ?_ ?_
  · rintro i x H' H2 hi ⟨dss, hR, hB⟩ ⟨T, x1, x2, rfl, hT, rfl, ex1, ex2⟩
    cases ex1
    change (rows.map fun u => V.str (S u))[i]? = some x2 at ex2
    rw [List.getElem?_map] at ex2
    obtain ⟨u, hu, rfl⟩ := Option.map_eq_some_iff.mp ex2
    have sT := same_new hT (.tup [V.int (i : Nat), .str (S u)])
    have hil := (List.getElem?_eq_some_iff.mp hu).1
    refine ⟨T, _, rfl, SqT.of upd_same, rfl, _, _, rfl, _, _, rfl, rfl, ?_⟩
    refine ⟨rfl, _, rfl, _, rfl, i, u, rfl, by omega, Nat.le_trans (hlong i u hu) (by decide), ?_⟩
    by_cases hk : ∃ ds, RowOk i u ds
    · obtain ⟨ds, hk⟩ := hk
      refine .inl ⟨ds, hk, fun D2 H3 e hD2 at2 => ?_⟩
      obtain ⟨acc, z1, z2, z3⟩ := built_step (f := HO.lst) (r := (toI ds).map V.int) hD hB (sT.trans e) (sT.free hD2) at2
      refine ⟨acc, z1, ?_, dss ++ [ds], hR.snoc hu hk, ?_⟩
      · rw [z2, List.length_map, hR.1]
        exact le_line' (by omega)
      · rw [List.map_append]
        exact z3
    · refine .inr ⟨hk, fun H3 e => ?_⟩
      rcases q with ⟨dz, hz, _⟩ | ⟨_, q⟩
      · obtain ⟨ds, _, k⟩ := hz.1.at hu
        exact absurd ⟨ds, k⟩ hk
      · exact q _ (((s1.trans hB.1).trans sT).trans e)
  · rintro H' ⟨dss, hR, hB⟩
    rw [List.length_map] at hR
    have hR : RowsOk rows dss := hR.all
    have sH := s1.trans hB.1
    have hT : Tab K H' D (dss.map toI) := by
      have e : (dss.map fun ds => (toI ds).map V.int) = (dss.map toI).map fun r => r.map V.int := by rw [List.map_map]; rfl
      have b := hB
      rw [e] at b
      exact Built.tab b |>.t
    refine ⟨_, rfl, _, rfl, ?_⟩
    by_cases good : Good (dss.map toI)
    · refine .inl ⟨D, dss.map toI, rfl, hT, good, fun H3 e => ?_⟩
      refine ⟨_, rfl, ?_⟩
      rcases q with ⟨dz, hz, q⟩ | ⟨no, _⟩
      · have ez := hz.1.inj hR
        subst ez
        exact q D H3 (sH.trans e) (s1.free hD) (hT.same e)
      · exact absurd ⟨dss, hR, good⟩ no
    · refine .inr ⟨tabBad_of hT ?_ ?_ good, fun H3 e => ?_⟩
      · rw [List.length_map, hR.1]; omega
      · intro r hr
        obtain ⟨ds, hds, rfl⟩ := List.mem_map.mp hr
        obtain ⟨j, hj⟩ := List.getElem?_of_mem hds
        have hjl : j < rows.length := by
          have := (List.getElem?_eq_some_iff.mp hj).1
          rw [hR.1] at this
          exact this
        have k := (hR.2 j _ ds (List.getElem?_eq_getElem hjl) hj).1
        have n1 := spl_len 32 rows[j] []
        have n2 := hlong j _ (List.getElem?_eq_getElem hjl)
        rw [k, List.length_cons, List.length_map] at n1
        unfold toI
        rw [List.length_map]
        omega
      · refine ⟨true, eW, fun _ a ha => ⟨(by show 1 ≤ sizeLine; decide), ?_⟩, fun z => nomatch z⟩
        rcases q with ⟨dz, hz, _⟩ | ⟨_, q⟩
        · have ez := hz.1.inj hR
          subst ez
          exact absurd hz.2 good
        · exact q _ (sH.trans e)
end
end B2

namespace B2
open PySem L2
section
variable {P : Program} {w : World} {K : PySem.W.Frag} {mg : Str → Option Value} {base : Heap}

/-! ### _law_cell_at -/
theorem sc_cell_at : FnScope ["_law_script", "_law_k"] ["_law_script", "_law_k"] (defScope s_cell_at) := ⟨rfl, rfl, rfl, by decide +kernel, rfl, by decide +kernel, by decide +kernel⟩
def sp_cell_at (K : PySem.W.Frag) : Sp := fun vs H Q _ => ∃ (a : Addr) (ns : List Int) (k : Int), vs = [.ref a, .int k] ∧ SqL K H a (ns.map V.int) ∧ 0 ≤ k ∧ ∀ c : Int, Q (.int c) H
theorem ok_cell_at {f : Addr} {fd : FuncData} (F : Fun K "_law_cell_at" "_law_cell_at" s_cell_at f fd) (T : Own mg) : FnOk P w K mg base CX0 1 f fd ["_law_script", "_law_k"] (sp_cell_at K) := by
  refine F.ok sc_cell_at (fun vs H Q E h => ?_) (fun cdv A outer s H vs Q E hr h => ?_)
  · obtain ⟨a, ns, k, rfl, _⟩ := h
    rfl
  obtain ⟨a, ns, k, rfl, hS, k0, q⟩ := h
  refine ⟨_, pss_cons (ps_if (pt_cmpR op_lt (pv 1) (pe_callB call_len_seq (by rfl) T.len PySem.boot_len (pa_cons (pv 0) pa_nil)) (nomark _))
      (pss_one (ps_ret (pe_ix ix_list (pv 0) (pv 1) (fun _ _ => rfl)))) pss_nil)
    (pss_one (ps_ret pe_int)), ?_⟩
  refine ⟨_, rfl, _, rfl, a, _, rfl, .inl hS, _, _, rfl, rfl, _, rfl, ?_⟩
  refine ite2 (fun c => ?_) (fun c => ?_)
  · have c' : k < (((ns.map V.int).length : Nat) : Int) := of_decide_eq_true c
    rw [List.length_map] at c'
    have hk : k.toNat < ns.length := by omega
    have e : k = ((k.toNat : Nat) : Int) := by omega
    have z : atI (ns.map V.int) ((k.toNat : Nat) : Int) = some (.int ns[k.toNat]) := atI_nat (by rw [List.getElem?_map, List.getElem?_eq_getElem hk]; rfl)
    rw [← e] at z
    exact ⟨_, rfl, _, rfl, a, _, _, _, rfl, rfl, hS, z, q _⟩
  · exact q 0

/-! ### _law_row_by -/
theorem sc_row_by : FnScope ["_law_cell", "_law_guest", "_law_many", "_law_full", "_law_left", "_law_row", "_law_one"] ["_law_cell", "_law_guest", "_law_many", "_law_full"] (defScope s_row_by) := ⟨rfl, rfl, rfl, by decide +kernel, rfl, by decide +kernel, by decide +kernel⟩
def sp_row_by : Sp := fun vs H Q _ => ∃ (c g : Int) (n : Nat) (full : Bool), vs = [.int c, .int g, .int n, .bl full] ∧ n ≤ 6 ∧
  ∀ (H' : Hp) (p : Addr) (r : List Int), Same H H' → H p = none → H' p = some (.lst (r.map V.int)) → GoodRow n g r → Q (.ref p) H'

/-- what is left to be drawn, and what is drawn -/
structure Draw (H : Hp) (n : Nat) (g : Int) (D R : Addr) (H' : Hp) (left row : List Int) : Prop where
  same : Same H H'
  hD : H D = none
  hR : H R = none
  ne : D ≠ R
  atD : H' D = some (.lst (left.map V.int))
  atR : H' R = some (.lst (row.map V.int))
  nd : (row ++ left).Nodup
  rg : ∀ x ∈ row ++ left, 0 ≤ x ∧ x < (n : Int) ∧ x ≠ g
  sm : (row ++ left).length ≤ 6

theorem Draw.good {H H' : Hp} {n : Nat} {g : Int} {D R : Addr} {left row : List Int} (d : Draw H n g D R H' left row) : GoodRow n g row :=
  ⟨(List.nodup_append.mp d.nd).1, fun x hx => d.rg x (List.mem_append_left _ hx), by have := d.sm; rw [List.length_append] at this; omega⟩

theorem GoodRow.take {n : Nat} {g : Int} {r : List Int} (h : GoodRow n g r) (m : Nat) : GoodRow n g (r.take m) :=
  ⟨h.nd.sublist (List.take_sublist m r), fun x hx => h.rg x (List.mem_of_mem_take hx), Nat.le_trans (List.length_take_le' m r) h.sm⟩

theorem erase_perm {α : Type} : ∀ (l : List α) (k : Nat) (y : α), l[k]? = some y → (y :: l.eraseIdx k).Perm l
  | [], _, _, h => by cases h
  | a :: l, 0, y, h => by cases h; exact List.Perm.refl _
  | a :: l, k + 1, y, h => by
    have ih := erase_perm l k y h
    exact (List.Perm.swap a y _).trans (List.Perm.cons a ih)

theorem Draw.step {H H' : Hp} {n : Nat} {g : Int} {D R : Addr} {left row : List Int} (d : Draw H n g D R H' left row) {k : Nat} {y : Int} (hy : left[k]? = some y) :
    Draw H n g D R (upd (upd H' D (.lst ((left.eraseIdx k).map V.int))) R (.lst ((row ++ [y]).map V.int))) (left.eraseIdx k) (row ++ [y]) := by
  have p : (y :: left.eraseIdx k).Perm left := erase_perm left k y hy
  have p2 : (row ++ [y] ++ left.eraseIdx k).Perm (row ++ left) := by
    rw [List.append_assoc]
    exact List.Perm.append_left row p
  exact ⟨same_put (same_put d.same d.hD _) d.hR _, d.hD, d.hR, d.ne, by rw [upd_ne d.ne, upd_same], upd_same, p2.nodup_iff.mpr d.nd, fun x hx => d.rg x (p2.mem_iff.mp hx), by rw [p2.length_eq]; exact d.sm⟩

theorem ok_row_by {f : Addr} {fd : FuncData} (F : Fun K "_law_row_by" "_law_row_by" s_row_by f fd) (T : Own mg) : FnOk P w K mg base CX0 1 f fd ["_law_cell", "_law_guest", "_law_many", "_law_full"] sp_row_by := by
  refine F.ok sc_row_by (fun vs H Q E h => ?_) (fun cdv A outer s H vs Q E hr h => ?_)
  · obtain ⟨c, g, n, full, rfl, _⟩ := h
    rfl
  obtain ⟨c, g, n, full, rfl, hn, q⟩ := h
  refine ⟨_, pss_cons (ps_setLc (i := 4) (own := [("_law_one", 6)]) (g := gName 6) rfl sc_row_by.nd rfl rfl (sw_true rfl rfl rfl (by decide +kernel)) (pi_range1 rfl T.rng (pa_cons (pv 2) pa_nil))
      (blkOk_by (N := ["_law_cell", "_law_guest", "_law_many", "_law_full", "_law_left", "_law_row", "_law_one"]) (sc := defScope s_row_by) (by decide +kernel))
      (fun _ _ _ _ _ => pg_name (i := 6) sc_row_by.nd rfl (Or.inl rfl)) (fun _ _ _ _ _ => pts_one (pt_cmpR op_ne (pv 6) (pv 1) (nomark _))) (fun _ _ _ _ _ => pv 6))
    (pss_cons (ps_set (i := 5) sc_row_by.nd rfl (Or.inl rfl) (pe_lst pa_nil))
    (pss_cons (ps_while PassesOwn.never (pt_cmpR op_gt (pe_callB call_len_seq (by rfl) T.len PySem.boot_len (pa_cons (pv 4) pa_nil)) pe_int (nomark _))
      (pss_cons (ps_expr (pe_bm PySem.F.plainAttrs_list PySem.F.slot_list_append PySem.F.type_list_append mt_append (pv 5)
          (pa_cons (pe_bm PySem.F.plainAttrs_list PySem.F.slot_list_pop PySem.F.type_list_pop mt_popAt (pv 4)
            (pa_cons (pe_op op_mod (pv 0) (pe_callB call_len_seq (by rfl) T.len PySem.boot_len (pa_cons (pv 4) pa_nil))) pa_nil)) pa_nil)))
      (pss_one (ps_set (i := 0) sc_row_by.nd rfl (Or.inl rfl) (pe_op op_fdiv (pv 0) (pe_op op_add (pe_callB call_len_seq (by rfl) T.len PySem.boot_len (pa_cons (pv 4) pa_nil)) pe_int))))))
    (pss_cons (ps_if (pt_val (pv 3)) (pss_one (ps_ret (pv 5))) pss_nil)
    (pss_one (ps_ret (pe_slice sl_list (pv 5) po_none (po_some (pe_op op_mod (pv 0) (pe_op op_add (pe_callB call_len_seq (by rfl) T.len PySem.boot_len (pa_cons (pv 5) pa_nil)) pe_int))))))))), ?_⟩
  refine ⟨_, rfl, (n : Int), rfl, (by omega), (by omega), fun D hD => ?_⟩
  refine lc_range (lo := 0) (n := (n : Int).toNat) (fun i H' => ∃ acc : List Int, H' = upd H D (.lst (acc.map V.int)) ∧ acc.Nodup ∧ acc.length ≤ i ∧ ∀ x ∈ acc, 0 ≤ x ∧ x < (i : Int) ∧ x ≠ g)
    ⟨[], rfl, List.nodup_nil, Nat.le_refl _, fun x hx => by cases hx⟩ ?_ ?_
  · rintro i H' hi ⟨acc, rfl, nd, hl, hx⟩
    refine ⟨rfl, _, rfl, _, rfl, rfl, _, rfl, ?_⟩
    refine ite2 (fun c => ?_) (fun c => ?_)
    · have hg : (0 + (i : Int)) ≠ g := fun z => by
        rw [decide_eq_true (by rw [z])] at c
        cases c
      refine ⟨_, rfl, acc.map V.int, upd_same, by rw [List.length_map]; exact Nat.lt_of_le_of_lt hl (small1000 (by omega)), acc ++ [0 + (i : Int)], ?_, ?_, ?_, ?_⟩
      · rw [upd_upd, List.map_append]; rfl
      · rw [List.nodup_append]
        refine ⟨nd, by simp, fun x hx1 y hy => ?_⟩
        rw [List.mem_singleton] at hy
        have := hx x hx1
        rw [hy]
        omega
      · rw [List.length_append, List.length_singleton]; omega
      · intro x hx1
        rcases List.mem_append.mp hx1 with h | h
        · have := hx x h
          exact ⟨this.1, by omega, this.2.2⟩
        · rw [List.mem_singleton] at h
          rw [h]
          exact ⟨by omega, by omega, hg⟩
    · exact ⟨acc, rfl, nd, by omega, fun x h => by
        have := hx x h
        exact ⟨this.1, by omega, this.2.2⟩⟩
  · rintro H' ⟨acc, rfl, nd, hl, hx⟩
    refine ⟨(by show 0 ≤ sizeLine; decide), fun R hR => ?_⟩
    have hDR : D ≠ R := ne_of_none (upd_same (H := H) (a := D)) hR
    have hR0 : H R = none := (same_new hD _).free hR
    refine while_by (fun σ H' => ∃ (c : Int) (left row : List Int) (z : Option V), σ = [some (.int c), some (.int g), some (.int n), some (.bl full), some (.ref D), some (.ref R), z] ∧ Draw H n g D R H' left row)
      (fun σ H' => match H' D with | some (.lst xs) => xs.length | _ => 0)
      ⟨c, acc, [], none, rfl, same_put (same_new hD _) hR0 _, hD, hR0, hDR, by rw [upd_ne hDR, upd_same], upd_same, nd, ?_, ?_⟩ ?_ ?_
    · intro x h
      have := hx x h
      exact ⟨this.1, by omega, this.2.2⟩
    · show acc.length ≤ 6
      omega
    · rintro σ H' ⟨c, left, row, z, rfl, d⟩
      refine ⟨_, rfl, D, _, rfl, .inl (SqL.of d.atD), _, _, rfl, rfl, _, rfl, ?_⟩
      rw [List.length_map]
      refine ite2 (fun c1 => ?_) (fun c1 => ?_)
      · have hl0 : ((left.length : Nat) : Int) > 0 := of_decide_eq_true c1
        have hk : (c % (left.length : Int)).toNat < left.length := by
          have h1 := Int.emod_lt_of_pos c hl0
          omega
        have h1 := Int.emod_lt_of_pos c hl0
        have h0 := Int.emod_nonneg c (show (left.length : Int) ≠ 0 by omega)
        have hlen := d.sm
        rw [List.length_append] at hlen
        have hget : left[(c % (left.length : Int)).toNat]? = some left[(c % (left.length : Int)).toNat] := List.getElem?_eq_getElem hk
        have d2 := d.step hget
        have nRD : R ≠ D := d.ne.symm
        refine ⟨_, rfl, .inl ⟨rfl, _, SqL.of d.atR⟩, ?_⟩
        refine ⟨_, rfl, .inl ⟨rfl, _, SqL.of d.atD⟩, ?_⟩
        refine ⟨_, rfl, _, rfl, D, _, rfl, .inl (SqL.of d.atD), c, (left.length : Int), rfl, by rw [List.length_map], hl0, ?_⟩
        refine ⟨D, _, _, (c % (left.length : Int)).toNat, _, rfl, rfl, d.atD, (by omega), (by omega), ?_, (by rw [List.getElem?_map, hget]; rfl), ?_⟩
        · rw [List.length_map]
          exact seqIx h0 h1
        refine ⟨R, _, _, rfl, rfl, by rw [upd_ne nRD]; exact d.atR, ?_, ?_⟩
        · rw [List.length_map]
          exact small1000 (by omega)
        have eH : upd (upd H' D (.lst ((left.map V.int).eraseIdx (c % (left.length : Int)).toNat))) R (.lst (row.map V.int ++ [V.int left[(c % (left.length : Int)).toNat]])) =
            upd (upd H' D (.lst ((left.eraseIdx (c % (left.length : Int)).toNat).map V.int))) R (.lst ((row ++ [left[(c % (left.length : Int)).toNat]]).map V.int)) := by
          rw [map_erase, List.map_append]; rfl
        rw [eH]
        have hel : (left.eraseIdx (c % (left.length : Int)).toNat).length = left.length - 1 := by rw [List.length_eraseIdx, if_pos hk]
        refine ⟨_, rfl, _, rfl, D, _, rfl, .inl (SqL.of d2.atD), _, _, rfl, rfl, _, _, rfl, rfl, ?_, ?_⟩
        · rw [List.length_map, hel]
          exact ⟨by omega, by omega⟩
        · refine ⟨⟨_, _, _, _, rfl, d2⟩, ?_⟩
          rw [d2.atD, d.atD]
          show (List.map V.int _).length < (List.map V.int _).length
          rw [List.length_map, List.length_map, hel]
          omega
      · have hl0 : left = [] := by
          have : ¬ ((left.length : Nat) : Int) > 0 := of_decide_eq_false (Bool.eq_false_iff.mpr c1)
          cases left with
          | nil => rfl
          | cons a l => simp at this
        subst hl0
        have hG := d.good
        refine ⟨_, rfl, _, rfl, ?_⟩
        refine ite2 (fun c2 => ?_) (fun c2 => ?_)
        · exact ⟨_, rfl, q H' R row d.same d.hR d.atR hG⟩
        · obtain ⟨m, hm⟩ := cut_take row (c % ((((row.map V.int).length : Nat) : Int) + 1))
          refine ⟨_, rfl, _, rfl, _, rfl, R, _, rfl, .inl (SqL.of d.atR), _, _, rfl, rfl, _, _, rfl, rfl, (by show (0 : Int) < (((row.map V.int).length : Nat) : Int) + 1; omega), _, rfl, R, _, rfl, SqL.of d.atR, fun p hp => ?_⟩
          rw [hm]
          exact q _ p (row.take m) (d.same.trans (same_new hp _)) (d.same.free hp) upd_same (hG.take m)
    · rintro σ H' Q1 Q2 hq ⟨v, hv, p, ys, e1, h, i, j, e2, e3, k, e4, hq1⟩
      exact ⟨v, hv, p, ys, e1, h, i, j, e2, e3, k, e4, hq _ _ hq1⟩

/-! ### _law_wishes_by -/
theorem sc_wishes_by : FnScope ["_law_script", "_law_many", "_law_full", "_law_k"] ["_law_script", "_law_many"] (defScope s_wishes_by) := ⟨rfl, rfl, rfl, by decide +kernel, rfl, by decide +kernel, by decide +kernel⟩
def sp_wishes_by (K : PySem.W.Frag) : Sp := fun vs H Q _ => ∃ (a : Addr) (ns : List Int) (n : Nat), vs = [.ref a, .int n] ∧ SqL K H a (ns.map V.int) ∧ 1 ≤ n ∧ n ≤ 6 ∧
  ∀ (H' : Hp) (p : Addr) (ws : List (List Int)), Same H H' → H p = none → Tab K H' p ws → Good ws → ws.length = n → Q (.ref p) H'
theorem ok_wishes_by {f : Addr} {fd : FuncData} (F : Fun K "_law_wishes_by" "_law_wishes_by" s_wishes_by f fd) (T : Own mg) (C1 : Cal P w K mg base 1 "_law_cell_at" ["_law_script", "_law_k"] (sp_cell_at K))
    (C2 : Cal P w K mg base 1 "_law_row_by" ["_law_cell", "_law_guest", "_law_many", "_law_full"] sp_row_by) : FnOk P w K mg base CX0 2 f fd ["_law_script", "_law_many"] (sp_wishes_by K) := by
  obtain ⟨g1, gd1, G1, m1, k1, b1⟩ := C1
  obtain ⟨g2, gd2, G2, m2, k2, b2⟩ := C2
  refine F.ok sc_wishes_by (fun vs H Q E h => ?_) (fun cdv A outer s H vs Q E hr h => ?_)
  · obtain ⟨a, ns, n, rfl, _⟩ := h
    rfl
  obtain ⟨a, ns, n, rfl, hS, n1, n6, q⟩ := h
  refine ⟨_, pss_cons (ps_set (i := 2) sc_wishes_by.nd rfl (Or.inr rfl) (pe_cmpR op_gt (pe_op op_mod (pe_call G1 hr (by rfl) m1 k1 b1 .nil pass0 (pa_cons (pv 0) (pa_cons pe_int pa_nil))) pe_int) pe_int (nomark _)))
    (pss_one (ps_ret (pe_lc (own := [("_law_k", 3)]) (g := gName 3) (tt := tYes) rfl sc_wishes_by.nd (pi_range1 rfl T.rng (pa_cons (pv 1) pa_nil))
      (blkOk_by (N := ["_law_script", "_law_many", "_law_full", "_law_k"]) (sc := defScope s_wishes_by) (by decide +kernel))
      (fun _ _ _ _ _ => pg_name (i := 3) sc_wishes_by.nd rfl (Or.inl rfl)) (fun _ _ _ _ _ => pts_nil)
      (fun _ _ _ _ _ => pe_call G2 hr (by rfl) m2 k2 b2 .nil pass0 (pa_cons (pe_call G1 hr (by rfl) m1 k1 b1 .nil pass0 (pa_cons (pv 0) (pa_cons (pe_op op_add pe_int (pv 3)) pa_nil))) (pa_cons (pv 3) (pa_cons (pv 1) (pa_cons (pv 2) pa_nil)))))))), ?_⟩
  refine ⟨_, rfl, a, ns, 1, rfl, hS, by decide, fun c => ?_⟩
  refine ⟨_, _, rfl, rfl, (by show (0 : Int) < 3; decide), _, _, rfl, rfl, ?_⟩
  refine ⟨_, rfl, (n : Int), rfl, by omega, by omega, fun D hD => ?_⟩
  refine lc_range (lo := 0) (n := (n : Int).toNat) (fun i H' => ∃ ws : List (List Int), Built H D (ws.map fun r => r.map V.int) H' ∧ ws.length = i ∧ ∀ (g : Nat) (r : List Int), ws[g]? = some r → GoodRow n (g : Int) r)
    ⟨[], built_start hD, rfl, fun g r h => by cases h⟩ ?_ ?_
  · rintro i H1 hi ⟨ws, hB, hl, hG⟩
    refine ⟨rfl, ?_⟩
    refine ⟨_, rfl, _, rfl, _, _, rfl, rfl, a, ns, _, rfl, hB.1.seq hS, (by omega), fun c2 => ?_⟩
    refine ⟨_, rfl, _, rfl, _, rfl, c2, (i : Int), n, _, (by rw [Int.zero_add]; rfl), n6, fun H2 p r e hp hp2 hr2 => ?_⟩
    obtain ⟨acc, h1, h2, h3⟩ := built_step hD hB e hp hp2
    refine ⟨acc, h1, ?_, ws ++ [r], ?_, ?_, ?_⟩
    · rw [h2, List.length_map, hl]
      exact small1000 (by omega)
    · rw [List.map_append]; exact h3
    · rw [List.length_append, hl]; rfl
    · intro g r' h
      rw [List.getElem?_append] at h
      by_cases c : g < ws.length
      · rw [if_pos c] at h
        exact hG g r' h
      · rw [if_neg c] at h
        have i0 : g - ws.length = 0 := by
          have := (List.getElem?_eq_some_iff.mp h).1
          simp at this
          omega
        rw [i0] at h
        cases h
        have : g = i := by omega
        rw [this]
        exact hr2
  · rintro H1 ⟨ws, hB, hl, hG⟩
    have hln : ws.length = n := by omega
    exact q H1 D ws hB.1 hD hB.tab.t ⟨by omega, by omega, fun g r h => by rw [hln]; exact hG g r h⟩ hln
end
end B2

namespace B2
open PySem L2
section
variable {P : Program} {w : World} {K : PySem.W.Frag} {mg : Str → Option Value} {base : Heap}

/-! ### _law_whole -/
theorem sc_whole : FnScope ["_law_found"] ["_law_found"] (defScope s_whole) := ⟨rfl, rfl, rfl, by decide +kernel, rfl, by decide +kernel, by decide +kernel⟩
def sp_whole : Sp := fun vs H Q _ => ∃ (i : Int), vs = [.int i] ∧ Q (.bl true) H
theorem ok_whole {f : Addr} {fd : FuncData} (F : Fun K "_law_whole" "_law_whole" s_whole f fd) (T : Own mg) : FnOk P w K mg base CX0 1 f fd ["_law_found"] sp_whole := by
  refine F.ok sc_whole (fun vs H Q E h => ?_) (fun cdv A outer s H vs Q E hr h => ?_)
  · obtain ⟨i, rfl, _⟩ := h
    rfl
  obtain ⟨i, rfl, q⟩ := h
  refine ⟨_, pss_one (ps_ret (pe_and (pe_callB call_isi (by rfl) T.isI (by decide +kernel) (pa_cons (pv 0) (pa_cons (pe_bltn (v := .ty "int") (by rfl) T.int (by decide +kernel) rfl) pa_nil)))
      (pe_one (pe_not (pe_callB call_isi (by rfl) T.isI (by decide +kernel) (pa_cons (pv 0) (pa_cons (pe_bltn (v := .ty "bool") (by rfl) T.bool (by decide +kernel) rfl) pa_nil))))))), ?_⟩
  exact ⟨_, rfl, _, _, _, _, _, rfl, .ty _, .base (.int i), kit_ii, _, rfl, _, rfl, _, _, _, _, _, rfl, .ty _, .base (.int i), kit_ib, _, rfl, q⟩

end
end B2

namespace B2
open PySem L2 SX
/-! ### The text of wishes -/
theorem numtext3 {n : Int} (h0 : 0 ≤ n) (h9 : n ≤ 999) : (Str.ofString (toString n)).length ≤ 3 := by
  have e : n = ((n.toNat : Nat) : Int) := by omega
  rw [e, num_S, S_len]
  exact num_len (by omega)
theorem sum_len (us : List Str) (k : Nat) (h : ∀ u ∈ us, u.length ≤ k) : (us.map (·.length)).sum ≤ us.length * k := by
  induction us with
  | nil => simp
  | cons u us ih =>
    have := ih (fun v hv => h v (List.mem_cons_of_mem _ hv))
    have hu := h u (List.mem_cons_self ..)
    rw [List.map_cons, List.sum_cons, List.length_cons, Nat.succ_mul]
    omega
def rowT (g : Nat) (ds : List Nat) : List Nat := TL.numL g ++ [58] ++ flatD ds
def rowsT (dss : List (List Nat)) : List (List Nat) := (List.range dss.length).map fun i => rowT i (dss.getD i [])
def noteT (dss : List (List Nat)) : List Nat := TL.joinL [10] (rowsT dss)
theorem flatD_len (ds : List Nat) : (flatD ds).length = 2 * ds.length := by
  induction ds with
  | nil => rfl
  | cons d ds ih => rw [flatD_cons, List.length_cons, List.length_cons, ih, List.length_cons]; omega
theorem rowT_len {g : Nat} {ds : List Nat} (h : g ≤ 999) : (rowT g ds).length ≤ 4 + 2 * ds.length := by
  unfold rowT
  rw [List.length_append, List.length_append, flatD_len, List.length_singleton]
  have := num_len h
  omega
theorem getD_at {dss : List (List Nat)} {i : Nat} {ds : List Nat} (h : dss[i]? = some ds) : dss.getD i [] = ds := by
  rw [List.getD_eq_getElem?_getD, h]
  rfl
theorem noted_note {dss : List (List Nat)} (hG : Good (dss.map toI)) (h5 : ∀ ds ∈ dss, ∀ d ∈ ds, d ≤ 5) : Noted (TL.spl [10] 0 [] (noteT dss)) dss := by
  have lo := hG.lo
  rw [List.length_map] at lo
  have ne : rowsT dss ≠ [] := by
    intro z
    have := congrArg List.length z
    unfold rowsT at this
    rw [List.length_map, List.length_range, List.length_nil] at this
    omega
  have e : TL.spl [10] 0 [] (noteT dss) = rowsT dss := by
    refine TL.spl_join ne fun p hp z => ?_
    obtain ⟨i, _, rfl⟩ := List.mem_map.mp hp
    rcases List.mem_append.mp z with z | z
    · rcases List.mem_append.mp z with z | z
      · exact TL.numL_free (Or.inl (by decide)) z
      · rw [List.mem_singleton] at z
        cases z
    · unfold flatD at z
      obtain ⟨d, _, hd⟩ := List.mem_flatMap.mp z
      simp only [List.mem_cons, List.not_mem_nil, or_false] at hd
      omega
  rw [e]
  refine ⟨⟨?_, fun i l ds hl hds => ?_⟩, hG⟩
  · unfold rowsT
    rw [List.length_map, List.length_range]
  · have hi := (List.getElem?_eq_some_iff.mp hds).1
    unfold rowsT at hl
    rw [List.getElem?_map, List.getElem?_range hi] at hl
    cases hl
    show RowOk i (rowT i (dss.getD i [])) ds
    rw [getD_at hds]
    exact row_iff.mpr ⟨rfl, h5 ds (List.mem_of_getElem? hds)⟩
theorem joinL_len (c : Nat) (k : Nat) : ∀ us : List (List Nat), (∀ u ∈ us, u.length ≤ k) → (TL.joinL [c] us).length ≤ us.length * (k + 1)
  | [], _ => Nat.zero_le _
  | [u], h => by
    show u.length ≤ _
    have := h u (List.mem_singleton.mpr rfl)
    rw [List.length_singleton]
    omega
  | u :: v :: r, h => by
    have := h u (List.mem_cons_self ..)
    have ih := joinL_len c k (v :: r) fun w hw => h w (List.mem_cons_of_mem _ hw)
    rw [joinL_cons (List.cons_ne_nil _ _), List.length_append, List.length_append, List.length_cons (a := u), Nat.succ_mul, List.length_singleton]
    omega
theorem note_len {dss : List (List Nat)} (hG : Good (dss.map toI)) : (noteT dss).length ≤ 600 := by
  have hi := hG.hi
  rw [List.length_map] at hi
  have z := joinL_len 10 16 (rowsT dss) fun u hu => by
    unfold rowsT at hu
    obtain ⟨i, hi2, rfl⟩ := List.mem_map.mp hu
    rw [List.mem_range] at hi2
    have e := List.getElem?_eq_getElem hi2
    rw [getD_at e]
    have l := rowT_len (g := i) (ds := dss[i]) (by omega)
    have s := (hG.row i (toI dss[i]) (by rw [List.getElem?_map, e]; rfl)).sm
    unfold toI at s
    rw [List.length_map] at s
    omega
  have : (rowsT dss).length = dss.length := by unfold rowsT; rw [List.length_map, List.length_range]
  unfold noteT
  rw [this] at z
  have : dss.length * (16 + 1) ≤ 6 * 17 := Nat.mul_le_mul_right _ hi
  omega
theorem rowsT_take {dss : List (List Nat)} {i : Nat} {ds : List Nat} (h : dss[i]? = some ds) (f : List Nat → V) : ((List.range i).map fun j => f (rowT j (dss.getD j []))) ++ [f (rowT i ds)] = (List.range (i + 1)).map fun j => f (rowT j (dss.getD j [])) := by
  rw [List.range_succ, List.map_append, List.map_singleton, getD_at h]
/-- numbers as the program has them -/
theorem dss_of {ws : List (List Int)} (hG : Good ws) : ∃ dss : List (List Nat), dss.map toI = ws ∧ ∀ ds ∈ dss, ∀ d ∈ ds, d ≤ 5 := by
  refine ⟨ws.map fun r => r.map Int.toNat, ?_, fun ds hds d hd => ?_⟩
  · rw [List.map_map]
    refine List.ext_getElem? fun i => ?_
    rw [List.getElem?_map]
    cases e : ws[i]? with
    | none => rfl
    | some r =>
      show some (toI (r.map Int.toNat)) = some r
      congr 1
      unfold toI
      rw [List.map_map]
      refine (List.map_congr_left fun x hx => ?_).trans (List.map_id _)
      have := (hG.row i r e).rg x hx
      show ((x.toNat : Nat) : Int) = x
      omega
  · obtain ⟨r, hr, rfl⟩ := List.mem_map.mp hds
    obtain ⟨x, hx, rfl⟩ := List.mem_map.mp hd
    obtain ⟨i, hi⟩ := List.getElem?_of_mem hr
    have := (hG.row i r hi).rg x hx
    have := hG.hi
    omega
/-! ### A table of code objects that grows -/
structure SameP (P : Addr) (H H' : Hp) : Prop where
  tab : GxR.TabG H' P
  off : ∀ b o, b ≠ P → H b = some o → H' b = some o
theorem tabG_same {P : Addr} {H H' : Hp} (t : GxR.TabG H P) (e : Same H H') : GxR.TabG H' P := by
  obtain ⟨ps, h1, h2⟩ := t
  exact ⟨ps, e _ _ h1, h2⟩
theorem same_p {P : Addr} {H H' : Hp} (e : Same H H') (t : GxR.TabG H P) : SameP P H H' := ⟨tabG_same t e, fun b o _ h => e b o h⟩
theorem tabbed_p {P : Addr} {H H' : Hp} (e : GxR.Tabbed P H H') : SameP P H H' := ⟨e.1, fun b o n h => by rw [e.2 b n]; exact h⟩
theorem SameP.trans {P : Addr} {H H1 H2 : Hp} (a : SameP P H H1) (b : SameP P H1 H2) : SameP P H H2 := ⟨b.tab, fun x o n h => b.off x o n (a.off x o n h)⟩
theorem lst_ne {P a : Addr} {H : Hp} {xs : List V} (t : GxR.TabG H P) (h : H a = some (.lst xs)) : a ≠ P := by
  rintro rfl
  obtain ⟨ps, h1, _⟩ := t
  rw [h] at h1
  cases h1
theorem SameP.seq {K : PySem.W.Frag} {P a : Addr} {H H' : Hp} {xs : List V} (e : SameP P H H') (t : GxR.TabG H P) (h : SqL K H a xs) : SqL K H' a xs := by
  obtain ⟨ps, h1, _⟩ := t
  rcases h with (h | ⟨o, h⟩) | h
  · exact .inl (.inl (e.off _ _ (by rintro rfl; rw [h] at h1; cases h1) h))
  · exact .inl (.inr ⟨o, e.off _ _ (by rintro rfl; rw [h] at h1; cases h1) h⟩)
  · exact .inr h
theorem SameP.tabl {K : PySem.W.Frag} {P a : Addr} {H H' : Hp} {ws : List (List Int)} (e : SameP P H H') (t : GxR.TabG H P) (h : Tab K H a ws) : Tab K H' a ws := by
  obtain ⟨as, h1, h2, h3⟩ := h
  refine ⟨as, e.seq t h1, h2, fun i r hr => ?_⟩
  obtain ⟨b, hb, hs⟩ := h3 i r hr
  exact ⟨b, hb, e.seq t hs⟩
theorem SameP.put {P D : Addr} {H H' : Hp} {o : HO} (e : SameP P H H') (hD : H D = none) (nP : D ≠ P) : SameP P H (upd H' D o) := by
  refine ⟨?_, fun b u n h => ?_⟩
  · obtain ⟨ps, h1, h2⟩ := e.tab
    exact ⟨ps, by rw [upd_ne nP.symm]; exact h1, h2⟩
  · rw [upd_ne (by rintro rfl; rw [hD] at h; cases h)]
    exact e.off b u n h
end B2

namespace B2
open PySem L2 SX
/-- f" {d}" -/
def blankT (n : Int) : Str := (" " : Str) ++ Str.ofString (toString n)
theorem blank_S {d : Nat} (h : d ≤ 5) : blankT ((d : Nat) : Int) = S [32, 48 + d] := by
  unfold blankT
  rw [num_S, TL.numL_lt (by omega)]
  exact S_cat [32] [48 + d]
theorem joinL_nil : ∀ us : List (List Nat), TL.joinL [] us = us.flatten
  | [] => rfl
  | [u] => by
    show u = [u].flatten
    simp
  | u :: v :: r => by
    rw [joinL_cons (List.cons_ne_nil _ _), joinL_nil (v :: r)]
    rfl
theorem blanks {ds : List Nat} (h : ∀ d ∈ ds, d ≤ 5) : (toI ds).map blankT = (ds.map fun d => [32, 48 + d]).map S := by
  unfold toI
  rw [List.map_map, List.map_map]
  exact List.map_congr_left fun d hd => blank_S (h d hd)
theorem joined_blanks {ds : List Nat} (h : ∀ d ∈ ds, d ≤ 5) : Txt.join ("" : Str) ((toI ds).map blankT) = S (flatD ds) := by
  rw [blanks h]
  have e : ("" : Str) = S [] := rfl
  rw [e, join_S, joinL_nil]
  rfl
section
variable {P : Program} {w : World} {K : PySem.W.Frag} {mg : Str → Option Value} {base : Heap}
theorem passN0 {X : Cx} {P : Program} {w : World} : Passes (L2N.CX P w) X (fun _ _ _ => False) := by
  rintro _ _ _ _ _ _ _ ⟨_, _, _, _, _, _, _, _, _, _, _, _, z⟩
  exact z.elim

/-! ### shown_row -/
theorem sc_shown_row : FnScope ["guest", "row"] ["guest", "row"] (defScope s_shown_row) := ⟨rfl, rfl, rfl, by decide +kernel, rfl, by decide +kernel, by decide +kernel⟩
def sp_shown_row (K : PySem.W.Frag) (PS : Addr) : Sp := fun vs H Q _ => ∃ (g : Nat) (b : Addr) (ds : List Nat), vs = [.int g, .ref b] ∧ g ≤ 9 ∧ SqL K H b ((toI ds).map V.int) ∧ (∀ d ∈ ds, d ≤ 5) ∧ ds.length ≤ 100 ∧ GxR.TabG H PS ∧
  ∀ H', GxR.Tabbed PS H H' → Q (.str (S (rowT g ds))) H'
theorem ok_shown_row {cS PS : Addr} {f : Addr} {oc kV dc pm ct : Value} {od an : Option Addr} {sl : Array (Option Value)} (stands : K.lookup f = some ⟨oc, od, .func (PySem.W.fnOf "shown_row" "shown_row" (defArgs s_shown_row) (defBody s_shown_row) (defScope s_shown_row) .none kV dc pm an (.ref cS) ct), sl⟩)
    (here : PySem.W.codeIn K (.ref cS) "shown_row" = true) (TB : GxR.TabB base mg cS PS) :
    FnOk P w K mg base CX0 1 f (PySem.W.fnOf "shown_row" "shown_row" (defArgs s_shown_row) (defBody s_shown_row) (defScope s_shown_row) .none kV dc pm an (.ref cS) ct) ["guest", "row"] (sp_shown_row K PS) := by
  refine fn_of stands here sc_shown_row (fun vs H Q E h => ?_) (fun A outer s H vs Q E hr h => ?_)
  · obtain ⟨g, b, ds, rfl, _⟩ := h
    rfl
  obtain ⟨g, b, ds, rfl, hg, hS, h5, hl, hT, q⟩ := h
  refine ⟨_, pss_one (ps_ret (pe_op op_add_str (pe_joined (.cons (pe_fmt (pv 0)) (.cons pe_str .nil)))
    (pe_joinN (Ok := fun n => 0 ≤ n ∧ n ≤ 5) hr TB rfl (by exact ⟨rfl, rfl, by decide +kernel, rfl, rfl, fun y hy e => absurd e ((show ∀ y ∈ _, y.2 ≠ NameKind.free by decide +kernel) y hy)⟩) pe_str (pv 1)
      (elt_num rfl rfl (fun n hn => ⟨log_small hn.1 (by omega), Nat.le_trans (numtext3 hn.1 (by omega)) (by decide)⟩) (by decide +kernel)) (fun _ => rfl)))), ?_⟩
  refine head_text (by omega) (fun Q q => ⟨_, rfl, q⟩) ?_
  have len2 : ∀ u ∈ (toI ds).map blankT, u.length ≤ 2 := by
    rw [blanks h5]
    intro u hu
    obtain ⟨x, hx, rfl⟩ := List.mem_map.mp hu
    obtain ⟨d, _, rfl⟩ := List.mem_map.mp hx
    exact Nat.le_refl _
  have sum := sum_len _ 2 len2
  have many : ((toI ds).map blankT).length = ds.length := by unfold toI; rw [List.length_map, List.length_map]
  have fits : JoinOk ("" : Str) ((toI ds).map blankT) = true := PyProof.Rows.joinOk_of (by
    rw [many] at sum ⊢
    show _ + ds.length * 0 ≤ 16777216
    omega)
  refine ⟨_, rfl, _, rfl, b, toI ds, rfl, hS, fun n hn => ?_, hT, fits, by unfold toI; rw [List.length_map]; omega, fun H3 tb => ?_⟩
  · unfold toI at hn
    obtain ⟨d, hd, rfl⟩ := List.mem_map.mp hn
    have := h5 d hd
    omega
  have lr := rowT_len (g := g) (ds := ds) (by omega)
  have cat : S (TL.numL g ++ [58]) ++ S (flatD ds) = S (rowT g ds) := S_cat _ _
  refine ⟨_, _, rfl, rfl, ?_, ?_⟩
  · show (S (TL.numL g ++ [58])).length + (Txt.join ("" : Str) ((toI ds).map blankT)).length ≤ sizeLine
    rw [joined_blanks h5, S_len, S_len]
    unfold rowT at lr
    rw [List.length_append] at lr
    exact le_line (by omega)
  · show Q (.str (S (TL.numL g ++ [58]) ++ Txt.join ("" : Str) ((toI ds).map blankT))) H3
    rw [joined_blanks h5, cat]
    exact q H3 tb

/-! ### shown -/
abbrev shownN : List Str := ["wishes", "rows", "guest", "row"]
theorem sc_shown : FnScope ["wishes", "rows", "guest", "row"] ["wishes"] (defScope s_shown) := ⟨rfl, rfl, rfl, by decide +kernel, rfl, by decide +kernel, by decide +kernel⟩
def sp_shown (K : PySem.W.Frag) (PS : Addr) : Sp := fun vs H Q _ => ∃ (a : Addr) (dss : List (List Nat)), vs = [.ref a] ∧ Tab K H a (dss.map toI) ∧ Good (dss.map toI) ∧ (∀ ds ∈ dss, ∀ d ∈ ds, d ≤ 5) ∧ GxR.TabG H PS ∧
  ∀ H', SameP PS H H' → Q (.str (S (noteT dss))) H'
theorem ok_shown {CW PS : Addr} {f : Addr} {fd : FuncData} (F : Fun K "shown" "shown" s_shown f fd) (T : Own mg) (C1 : CalX P w K mg base 3 "need_wishes" ["wishes"] (sp_need_wishesX K CW)) (C2 : Cal P w K mg base 1 "shown_row" ["guest", "row"] (sp_shown_row K PS)) :
    FnOk P w K mg base CX0 4 f fd ["wishes"] (sp_shown K PS) := by
  obtain ⟨g1, gd1, G1, m1, k1, b1⟩ := C1
  obtain ⟨g2, gd2, G2, m2, k2, b2⟩ := C2
  refine F.ok sc_shown (fun vs H Q E h => ?_) (fun cdv A outer s H vs Q E hr h => ?_)
  · obtain ⟨a, dss, rfl, _⟩ := h
    rfl
  obtain ⟨a, dss, rfl, hT, hG, h5, hP, q⟩ := h
  refine ⟨_, pss_cons (ps_expr (pe_call G1 hr (by rfl) m1 k1 b1 .nil passN0 (pa_cons (pv 0) pa_nil)))
    (pss_cons (ps_setLc (i := 1) (own := [("guest", 2), ("row", 3)]) (g := gTup K 2 (gCons (gName 2) (gCons (gName 3) gNil))) (tt := tYes) rfl sc_shown.nd rfl rfl (sw_true rfl rfl rfl (by decide +kernel)) (pi_enum (by rfl) T.enm (pa_cons (pv 0) pa_nil))
      (blkOk_by (N := shownN) (sc := defScope s_shown) (by decide +kernel))
      (fun _ _ _ _ _ => pg_tupK rfl rfl (pgs_cons (pg_name (i := 2) sc_shown.nd rfl (Or.inl rfl)) (pgs_cons (pg_name (i := 3) sc_shown.nd rfl (Or.inl rfl)) pgs_nil))) (fun _ _ _ _ _ => pts_nil)
      (fun _ _ _ _ _ => pe_call G2 (hr.mono (by decide)) (by rfl) m2 k2 b2 .nil pass0 (pa_cons (pv 2) (pa_cons (pv 3) pa_nil))))
    (pss_one (ps_ret (pe_join pe_str (pv 1))))), ?_⟩
  have hi := hG.hi
  have lo := hG.lo
  rw [List.length_map] at hi lo
  refine ⟨_, rfl, _, rfl, .inl ⟨a, dss.map toI, rfl, hT, hG, fun H1 e1 => ?_⟩⟩
  have hT1 := hT.same e1
  have hP1 := tabG_same hP e1
  obtain ⟨as, t1, t2, t3⟩ := id hT1
  have tl : (as.map V.ref).length = dss.length := by rw [List.length_map, t2, List.length_map]
  refine ⟨_, rfl, a, _, rfl, t1, fun D hD => ?_⟩
  have nD : D ≠ PS := by
    rintro rfl
    obtain ⟨ps, h1, _⟩ := hP1
    rw [hD] at h1
    cases h1
  refine lc_it walk_enum (fun i H' => SameP PS H1 H' ∧ H' D = some (.lst ((List.range i).map fun j => V.str (S (rowT j (dss.getD j [])))))) ⟨(same_p (Same.refl H1) hP1).put hD nD, upd_same⟩ (fun i H' _ h => h.1.seq hP1 t1) ?_ ?_
  · rintro i x H' H2 hi2 ⟨eP, atD⟩ ⟨u, x1, x2, rfl, hu, rfl, ex1, ex2⟩
    cases ex1
    rw [tl] at hi2
    change (as.map V.ref)[i]? = some x2 at ex2
    obtain ⟨b, hb, hsb⟩ := t3 i _ (by rw [List.getElem?_map, List.getElem?_eq_getElem hi2]; rfl)
    rw [List.getElem?_map, hb] at ex2
    cases ex2
    have su := same_new hu (.tup [V.int (i : Nat), V.ref b])
    have eP2 := eP.trans (same_p su eP.tab)
    have atD2 := su _ _ atD
    have g6 := (hG.row i (toI dss[i]) (by rw [List.getElem?_map, List.getElem?_eq_getElem hi2]; rfl)).sm
    have gl : (toI dss[i]).length = dss[i].length := by unfold toI; rw [List.length_map]
    refine ⟨u, _, rfl, SqT.of upd_same, rfl, _, _, rfl, _, _, rfl, rfl, ?_⟩
    refine ⟨rfl, _, rfl, _, rfl, i, b, dss[i], rfl, by omega, eP2.seq hP1 hsb, h5 _ (List.getElem_mem hi2), by omega, eP2.tab, fun H3 tb => ?_⟩
    have eP3 := eP2.trans (tabbed_p tb)
    have atD3 : H3 D = some (.lst ((List.range i).map fun j => V.str (S (rowT j (dss.getD j []))))) := by rw [tb.2 D nD]; exact atD2
    refine ⟨_, atD3, ?_, eP3.put hD nD, ?_⟩
    · rw [List.length_map, List.length_range]
      exact le_line' (by omega)
    · rw [upd_same, ← rowsT_take (List.getElem?_eq_getElem hi2) fun u => V.str (S u)]
  · rintro H' ⟨eP, atD⟩
    rw [tl] at atD
    refine ⟨⟨_, rfl⟩, _, rfl, _, D, (rowsT dss).map S, rfl, rfl, .inl ?_, ?_, ?_⟩
    · refine SqL.of ?_
      rw [atD]
      unfold rowsT
      rw [List.map_map, List.map_map]
      rfl
    · have s := sum_len ((rowsT dss).map S) 16 fun u hu => by
        obtain ⟨x, hx, rfl⟩ := List.mem_map.mp hu
        unfold rowsT at hx
        obtain ⟨i, hi2, rfl⟩ := List.mem_map.mp hx
        rw [List.mem_range] at hi2
        have e := List.getElem?_eq_getElem hi2
        rw [S_len, getD_at e]
        have l := rowT_len (g := i) (ds := dss[i]) (by omega)
        have g6 := (hG.row i (toI dss[i]) (by rw [List.getElem?_map, e]; rfl)).sm
        have gl : (toI dss[i]).length = dss[i].length := by unfold toI; rw [List.length_map]
        omega
      have m : ((rowsT dss).map S).length = dss.length := by unfold rowsT; rw [List.length_map, List.length_map, List.length_range]
      rw [m] at s ⊢
      have one : ("\n" : Str).length = 1 := by decide +kernel
      rw [one]
      omega
    · have e : ("\n" : Str) = S [10] := rfl
      rw [e, join_S]
      exact q H' ((same_p e1 hP).trans eP)
end
end B2

namespace B2
open PySem L2 SX
theorem passZ0 {X : Cx} {P : Program} {w : World} : Passes (CXz P w) X (fun _ _ _ => False) := by
  rintro _ _ _ _ _ _ _ ⟨_, _, _, _, _, _, _, _, _, _, _, _, z⟩
  exact z.elim
theorem rowT_nil (g : Nat) : rowT g [] = TL.numL g ++ [58] := by
  unfold rowT
  show TL.numL g ++ [58] ++ [] = _
  rw [List.append_nil]
theorem rowT_snoc (g d : Nat) (ds : List Nat) : rowT g (ds ++ [d]) = rowT g ds ++ [32] ++ [48 + d] := by
  unfold rowT
  rw [flatD_app]
  simp [flatD, List.append_assoc]
section
variable {P : Program} {w : World} {K : PySem.W.Frag} {mg : Str → Option Value} {base : Heap}
/-! ### law -/
abbrev law11N : List Str := ["_law_script", "_law_many", "_law_wishes", "_law_row", "_law_handed", "_law_found", "_law_lines", "_law_guest", "_law_line", "_law_one", "_law_again"]
theorem sc_law : FnScope ["_law_script", "_law_many", "_law_wishes", "_law_row", "_law_handed", "_law_found", "_law_lines", "_law_guest", "_law_line", "_law_one", "_law_again"] ["_law_script"] (defScope s_law) := ⟨rfl, rfl, rfl, by decide +kernel, rfl, by decide +kernel, by decide +kernel⟩
def sp_law (K : PySem.W.Frag) (PS : Addr) : Sp := fun vs H Q _ => ∃ (a : Addr) (ns : List Int), vs = [.ref a] ∧ SqL K H a (ns.map V.int) ∧ ns.length ≤ 63 ∧ H PS = some (.tbl #[]) ∧ ∀ H', Q (.bl true) H'
theorem ok_law {cN PS : Addr} {f : Addr} {fd : FuncData} (F : Fun K "law" "law" s_law f fd) (T : Own mg) (C1 : Cal P w K mg base 1 "_law_cell_at" ["_law_script", "_law_k"] (sp_cell_at K))
    (C2 : Cal P w K mg base 2 "_law_wishes_by" ["_law_script", "_law_many"] (sp_wishes_by K)) (C3 : Cal P w K mg base 1 "_law_whole" ["_law_found"] sp_whole)
    (C4 : Cal P w K mg base 4 "shown" ["wishes"] (sp_shown K PS)) (C5 : CalZ P w K mg base 4 "read" ["text"] (sp_read K cN)) : FnOk P w K mg base CX0 6 f fd ["_law_script"] (sp_law K PS) := by
  obtain ⟨g1, gd1, G1, m1, k1, b1⟩ := C1
  obtain ⟨g2, gd2, G2, m2, k2, b2⟩ := C2
  obtain ⟨g3, gd3, G3, m3, k3, b3⟩ := C3
  obtain ⟨g4, gd4, G4, m4, k4, b4⟩ := C4
  obtain ⟨g5, gd5, G5, m5, k5, b5⟩ := C5
  refine F.ok sc_law (fun vs H Q E h => ?_) (fun cdv A outer s H vs Q E hr h => ?_)
  · obtain ⟨a, ns, rfl, _⟩ := h
    rfl
  obtain ⟨a, ns, rfl, hS, hlen, hP0, q⟩ := h
  have hr1 : Room 1 _ := hr.mono (by decide)
  have hr4 : Room 4 _ := hr.mono (by decide)
  have hu := hr.units
  refine ⟨_, pss_cons (ps_set (i := 1) sc_law.nd rfl (Or.inl rfl) (pe_op op_add pe_int (pe_op op_mod (pe_call G1 hr1 (by rfl) m1 k1 b1 .nil pass0 (pa_cons (pv 0) (pa_cons pe_int pa_nil))) pe_int)))
    (pss_cons (ps_set (i := 2) sc_law.nd rfl (Or.inl rfl) (pe_call G2 (hr.mono (by decide)) (by rfl) m2 k2 b2 .nil pass0 (pa_cons (pv 0) (pa_cons (pv 1) pa_nil))))
    (pss_cons (ps_setLc (i := 4) (own := [("_law_row", 3)]) (g := gName 3) (tt := tYes) rfl sc_law.nd rfl rfl (sw_true rfl rfl rfl (by decide +kernel)) (pi_list (pv 2))
        (blkOk_by (N := law11N) (sc := defScope s_law) (by decide +kernel))
        (fun _ _ _ _ _ => pg_name (i := 3) sc_law.nd rfl (Or.inl rfl)) (fun _ _ _ _ _ => pts_nil) (fun _ _ _ _ _ => pe_callTy (T := "list") (call_lof (K := K) rfl) (by rfl) T.list (by decide +kernel) (pa_cons (pv 3) pa_nil)))
    (pss_cons (ps_set (i := 5) sc_law.nd rfl (Or.inl rfl) (pe_call G4 hr4 (by rfl) m4 k4 b4 .nil pass0 (pa_cons (pv 4) pa_nil)))
    (pss_cons (ps_set (i := 6) sc_law.nd rfl (Or.inl rfl) (pe_lst pa_nil))
    (Evl.pss_cut (ps_for PassesOwn.never rfl (pi_range1 (by rfl) T.rng (pa_cons (pv 1) pa_nil)) (pg_name (i := 7) sc_law.nd rfl (Or.inl rfl))
      (pss_cons (ps_set (i := 8) sc_law.nd rfl (Or.inl rfl) (pe_op op_add_str (pe_callTy call_str_int (by rfl) T.str (by decide +kernel) (pa_cons (pv 7) pa_nil)) pe_str))
      (pss_cons (ps_for PassesOwn.never rfl (pi_list (pe_ix ix_list (pv 2) (pv 7) (fun _ _ => rfl))) (pg_name (i := 9) sc_law.nd rfl (Or.inl rfl))
        (pss_one (ps_set (i := 8) sc_law.nd rfl (Or.inl rfl) (pe_op op_add_str (pe_op op_add_str (pv 8) pe_str) (pe_callTy call_str_int (by rfl) T.str (by decide +kernel) (pa_cons (pv 9) pa_nil))))))
      (pss_one (ps_expr (pe_bm PySem.F.plainAttrs_list PySem.F.slot_list_append PySem.F.type_list_append mt_append (pv 6) (pa_cons (pv 8) pa_nil)))))))
    (pss_cons (ps_if (PW.pt (pw_or (pt_cmpR (op_neD hu) (pv 4) (pv 2) (nomark _)) (pw_or (pt_not (pt_val (pe_callB call_isi (by rfl) T.isI (by decide +kernel) (pa_cons (pv 5) (pa_cons (pe_bltn (v := .ty "str") (by rfl) T.str (by decide +kernel) rfl) pa_nil)))))
        (pw_or1 (pt_cmpR op_ne (pv 5) (pe_join pe_str (pv 6)) (nomark _)))))) (pss_one (ps_ret pe_bl)) pss_nil)
    (pss_cons (ps_set (i := 10) sc_law.nd rfl (Or.inl rfl) (pe_call G5 hr4 (by rfl) m5 k5 b5 .nil passZ0 (pa_cons (pv 5) pa_nil)))
    (pss_cons (ps_if (pt_not (pt_val (pe_callB call_isi (by rfl) T.isI (by decide +kernel) (pa_cons (pv 10) (pa_cons (pe_bltn (v := .ty "list") (by rfl) T.list (by decide +kernel) rfl) pa_nil))))) (pss_one (ps_ret pe_bl)) pss_nil)
    (pss_cons (ps_for PassesOwn.never rfl (pi_list (pv 10)) (pg_name (i := 3) sc_law.nd rfl (Or.inl rfl))
      (pss_one (ps_if (PW.pt (pw_or (pt_not (pt_val (pe_callB call_isi (by rfl) T.isI (by decide +kernel) (pa_cons (pv 3) (pa_cons (pe_bltn (v := .ty "list") (by rfl) T.list (by decide +kernel) rfl) pa_nil)))))
          (pw_or1 (pt_cmpR op_gt (pe_callB call_len_seq (by rfl) T.len PySem.boot_len (pa_cons (pe_lc (own := [("_law_one", 9)]) (g := gName 9) rfl sc_law.nd (pi_list (pv 3))
            (blkOk_by (N := law11N) (sc := defScope s_law) (by decide +kernel))
            (fun _ _ _ _ _ => pg_name (i := 9) sc_law.nd rfl (Or.inl rfl)) (fun _ _ _ _ _ => pts_one (pt_not (pt_val (pe_call G3 hr1 (by rfl) m3 k3 b3 .nil pass0 (pa_cons (pv 9) pa_nil))))) (fun _ _ _ _ _ => pv 9)) pa_nil)) pe_int (nomark _)))))
        (pss_one (ps_ret pe_bl)) pss_nil)))
    (pss_one (ps_ret (pe_cmpR (op_eqD hu) (pv 10) (pv 2) (nomark _))))))))))))), ?_⟩
  have hP : GxR.TabG H PS := ⟨#[], hP0, trivial⟩
  refine ⟨_, rfl, a, ns, 0, rfl, hS, (by decide), fun c => ?_⟩
  refine ⟨_, _, rfl, rfl, (by show (0 : Int) < 6; decide), _, _, rfl, rfl, ?_⟩
  have c1 := Int.emod_lt_of_pos c (show (0 : Int) < 6 by decide)
  have c0 := Int.emod_nonneg c (show (6 : Int) ≠ 0 by decide)
  obtain ⟨n, en, n1, n6⟩ : ∃ n : Nat, 1 + c % 6 = ((n : Nat) : Int) ∧ 1 ≤ n ∧ n ≤ 6 := ⟨(1 + c % 6).toNat, by omega, by omega, by omega⟩
  refine ⟨_, rfl, _, rfl, a, ns, n, (by show [V.ref a, V.int (1 + c % 6)] = _; rw [en]), hS, n1, n6, fun H1 p ws e1 hp hT hG hl => ?_⟩
  obtain ⟨dss, rfl, h5⟩ := dss_of hG
  rw [List.length_map] at hl
  have hP1 := tabG_same hP e1
  obtain ⟨as, t1, t2, t3⟩ := id hT
  rw [List.length_map] at t2
  -- the copies
  refine ⟨_, rfl, p, rfl, ⟨_, t1⟩, fun D hD => ?_⟩
  refine lc_list (K := K) (a := p) (xs := as.map V.ref) (fun i H' => Built H1 D (((dss.map toI).take i).map fun r => r.map V.int) H') (built_start hD) (fun i H' _ h => h.1.seq t1) ?_ ?_
  · intro i x H2 hx hB2
    obtain ⟨b, hb, rfl⟩ := map_ref_get hx
    have hi : i < (dss.map toI).length := by rw [List.length_map, ← t2]; exact (List.getElem?_eq_some_iff.mp hb).1
    obtain ⟨b', hb', hs⟩ := t3 i _ (List.getElem?_eq_getElem hi)
    rw [hb] at hb'
    cases hb'
    refine ⟨rfl, _, rfl, b, _, rfl, .inl (hB2.1.seq hs), fun l hl' => ?_⟩
    obtain ⟨acc, z1, z2, z3⟩ := built_step (f := HO.lst) (r := ((dss.map toI)[i]).map V.int) hD hB2 (same_new hl' _) hl' upd_same
    refine ⟨acc, z1, ?_, ?_⟩
    · rw [z2, List.length_map, List.length_take]
      have := hG.hi
      exact small1000 (by omega)
    · rw [take_one (List.getElem?_eq_getElem hi), List.map_append]
      exact z3
  intro H2 hB2
  rw [List.take_of_length_le (by rw [List.length_map, List.length_map, t2]; exact Nat.le_refl _)] at hB2
  have hD2 : Tab K H2 D (dss.map toI) := hB2.tab.t
  have hP2 := tabG_same hP1 hB2.1
  have hT2 := hT.same hB2.1
  refine ⟨_, rfl, D, dss, rfl, hD2, hG, h5, hP2, fun H3 e3 => ?_⟩
  have hD3 := e3.tabl hP2 hD2
  have hT3 := e3.tabl hP2 hT2
  obtain ⟨bs, r1, r2, r3⟩ := id hT3
  rw [List.length_map] at r2
  refine ⟨(by show 0 ≤ sizeLine; decide), fun L hL => ?_⟩
  have six : ∀ (i : Nat) (ds : List Nat), dss[i]? = some ds → ds.length ≤ 6 := fun i ds hi => by
    have := (hG.row i (toI ds) (by rw [List.getElem?_map, hi]; rfl)).sm
    unfold toI at this
    rw [List.length_map] at this
    exact this
  -- the lines
  refine ⟨fun σ G => Same H3 G ∧ G L = some (.lst (((rowsT dss).map S).map V.str)) ∧ ∃ z7 z8 z9, σ = [some (.ref a), some (.int (1 + c % 6)), some (.ref p), none, some (.ref D), some (.str (S (noteT dss))), some (.ref L), z7, z8, z9, none], ?_, ?_⟩
  · refine ⟨_, rfl, 1 + c % 6, rfl, (by omega), (by omega), ?_⟩
    refine for_range (lo := 0) (n := (1 + c % 6).toNat) (fun i σ G => Same H3 G ∧ G L = some (.lst ((List.range i).map fun j => V.str (S (rowT j (dss.getD j []))))) ∧ ∃ z7 z8 z9, σ = [some (.ref a), some (.int (1 + c % 6)), some (.ref p), none, some (.ref D), some (.str (S (noteT dss))), some (.ref L), z7, z8, z9, none])
      ⟨same_new hL _, upd_same, none, none, none, rfl⟩ ?_ ?_
    · rintro i σ G hi ⟨eG, atL, z7, z8, z9, rfl⟩
      have hi : i < dss.length := by omega
      have ei : (0 : Int) + (i : Int) = (i : Int) := Int.zero_add _
      rw [ei]
      have hds := List.getElem?_eq_getElem hi
      obtain ⟨b, hb, hsb⟩ := r3 i (toI dss[i]) (by rw [List.getElem?_map, hds]; rfl)
      have l6 := six i _ hds
      have hd5 := h5 _ (List.getElem_mem hi)
      have hrow := rowsT_take hds fun u => V.str (S u)
      generalize dss[i] = ds at hsb l6 hd5 hrow
      have nt := numtext3 (n := ((i : Nat) : Int)) (by omega) (by omega)
      have len1 : (":" : Str).length = 1 := by decide +kernel
      have head : Str.ofString (toString ((i : Nat) : Int)) ++ (":" : Str) = S (rowT i (ds.take 0)) := by
        rw [num_S, List.take_zero, rowT_nil]
        exact S_cat _ [58]
      refine ⟨_, rfl, _, rfl, log_small (by omega) (by omega), _, _, rfl, rfl, le_line (by show (Str.ofString (toString ((i : Nat) : Int))).length + (":" : Str).length ≤ 1000; omega), ?_⟩
      refine ⟨_, rfl, _, rfl, p, _, _, _, rfl, rfl, eG.seq r1, atI_nat (by rw [List.getElem?_map, hb]; rfl), b, rfl, ⟨_, eG.seq hsb⟩, for_list (K := K) (a := b) (xs := (toI ds).map V.int) (fun t σ G' => G' = G ∧ ∃ z9, σ = [some (.ref a), some (.int (1 + c % 6)), some (.ref p), none, some (.ref D), some (.str (S (noteT dss))), some (.ref L), some (.int (i : Nat)), some (.str (S (rowT i (ds.take t)))), z9, none])
        ⟨rfl, z9, by rw [← head]; rfl⟩ (fun t σ G' _ h => by rw [h.1]; exact eG.seq hsb) ?_ ?_⟩
      · rintro t x σ G' hx ⟨rfl, z9, rfl⟩
        obtain ⟨y, hy, rfl⟩ := map_int_get hx
        unfold toI at hy
        rw [List.getElem?_map] at hy
        obtain ⟨d, hd, rfl⟩ := Option.map_eq_some_iff.mp hy
        have d5 := hd5 d (List.mem_of_getElem? hd)
        have nd := numtext3 (n := ((d : Nat) : Int)) (by omega) (by omega)
        have lt := rowT_len (g := i) (ds := ds.take t) (by omega)
        rw [List.length_take] at lt
        have lenb : (" " : Str).length = 1 := by decide +kernel
        have next : S (rowT i (ds.take t)) ++ (" " : Str) ++ Str.ofString (toString ((d : Nat) : Int)) = S (rowT i (ds.take (t + 1))) := by
          rw [num_S, TL.numL_lt (by omega), take_one hd, rowT_snoc]
          show S (rowT i (ds.take t)) ++ S [32] ++ S [48 + d] = _
          rw [S_cat, S_cat]
        refine ⟨_, rfl, _, _, rfl, rfl, ?_, _, rfl, _, rfl, log_small (by omega) (by omega), _, _, rfl, rfl, ?_, rfl, some (.int (d : Nat)), ?_⟩
        · rw [S_len, lenb]
          exact le_line (by omega)
        · rw [Str.length_append, S_len, lenb]
          exact le_line (by show (rowT i (ds.take t)).length + 1 + (Str.ofString (toString ((d : Nat) : Int))).length ≤ 1000; omega)
        · rw [← next]
          rfl
      · rintro σ G' ⟨rfl, z9, rfl⟩
        have et : ds.take ((toI ds).map V.int).length = ds := List.take_of_length_le (by unfold toI; rw [List.length_map, List.length_map]; exact Nat.le_refl _)
        rw [et]
        refine ⟨_, rfl, .inl ⟨rfl, _, SqL.of atL⟩, _, rfl, L, _, _, rfl, rfl, atL, ?_, same_put eG hL _, ?_, _, _, _, rfl⟩
        · rw [List.length_map, List.length_range]
          exact le_line' (by omega)
        · rw [upd_same, ← hrow]
    · rintro σ G ⟨eG, atL, z7, z8, z9, rfl⟩
      refine ⟨eG, ?_, _, _, _, rfl⟩
      rw [atL, show (1 + c % 6).toNat = dss.length by omega]
      unfold rowsT
      rw [List.map_map, List.map_map]
      rfl
  rintro σ G ⟨eG, atL, z7, z8, z9, rfl⟩
  have hD4 := hD3.same eG
  have hT4 := hT3.same eG
  refine ⟨_, rfl, _, rfl, _, _, hD4.dp, hT4.dp, dLL_shaped _, dLL_shaped _, _, rfl, ?_⟩
  rw [dLL_refl]
  refine iteF ⟨_, rfl, _, _, _, _, _, rfl, .ty _, .base (.str _), kit_ss, _, rfl, iteF ?_⟩
  have hi6 := hG.hi
  rw [List.length_map] at hi6
  have s16 := sum_len ((rowsT dss).map S) 16 fun u hu => by
    obtain ⟨x, hx, rfl⟩ := List.mem_map.mp hu
    unfold rowsT at hx
    obtain ⟨i, hi2, rfl⟩ := List.mem_map.mp hx
    rw [List.mem_range] at hi2
    have e := List.getElem?_eq_getElem hi2
    rw [S_len, getD_at e]
    have l := rowT_len (g := i) (ds := dss[i]) (by omega)
    have := six i _ e
    omega
  have many : ((rowsT dss).map S).length = dss.length := by unfold rowsT; rw [List.length_map, List.length_map, List.length_range]
  rw [many] at s16
  have one : ("\n" : Str).length = 1 := by decide +kernel
  refine ⟨_, rfl, ⟨_, rfl⟩, _, rfl, _, L, (rowsT dss).map S, rfl, rfl, .inl (SqL.of atL), by rw [many, one]; omega, rfl, _, rfl, ?_⟩
  have joined : Txt.join ("\n" : Str) ((rowsT dss).map S) = S (noteT dss) := join_S [10] (rowsT dss)
  rw [joined, decide_eq_true (rfl : V.str (S (noteT dss)) = V.str (S (noteT dss)))]
  refine iteF ?_
  -- read again
  refine ⟨_, rfl, _, rfl, .inl ⟨noteT dss, rfl, note_len hG, dss, noted_note hG h5, fun D2 H5 e5 hD5 hT5 => ?_⟩⟩
  have hT6 := hT4.same e5
  obtain ⟨cs, u1, u2, u3⟩ := id hT5
  refine ⟨_, rfl, _, _, _, _, _, rfl, .ty _, ty_list u1, kit_ll, _, rfl, iteF ?_⟩
  refine ⟨_, rfl, D2, rfl, ⟨_, u1⟩, for_list (K := K) (a := D2) (xs := cs.map V.ref) (fun i σ G' => Same H5 G' ∧ ∃ z3, σ = [some (.ref a), some (.int (1 + c % 6)), some (.ref p), z3, some (.ref D), some (.str (S (noteT dss))), some (.ref L), z7, z8, z9, some (.ref D2)])
    ⟨Same.refl H5, none, rfl⟩ (fun i σ G' _ h => h.1.seq u1) ?_ ?_⟩
  · rintro i x σ G' hx ⟨eG', z3, rfl⟩
    obtain ⟨b, hb, rfl⟩ := map_ref_get hx
    have hi : i < (dss.map toI).length := by rw [← u2]; exact (List.getElem?_eq_some_iff.mp hb).1
    obtain ⟨b', hb', hs⟩ := u3 i _ (List.getElem?_eq_getElem hi)
    rw [hb] at hb'
    cases hb'
    generalize (dss.map toI)[i] = r at hs
    refine ⟨_, rfl, _, _, _, _, _, rfl, .ty _, ty_list (eG'.seq hs), kit_ll, _, rfl, iteF ?_⟩
    refine ⟨_, rfl, b, rfl, ⟨_, eG'.seq hs⟩, fun Lx hLx => ?_⟩
    refine lc_list (K := K) (a := b) (xs := r.map V.int) (fun j G2 => Same G' G2 ∧ G2 Lx = some (.lst [])) ⟨same_new hLx _, upd_same⟩ (fun j G2 _ h => (eG'.trans h.1).seq hs) ?_ ?_
    · rintro j y G2 hy ⟨e2, at2⟩
      obtain ⟨y, _, rfl⟩ := map_int_get hy
      exact ⟨rfl, _, rfl, y, rfl, _, rfl, e2, at2⟩
    · rintro G2 ⟨e2, at2⟩
      refine ⟨Lx, _, rfl, .inl (SqL.of at2), _, _, rfl, rfl, _, rfl, ?_⟩
      rw [decide_eq_false (show ¬ ((([] : List V).length : Nat) : Int) > 0 by decide)]
      exact iteF ⟨eG'.trans e2, _, rfl⟩
  · rintro σ G' ⟨eG', z3, rfl⟩
    refine ⟨_, rfl, _, rfl, _, _, (hT5.same eG').dp, (hT6.same eG').dp, dLL_shaped _, dLL_shaped _, ?_⟩
    rw [dLL_refl]
    exact q _
end
end B2

namespace B2
open PySem L2
theorem all_mk {l : PySem.W.OpenLaw} {w : World} {K : PySem.W.Frag} {h : Heap} {mg : Str → Option Value} {fa : Addr} (X : K.In h) (G : h.Ns mainGlobals mg) (hfa : mg "law" = some (.ref fa))
    {f1 f2 f3 f4 f5 f6 f7 f8 f9 f10 f11 f12 : Addr} {od1 an1 od2 an2 od3 an3 od4 an4 od5 an5 od6 an6 od7 an7 od8 an8 od9 an9 od10 an10 od11 an11 od12 an12 : Option Addr} {sl1 sl2 sl3 sl4 sl5 sl6 sl7 sl8 sl9 sl10 sl11 sl12 : Array (Option Value)} {oc1 kV1 dc1 pm1 cd1 ct1 oc2 kV2 dc2 pm2 cd2 ct2 oc3 kV3 dc3 pm3 cd3 ct3 oc4 kV4 dc4 pm4 cd4 ct4 oc5 kV5 dc5 pm5 cd5 ct5 oc6 kV6 dc6 pm6 ct6 oc7 kV7 dc7 pm7 cd7 ct7 oc8 kV8 dc8 pm8 cd8 ct8 oc9 kV9 dc9 pm9 cd9 ct9 oc10 kV10 dc10 pm10 cd10 ct10 oc11 kV11 dc11 pm11 cd11 ct11 oc12 kV12 dc12 pm12 cd12 ct12 : Value}
    {cS PS : Addr}
    (a1 : PySem.W.nsIn K mainGlobals "is_guest" = some (some (.ref f1))) (l1 : K.lookup f1 = some ⟨oc1, od1, .func (PySem.W.fnOf "is_guest" "is_guest" (defArgs s_is_guest) (defBody s_is_guest) (defScope s_is_guest) .none kV1 dc1 pm1 an1 cd1 ct1), sl1⟩) (c1 : PySem.W.codeIn K cd1 "is_guest" = true) (k1 : PySem.W.keepIn K (.ref f1) = true)
    (a2 : PySem.W.nsIn K mainGlobals "need_row" = some (some (.ref f2))) (l2 : K.lookup f2 = some ⟨oc2, od2, .func (PySem.W.fnOf "need_row" "need_row" (defArgs s_need_row) (defBody s_need_row) (defScope s_need_row) .none kV2 dc2 pm2 an2 cd2 ct2), sl2⟩) (c2 : PySem.W.codeIn K cd2 "need_row" = true) (k2 : PySem.W.keepIn K (.ref f2) = true)
    (a3 : PySem.W.nsIn K mainGlobals "need_wishes" = some (some (.ref f3))) (l3 : K.lookup f3 = some ⟨oc3, od3, .func (PySem.W.fnOf "need_wishes" "need_wishes" (defArgs s_need_wishes) (defBody s_need_wishes) (defScope s_need_wishes) .none kV3 dc3 pm3 an3 cd3 ct3), sl3⟩) (c3 : PySem.W.codeIn K cd3 "need_wishes" = true) (k3 : PySem.W.keepIn K (.ref f3) = true)
    (a4 : PySem.W.nsIn K mainGlobals "read_row" = some (some (.ref f4))) (l4 : K.lookup f4 = some ⟨oc4, od4, .func (PySem.W.fnOf "read_row" "read_row" (defArgs s_read_row) (defBody s_read_row) (defScope s_read_row) .none kV4 dc4 pm4 an4 cd4 ct4), sl4⟩) (c4 : PySem.W.codeIn K cd4 "read_row" = true) (k4 : PySem.W.keepIn K (.ref f4) = true)
    (a5 : PySem.W.nsIn K mainGlobals "read" = some (some (.ref f5))) (l5 : K.lookup f5 = some ⟨oc5, od5, .func (PySem.W.fnOf "read" "read" (defArgs s_read) (defBody s_read) (defScope s_read) .none kV5 dc5 pm5 an5 cd5 ct5), sl5⟩) (c5 : PySem.W.codeIn K cd5 "read" = true) (k5 : PySem.W.keepIn K (.ref f5) = true)
    (a6 : PySem.W.nsIn K mainGlobals "shown_row" = some (some (.ref f6))) (l6 : K.lookup f6 = some ⟨oc6, od6, .func (PySem.W.fnOf "shown_row" "shown_row" (defArgs s_shown_row) (defBody s_shown_row) (defScope s_shown_row) .none kV6 dc6 pm6 an6 (.ref cS) ct6), sl6⟩) (c6 : PySem.W.codeIn K (.ref cS) "shown_row" = true) (k6 : PySem.W.keepIn K (.ref f6) = true)
    (a7 : PySem.W.nsIn K mainGlobals "shown" = some (some (.ref f7))) (l7 : K.lookup f7 = some ⟨oc7, od7, .func (PySem.W.fnOf "shown" "shown" (defArgs s_shown) (defBody s_shown) (defScope s_shown) .none kV7 dc7 pm7 an7 cd7 ct7), sl7⟩) (c7 : PySem.W.codeIn K cd7 "shown" = true) (k7 : PySem.W.keepIn K (.ref f7) = true)
    (a8 : PySem.W.nsIn K mainGlobals "_law_cell_at" = some (some (.ref f8))) (l8 : K.lookup f8 = some ⟨oc8, od8, .func (PySem.W.fnOf "_law_cell_at" "_law_cell_at" (defArgs s_cell_at) (defBody s_cell_at) (defScope s_cell_at) .none kV8 dc8 pm8 an8 cd8 ct8), sl8⟩) (c8 : PySem.W.codeIn K cd8 "_law_cell_at" = true) (k8 : PySem.W.keepIn K (.ref f8) = true)
    (a9 : PySem.W.nsIn K mainGlobals "_law_row_by" = some (some (.ref f9))) (l9 : K.lookup f9 = some ⟨oc9, od9, .func (PySem.W.fnOf "_law_row_by" "_law_row_by" (defArgs s_row_by) (defBody s_row_by) (defScope s_row_by) .none kV9 dc9 pm9 an9 cd9 ct9), sl9⟩) (c9 : PySem.W.codeIn K cd9 "_law_row_by" = true) (k9 : PySem.W.keepIn K (.ref f9) = true)
    (a10 : PySem.W.nsIn K mainGlobals "_law_wishes_by" = some (some (.ref f10))) (l10 : K.lookup f10 = some ⟨oc10, od10, .func (PySem.W.fnOf "_law_wishes_by" "_law_wishes_by" (defArgs s_wishes_by) (defBody s_wishes_by) (defScope s_wishes_by) .none kV10 dc10 pm10 an10 cd10 ct10), sl10⟩) (c10 : PySem.W.codeIn K cd10 "_law_wishes_by" = true) (k10 : PySem.W.keepIn K (.ref f10) = true)
    (a11 : PySem.W.nsIn K mainGlobals "_law_whole" = some (some (.ref f11))) (l11 : K.lookup f11 = some ⟨oc11, od11, .func (PySem.W.fnOf "_law_whole" "_law_whole" (defArgs s_whole) (defBody s_whole) (defScope s_whole) .none kV11 dc11 pm11 an11 cd11 ct11), sl11⟩) (c11 : PySem.W.codeIn K cd11 "_law_whole" = true) (k11 : PySem.W.keepIn K (.ref f11) = true)
    (a12 : PySem.W.nsIn K mainGlobals "law" = some (some (.ref f12))) (l12 : K.lookup f12 = some ⟨oc12, od12, .func (PySem.W.fnOf "law" "law" (defArgs s_law) (defBody s_law) (defScope s_law) .none kV12 dc12 pm12 an12 cd12 ct12), sl12⟩) (c12 : PySem.W.codeIn K cd12 "law" = true) (k12 : PySem.W.keepIn K (.ref f12) = true)
    (z_len : PySem.W.nsIn K mainGlobals "len" = some none)
    (z_rng : PySem.W.nsIn K mainGlobals "range" = some none)
    (z_isI : PySem.W.nsIn K mainGlobals "isinstance" = some none)
    (z_int : PySem.W.nsIn K mainGlobals "int" = some none)
    (z_bool : PySem.W.nsIn K mainGlobals "bool" = some none)
    (z_list : PySem.W.nsIn K mainGlobals "list" = some none)
    (z_set : PySem.W.nsIn K mainGlobals "set" = some none)
    (z_enm : PySem.W.nsIn K mainGlobals "enumerate" = some none)
    (z_str : PySem.W.nsIn K mainGlobals "str" = some none)
    (z_max : PySem.W.nsIn K mainGlobals "max" = some none)
    {t_mg : Tok} (y_mg : PySem.W.nsIn K mainGlobals "MOST_GUESTS" = some (some (.int 6 t_mg)))
    {e_BadWishes : Addr} (g_BadWishes : PySem.W.nsIn K mainGlobals "BadWishes" = some (some (.ref e_BadWishes)))
    {e_NoNote : Addr} (g_NoNote : PySem.W.nsIn K mainGlobals "NoNote" = some (some (.ref e_NoNote)))
    {p_NUM : Addr} {od_NUM : Option Addr} {n_NUM : Nat} {sl_NUM : Array (Option Value)} {t0 t1 t2 t3 t4 t5 : Tok}
    (gNUM : PySem.W.nsIn K mainGlobals "NUMBERS" = some (some (.ref p_NUM)))
    (lNUM : K.lookup p_NUM = some ⟨.type "tuple", od_NUM, .seq #[.str "0" t0, .str "1" t1, .str "2" t2, .str "3" t3, .str "4" t4, .str "5" t5] n_NUM, sl_NUM⟩)
    (w1BadWishes : PySem.W.excIn K e_BadWishes [.type "ValueError", .type "Exception", .type "BaseException", .type "object"] "ValueError.__new__" = true)
    (w2BadWishes : PySem.W.keepIn K (.ref e_BadWishes) = true)
    (w1NoNote : PySem.W.excIn K e_NoNote [.type "ValueError", .type "Exception", .type "BaseException", .type "object"] "ValueError.__new__" = true)
    (w2NoNote : PySem.W.keepIn K (.ref e_NoNote) = true)
    (d_BadWishes : PySem.W.hasDictIn K e_BadWishes = true)
    (t_BadWishes : PySem.W.typeIn K (.ref e_BadWishes) = some (.type "type"))
    (b_BadWishes : PySem.W.subIn K (.ref e_BadWishes) (.type "BaseException") = some true)
    (d_NoNote : PySem.W.hasDictIn K e_NoNote = true)
    (t_NoNote : PySem.W.typeIn K (.ref e_NoNote) = some (.type "type"))
    (b_NoNote : PySem.W.subIn K (.ref e_NoNote) (.type "BaseException") = some true)
    (s_BadWishes_BadWishes : PySem.W.subIn K (.ref e_BadWishes) (.ref e_BadWishes) = some true)
    :
    ∃ fd : FuncData, (∀ (s : Shared) (v : Value), BindsTo s fd ⟨[v], []⟩ [("_law_script", v)]) ∧ ∀ base : Heap, K.In base → base.Ns mainGlobals mg → LamX.TabB base mg cS PS → FnOk l.prog w K mg base CX0 6 fa fd ["_law_script"] (sp_law K PS) := by
  have e := hfa.symm.trans (PySem.W.mg_of X G a12)
  cases e
  have T : Own mg := ⟨PySem.W.mg_none_of X G z_len, PySem.W.mg_none_of X G z_rng, PySem.W.mg_none_of X G z_isI, PySem.W.mg_none_of X G z_int, PySem.W.mg_none_of X G z_bool, PySem.W.mg_none_of X G z_list, PySem.W.mg_none_of X G z_set, PySem.W.mg_none_of X G z_enm, PySem.W.mg_none_of X G z_str, PySem.W.mg_none_of X G z_max⟩
  have WBadWishes : ErrC K mg "BadWishes" e_BadWishes := ⟨PySem.W.mg_of X G g_BadWishes, w1BadWishes, w2BadWishes, b_BadWishes, t_BadWishes⟩
  have WNoNote : ErrC K mg "NoNote" e_NoNote := ⟨PySem.W.mg_of X G g_NoNote, w1NoNote, w2NoNote, b_NoNote, t_NoNote⟩
  have TN : TupN K mg := tupN_of (PySem.W.mg_of X G gNUM) lNUM
  have F1 := fun_mk (st := s_is_guest) l1 c1 k1
  have b1 := F1.binds (ps := ["number", "many"]) fun _ _ _ _ _ _ us hl => match us, hl with | [_, _], _ => rfl
  have F2 := fun_mk (st := s_need_row) l2 c2 k2
  have b2 := F2.binds (ps := ["row", "guest", "many"]) fun _ _ _ _ _ _ us hl => match us, hl with | [_, _, _], _ => rfl
  have F3 := fun_mk (st := s_need_wishes) l3 c3 k3
  have b3 := F3.binds (ps := ["wishes"]) fun _ _ _ _ _ _ us hl => match us, hl with | [_], _ => rfl
  have F4 := fun_mk (st := s_read_row) l4 c4 k4
  have b4 := F4.binds (ps := ["guest", "line"]) fun _ _ _ _ _ _ us hl => match us, hl with | [_, _], _ => rfl
  have F5 := fun_mk (st := s_read) l5 c5 k5
  have b5 := F5.binds (ps := ["text"]) fun _ _ _ _ _ _ us hl => match us, hl with | [_], _ => rfl
  have F6 := fun_mk (st := s_shown_row) l6 c6 k6
  have b6 := F6.binds (ps := ["guest", "row"]) fun _ _ _ _ _ _ us hl => match us, hl with | [_, _], _ => rfl
  have F7 := fun_mk (st := s_shown) l7 c7 k7
  have b7 := F7.binds (ps := ["wishes"]) fun _ _ _ _ _ _ us hl => match us, hl with | [_], _ => rfl
  have F8 := fun_mk (st := s_cell_at) l8 c8 k8
  have b8 := F8.binds (ps := ["_law_script", "_law_k"]) fun _ _ _ _ _ _ us hl => match us, hl with | [_, _], _ => rfl
  have F9 := fun_mk (st := s_row_by) l9 c9 k9
  have b9 := F9.binds (ps := ["_law_cell", "_law_guest", "_law_many", "_law_full"]) fun _ _ _ _ _ _ us hl => match us, hl with | [_, _, _, _], _ => rfl
  have F10 := fun_mk (st := s_wishes_by) l10 c10 k10
  have b10 := F10.binds (ps := ["_law_script", "_law_many"]) fun _ _ _ _ _ _ us hl => match us, hl with | [_, _], _ => rfl
  have F11 := fun_mk (st := s_whole) l11 c11 k11
  have b11 := F11.binds (ps := ["_law_found"]) fun _ _ _ _ _ _ us hl => match us, hl with | [_], _ => rfl
  have F12 := fun_mk (st := s_law) l12 c12 k12
  refine ⟨PySem.W.fnOf "law" "law" (defArgs s_law) (defBody s_law) (defScope s_law) .none kV12 dc12 pm12 an12 cd12 ct12, fun s v => .of_eq rfl, fun base _ _ tb => ?_⟩
  have TB : GxR.TabB base mg cS PS := ⟨tb.code, tb.bm, tb.gP⟩
  have C1 : Cal l.prog w K mg base 1 "is_guest" ["number", "many"] (sp_is_guestX K) := ⟨⟨_, _, ok_is_guestX F1 T, PySem.W.mg_of X G a1, k1, b1⟩⟩
  have C2 : CalX l.prog w K mg base 2 "need_row" ["row", "guest", "many"] (sp_need_rowX K e_BadWishes) := ⟨⟨_, _, ok_need_rowX F2 T WBadWishes C1, PySem.W.mg_of X G a2, k2, b2⟩⟩
  have C3 : CalX l.prog w K mg base 3 "need_wishes" ["wishes"] (sp_need_wishesX K e_BadWishes) := ⟨⟨_, _, ok_need_wishesX F3 T ⟨_, PySem.W.mg_of X G y_mg⟩ WBadWishes C2, PySem.W.mg_of X G a3, k3, b3⟩⟩
  have C4 : CalX l.prog w K mg base 1 "read_row" ["guest", "line"] (sp_read_row e_NoNote) := ⟨⟨_, _, ok_read_row F4 T TN WNoNote, PySem.W.mg_of X G a4, k4, b4⟩⟩
  have C5 : CalZ l.prog w K mg base 4 "read" ["text"] (sp_read K e_NoNote) := ⟨⟨_, _, ok_read F5 T WNoNote (PySem.W.mg_of X G g_BadWishes) (exm_own ⟨d_BadWishes, t_BadWishes, b_BadWishes⟩ s_BadWishes_BadWishes) C4 C3, PySem.W.mg_of X G a5, k5, b5⟩⟩
  have C6 : Cal l.prog w K mg base 1 "shown_row" ["guest", "row"] (sp_shown_row K PS) := ⟨⟨_, _, ok_shown_row l6 c6 TB, PySem.W.mg_of X G a6, k6, b6⟩⟩
  have C7 : Cal l.prog w K mg base 4 "shown" ["wishes"] (sp_shown K PS) := ⟨⟨_, _, ok_shown F7 T C3 C6, PySem.W.mg_of X G a7, k7, b7⟩⟩
  have C8 : Cal l.prog w K mg base 1 "_law_cell_at" ["_law_script", "_law_k"] (sp_cell_at K) := ⟨⟨_, _, ok_cell_at F8 T, PySem.W.mg_of X G a8, k8, b8⟩⟩
  have C9 : Cal l.prog w K mg base 1 "_law_row_by" ["_law_cell", "_law_guest", "_law_many", "_law_full"] sp_row_by := ⟨⟨_, _, ok_row_by F9 T, PySem.W.mg_of X G a9, k9, b9⟩⟩
  have C10 : Cal l.prog w K mg base 2 "_law_wishes_by" ["_law_script", "_law_many"] (sp_wishes_by K) := ⟨⟨_, _, ok_wishes_by F10 T C8 C9, PySem.W.mg_of X G a10, k10, b10⟩⟩
  have C11 : Cal l.prog w K mg base 1 "_law_whole" ["_law_found"] sp_whole := ⟨⟨_, _, ok_whole F11 T, PySem.W.mg_of X G a11, k11, b11⟩⟩
  exact ok_law F12 T C8 C10 C11 C7 C5
theorem walk {l : PySem.W.OpenLaw} {q : Program} {loose : List Str} {XP : (Str → Option Value) → Heap → Prop} {YP : World → Heap → Prop} {d : DefRec} {K : Params → PySem.W.Frag} {cS PS : Addr} (hn : l.most = some 63) (hdf : d.params.defaults = [])
    (hY : ∀ (w : World) (h : Heap), YP w h → (K w.params).In h) (hT : ∀ (w : World) (h : Heap), YP w h → h.get? PS = some { cls := .none, data := .fields #[] })
    (F : ∀ (w : World) (mg : Str → Option Value) (fa : Addr) (h : Heap), (K w.params).In h → h.Ns mainGlobals mg → mg d.name = some (.ref fa) →
      ((K w.params).lookup PS = none ∧ PySem.W.codeHdIn (K w.params) cS PS = true) ∧
      ∃ fd : FuncData, (∀ (s : Shared) (u : Value), BindsTo s fd ⟨[u], []⟩ [("_law_script", u)]) ∧ ∀ base : Heap, (K w.params).In base → base.Ns mainGlobals mg → LamX.TabB base mg cS PS → FnOk l.prog w (K w.params) mg base CX0 6 fa fd ["_law_script"] (sp_law (K w.params) PS)) :
    PySem.W.WalkO q loose XP YP l.row.toRowW d [] (fun f vs => PySem.call f vs) := by
  refine LamX.walk_ofTs (n := 63) (k := 6) (x := "_law_script") (K := K) (CX := fun _ => CX0) hn (by decide) hdf ⟨rfl, by decide, by decide⟩ hY (fun w mg fa h Y KX G hmg => ?_) fun _ _ _ _ _ z => z
  obtain ⟨⟨nT, cT⟩, fd, hb, hF⟩ := F w mg fa h KX G hmg
  refine ⟨fd, [(cS, PS)], sp_law (K w.params) PS, fun p hp => ?_, fun p hp => ?_, fun p hp => ?_, hb, fun H a ns hl _ hH hS => ⟨a, ns, rfl, hS, hl, hH (cS, PS) (List.mem_singleton.mpr rfl), fun _ => rfl⟩, fun base KB NB tb => hF base KB NB (tb (cS, PS) (List.mem_singleton.mpr rfl))⟩ <;> rw [List.mem_singleton.mp hp]
  · exact hT w h Y
  · exact nT
  · exact PySem.W.codeHd_of_K KX cT
end B2
local macro_rules | `(tactic| o_head ($_ $k $a $e)) => `(tactic| o_head (PySem.W.kmHook $k $a $e [75]))

open PySem PySem.W PyProof.Rows in
set_option maxRecDepth 100000 in
set_option maxHeartbeats 0 in
theorem PySem.Challenge.cw_bedtwos_k11_shown_holds : PySem.Challenge.rw_bedtwos_k11_shown.Holds := by
  w_on; o_law; k_head; (case hw => w_witness2)
  k_fill
  refine B2.walk (l := PySem.Challenge.rw_bedtwos_k11_shown) rfl rfl (cS := 79) (PS := 75) (fun w h Y => PySem.W.km_in_of Y) (fun w h Y => PySem.W.km_tabs_of Y 75 (List.mem_singleton.mpr rfl)) ?F
  case F =>
    intro w mg fa h KX G hmg
    refine ⟨⟨by kernel_rfl, by kernel_rfl⟩, ?_⟩
    refine' B2.all_mk (cS := 79) (PS := 75) KX G hmg ?a1 ?l1 ?c1 ?k1 ?a2 ?l2 ?c2 ?k2 ?a3 ?l3 ?c3 ?k3 ?a4 ?l4 ?c4 ?k4 ?a5 ?l5 ?c5 ?k5 ?a6 ?l6 ?c6 ?k6 ?a7 ?l7 ?c7 ?k7 ?a8 ?l8 ?c8 ?k8 ?a9 ?l9 ?c9 ?k9 ?a10 ?l10 ?c10 ?k10 ?a11 ?l11 ?c11 ?k11 ?a12 ?l12 ?c12 ?k12 ?z_len ?z_rng ?z_isI ?z_int ?z_bool ?z_list ?z_set ?z_enm ?z_str ?z_max ?y_mg ?g_BadWishes ?g_NoNote ?gNUM ?lNUM ?w1BadWishes ?w2BadWishes ?w1NoNote ?w2NoNote ?d_BadWishes ?t_BadWishes ?b_BadWishes ?d_NoNote ?t_NoNote ?b_NoNote ?s_BadWishes_BadWishes
    (case a1 => k_is)
    (case l1 => k_is)
    (case c1 => k_is)
    (case k1 => k_is)
    (case a2 => k_is)
    (case l2 => k_is)
    (case c2 => k_is)
    (case k2 => k_is)
    (case a3 => k_is)
    (case l3 => k_is)
    (case c3 => k_is)
    (case k3 => k_is)
    (case a4 => k_is)
    (case l4 => k_is)
    (case c4 => k_is)
    (case k4 => k_is)
    (case a5 => k_is)
    (case l5 => k_is)
    (case c5 => k_is)
    (case k5 => k_is)
    (case a6 => k_is)
    (case l6 => k_is)
    (case c6 => k_is)
    (case k6 => k_is)
    (case a7 => k_is)
    (case l7 => k_is)
    (case c7 => k_is)
    (case k7 => k_is)
    (case a8 => k_is)
    (case l8 => k_is)
    (case c8 => k_is)
    (case k8 => k_is)
    (case a9 => k_is)
    (case l9 => k_is)
    (case c9 => k_is)
    (case k9 => k_is)
    (case a10 => k_is)
    (case l10 => k_is)
    (case c10 => k_is)
    (case k10 => k_is)
    (case a11 => k_is)
    (case l11 => k_is)
    (case c11 => k_is)
    (case k11 => k_is)
    (case a12 => k_is)
    (case l12 => k_is)
    (case c12 => k_is)
    (case k12 => k_is)
    (case z_len => k_is)
    (case z_rng => k_is)
    (case z_isI => k_is)
    (case z_int => k_is)
    (case z_bool => k_is)
    (case z_list => k_is)
    (case z_set => k_is)
    (case z_enm => k_is)
    (case z_str => k_is)
    (case z_max => k_is)
    (case y_mg => k_is)
    (case g_BadWishes => k_is)
    (case g_NoNote => k_is)
    (case gNUM => k_is)
    (case lNUM => k_is)
    (case w1BadWishes => k_exc)
    (case w2BadWishes => k_is)
    (case w1NoNote => k_exc)
    (case w2NoNote => k_is)
    (case d_BadWishes => k_is)
    (case t_BadWishes => k_is)
    (case b_BadWishes => k_is)
    (case d_NoNote => k_is)
    (case t_NoNote => k_is)
    (case b_NoNote => k_is)
    (case s_BadWishes_BadWishes => k_is)
#print axioms PySem.Challenge.cw_bedtwos_k11_shown_holds
